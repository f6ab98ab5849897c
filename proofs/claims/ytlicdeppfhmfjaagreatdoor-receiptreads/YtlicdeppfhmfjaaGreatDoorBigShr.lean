/- A number of any size shifted down. -/
import Derived.Test.YtlicdeppfhmfjaaGreatDoorBigSh
namespace Go.Proofs.YtlicdeppfhmfjaaGreatDoor.words
open Go.RowKit
set_option maxRecDepth 100000

theorem or_words' (n x : Int) (n0 : 0 ≤ n) (n1 : n < 4294967296) (x0 : 0 ≤ x) (x1 : x < 4294967296) : bits .or .u64 x (n * 4294967296) = n * 4294967296 + x := by
  obtain ⟨p, rfl⟩ := Int.eq_ofNat_of_zero_le n0
  obtain ⟨q, rfl⟩ := Int.eq_ofNat_of_zero_le x0
  have e : ((p : Int) * 4294967296) = ((p * 4294967296 : Nat) : Int) := by simp
  rw [e, or64 _ _ (by omega) (by omega)]
  have h := Nat.shiftLeft_add_eq_or_of_lt (show q < 2 ^ 32 by omega) p
  rw [Nat.shiftLeft_eq] at h
  have h2 : p * 4294967296 ||| q = p * 4294967296 + q := h.symm
  rw [Nat.or_comm, h2]; simp

theorem right_sum {a b c X C : Nat} (h1 : a < C) (h2 : c + C ≤ 4294967296) : (a + (4294967296 * b + c)) % 4294967296 + 4294967296 * X = a + (4294967296 * X + c) := by omega
theorem right_arith {f0 f1 X P C : Nat} (hB : 4294967296 = P * C) (hP : 0 < P) (h0 : f0 < 4294967296) (hx : X % P = f1 % P) : ((f0 + 4294967296 * f1) / P) % 4294967296 + 4294967296 * (X / P) = (f0 + 4294967296 * X) / P := by
  have e0 : ∀ y, 4294967296 * y = P * (C * y) := fun y => by rw [← Nat.mul_assoc, ← hB]
  have e1 : ∀ y, (f0 + 4294967296 * y) / P = f0 / P + C * y := fun y => by
    rw [e0, Nat.add_mul_div_left _ _ hP]
  have e2 : ∀ y, C * y = 4294967296 * (y / P) + C * (y % P) := fun y => by
    rw [e0, Nat.mul_left_comm, ← Nat.mul_add, Nat.div_add_mod]
  have hC : f0 / P < C := Nat.div_lt_of_lt_mul (by rw [← hB]; exact h0)
  have hm : f1 % P < P := Nat.mod_lt _ hP
  have hl : C * (f1 % P) + C ≤ 4294967296 := by
    have h3 : C * (f1 % P + 1) ≤ C * P := Nat.mul_le_mul_left _ hm
    rw [Nat.mul_comm C P, ← hB] at h3
    exact h3
  have a1 := e1 f1
  have a2 := e1 X
  have a3 := e2 f1
  have a4 := e2 X
  rw [a1, a2, a3, a4, hx]
  exact right_sum hC hl

theorem right_mod {P C : Nat} (hB : 4294967296 = P * C) (a X : Nat) : (a + 4294967296 * X) % P = a % P := by
  have e0 : 4294967296 * X = P * (C * X) := by rw [← Nat.mul_assoc, ← hB]
  rw [e0, Nat.add_mul_mod_self_left]

theorem right_nf {P C : Nat} (hB : 4294967296 = P * C) (hP : 0 < P) (n : Nat) : ∀ (f : Nat → Nat), (∀ i, f i < 4294967296) → (∀ i, n ≤ i → f i = 0) → nf (fun j => ((f j + 4294967296 * f (j + 1)) / P) % 4294967296) n = nf f n / P := by
  induction n with
  | zero => intro f _ _; rw [nf, nf, Nat.zero_div]
  | succ n ih =>
    intro f h hz
    have ih' := ih (fun i => f (i + 1)) (fun i => h _) fun i hi => hz _ (by omega)
    have hx : nf (fun i => f (i + 1)) n % P = f 1 % P := by
      cases n with
      | zero => rw [nf, hz 1 (Nat.le_refl _)]
      | succ n =>
        rw [nf_cons]
        exact right_mod hB _ _
    rw [nf_cons, nf_cons f, ih']
    exact right_arith hB hP (h 0) hx

theorem hf_key (f : Nat → Nat) (i k : Nat) : nf f (i + k) = nf f i + 4294967296 ^ i * nf (fun j => f (i + j)) k := by
  induction k with
  | zero => rw [nf, Nat.mul_zero]; rfl
  | succ k ih => rw [← Nat.add_assoc, nf, ih, nf, Nat.mul_add, ← Nat.mul_assoc, ← Nat.pow_add, Nat.add_assoc]
theorem div_split {a p h : Nat} (hp : 0 < p) (ha : a < p) : (a + p * h) / p = h := by
  rw [Nat.add_mul_div_left _ _ hp, Nat.div_eq_of_lt ha, Nat.zero_add]
theorem hf_div {f : Nat → Nat} (hf' : ∀ i, f i < 4294967296) {i n : Nat} (h : i ≤ n) : hf f i n = nf f n / 4294967296 ^ i := by
  have key := hf_key f i (n - i)
  rw [Nat.add_sub_cancel' h] at key
  have hlt := nf_lt (f := f) (n := i) fun j _ => hf' j
  rw [key]
  exact (div_split (Nat.lt_of_le_of_lt (Nat.zero_le _) hlt) hlt).symm

/-- The words so far of a number shifted down. -/
def RightInv (la : List Nat) (n wd s i : Nat) (f : Nat → Nat) : Prop := (∀ j, j < n - wd → f j < 4294967296) ∧ ∀ j, j < i → f j = ((la.getD (j + wd) 0 + 4294967296 * la.getD (j + wd + 1) 0) / 2 ^ s) % 4294967296

theorem right_end {la : List Nat} {n wd s : Nat} {f : Nat → Nat} (h : RightInv la n wd s (n - wd) f) (hl : la.length = n) (hw : wd < n) (hs : s < 32) (hlt : ∀ i, la.getD i 0 < 4294967296) : nv ((List.range (n - wd)).map f) = nv la / 2 ^ (32 * wd + s) := by
  obtain ⟨C, hC, _⟩ := pow_parts hs
  rw [nv_range, nf_congr h.2, Nat.pow_add, ← pow32, ← Nat.div_div_eq_div_mul, nv_nf, hl, ← hf_div hlt (by omega)]
  unfold hf
  have := right_nf hC (Nat.two_pow_pos s) (n - wd) (fun j => la.getD (wd + j) 0) (fun i => hlt _) (fun i hi => by
    simp [List.getD, List.getElem?_eq_none (show la.length ≤ wd + i by omega)])
  rw [← this]
  exact nf_congr fun j _ => by rw [Nat.add_comm j wd, show wd + j + 1 = wd + (j + 1) by omega]

theorem right_small {la : List Nat} {n wd s : Nat} (hl : la.length = n) (hw : n ≤ wd) (hlt : ∀ i, la.getD i 0 < 4294967296) : nv la / 2 ^ (32 * wd + s) = 0 := by
  apply Nat.div_eq_of_lt
  have h1 := nf_lt (f := fun i => la.getD i 0) (n := n) fun i _ => hlt i
  rw [nv_nf, hl]
  rw [pow32] at h1
  exact Nat.lt_of_lt_of_le h1 (Nat.pow_le_pow_right (by decide) (by omega))

theorem right_next {la : List Nat} {n wd s i v : Nat} {f : Nat → Nat} (h : RightInv la n wd s i f) (hv : la.getD (i + wd) 0 + 4294967296 * la.getD (i + wd + 1) 0 = v) : RightInv la n wd s (i + 1) (updU f i (v / 2 ^ s % 4294967296)) := by
  refine ⟨fun j hj => ?_, fun j hj => ?_⟩
  · unfold updU
    split
    · omega
    · exact h.1 j hj
  · unfold updU
    split
    · next e => subst e; rw [hv]
    · exact h.2 j (by omega)

set_option maxHeartbeats 2000000 in
theorem right_some (a : Option Addr) (n ca wd s : Nat) (la : List Nat) (w : World) (ha : Ru w a n ca la) (hn : n ≤ 200) (hw : wd < n) (hs : s < 32) :
    Calls Tryz.prog 152 #[.slice a n ca, .int .u64 ((32 * wd + s : Nat) : Int)] w fun e w' => Gives w (nv la / 2 ^ (32 * wd + s)) e w' := by
  obtain ⟨i0, hi, hz0, hz1, hz2⟩ := info_parts info_u32
  have HA : Hid (Ru w a n ca la) := ha
  have ew : ((32 * wd + s : Nat) : Int) / 32 = (wd : Int) := by omega
  have es : ((32 * wd + s : Nat) : Int) % 32 = (s : Int) := by omega
  have HFin : Hid (∀ f, RightInv la n wd s (n - wd) f → nv ((List.range (n - wd)).map f) = nv la / 2 ^ (32 * wd + s)) := fun f h => right_end h HA.out.len hw hs HA.out.word
  generalize 2 ^ (32 * wd + s) = PP at *
  have hsh : 32 * wd + s < 10000 := by omega
  generalize 32 * wd + s = sft at *
  have hge : ¬ (n : Int) ≤ (wd : Int) := by omega
  obtain ⟨K, hK⟩ : ∃ K, n - wd = K := ⟨_, rfl⟩
  have eK : (n : Int) - (wd : Int) = (K : Int) := by omega
  clear ha
  rw [hK] at HFin
  go_enter Tryz.func152, Tryz.ntmps152
  go_wp2_with (first
    | (at_make; refine wpList_make_full _ rfl _ _ 102 rfl w.heap.size 83 i0 (.int .u32 0) 1 Tryz.underlying102 hi hz0 hz1 _ _ _ _ K rfl rfl ?c0 ?c1 ?c2 ?c3 ?c4 ?_))
  try (case c0 => first | rfl | (congr 1; omega))
  try (case c1 => first | rfl | (congr 1; omega))
  case c2 => first | omega | (rw [hz2]; omega)
  case c3 => unfold maxLen; omega
  try (case c4 => simp)
  intro w1 hown hgr
  have HR1 : Hid (RowU w1 w.heap.size K (fun _ => 0)) := rowU_made hown
  have HB1 : Hid (Below w.heap.size w w1) := (Below.refl _ _).grown hgr (Nat.le_refl _) (fun k hk => by cases hk)
  clear hown hgr hi hz0 hz1 hz2
  go_wp2_with fail
  go_loopw [8] (fun iv wr => ∃ (i : Nat) (f : Nat → Nat), i ≤ K ∧ iv = .int .i64 i ∧ RowU wr w.heap.size K f ∧ Below w.heap.size w wr ∧ RightInv la n wd s i f) (fun iv _ => K - (intOf iv).toNat)
  case atStart => exact ⟨0, fun _ => 0, Nat.zero_le _, rfl, HR1.out, HB1.out, fun _ _ => (by decide : 0 < 4294967296), fun j hj => by omega⟩
  case round =>
    obtain ⟨i, f, hin, rfl, hrow, hb, hinv⟩ := hrel
    by_cases hlt : i < K
    · obtain ⟨ba, oa, rfl, hca⟩ := (HA.out.below hb).at (i := i + wd) (by omega)
      have hx := HA.out.word (i + wd)
      have r0 := hrow.cell (i := i) (by omega)
      have f0 := hrow.free i
      obtain ⟨fi, hfi⟩ : ∃ fi : Int, ((f i : Nat) : Int) = fi := ⟨_, rfl⟩
      rw [hfi] at r0
      clear hfi
      by_cases hmo : i + wd + 1 < n
      · obtain ⟨bb, ob, hab, hcb⟩ := (HA.out.below hb).at (i := i + wd + 1) hmo
        simp only [Option.some.injEq, Addr.mk.injEq, and_true] at hab
        obtain ⟨rfl, rfl⟩ := hab
        have hy := HA.out.word (i + wd + 1)
        obtain ⟨v, hv⟩ : ∃ v, la.getD (i + wd) 0 + 4294967296 * la.getD (i + wd + 1) 0 = v := ⟨_, rfl⟩
        have hnx := right_next hinv hv
        obtain ⟨x, hxx⟩ : ∃ x, la.getD (i + wd) 0 = x := ⟨_, rfl⟩
        obtain ⟨y, hyy⟩ : ∃ y, la.getD (i + wd + 1) 0 = y := ⟨_, rfl⟩
        rw [hxx] at hca hx hv
        rw [hyy] at hcb hy hv
        have hor := or_words' y x (by omega) (by omega) (by omega) (by omega)
        have ev : (y : Int) * 4294967296 + (x : Int) = (v : Int) := by omega
        rw [ev] at hor
        have hsr : (v : Int) / 2 ^ s = ((v / 2 ^ s : Nat) : Int) := by simp
        have hvl : v < 18446744073709551616 := by omega
        have hq : v / 2 ^ s ≤ v := Nat.div_le_self _ _
        obtain ⟨q, hqq⟩ : ∃ q, v / 2 ^ s = q := ⟨_, rfl⟩
        rw [hqq] at hnx hsr hq
        obtain ⟨z, hzz⟩ : ∃ z, q % 4294967296 = z := ⟨_, rfl⟩
        rw [hzz] at hnx
        have e1 : (q : Int) % 4294967296 = (z : Int) := by omega
        have HN : Hid (RowU (wr.setCell ⟨w.heap.size, i, none⟩ (.int .u32 ((z : Nat) : Int))) w.heap.size K (updU f i z)) := hrow.set _ _
        have HBN : Hid (Below w.heap.size w (wr.setCell ⟨w.heap.size, i, none⟩ (.int .u32 ((z : Nat) : Int)))) := below_set hb _ _ _ (Nat.le_refl _)
        have HI : Hid (RightInv la n wd s (i + 1) (updU f i z)) := hnx
        have hmi : (i : Int) + (wd : Int) + 1 < (n : Int) := by omega
        clear hnx hinv hrow hb hxx hyy hqq hzz hv ev
        go_wp2_with fail
        go_roundw
        case rel => exact ⟨i + 1, _, by omega, by go_num, HN.out, HBN.out, HI.out⟩
        case measure => simp [intOf]; omega
      · have hy0 : la.getD (i + wd + 1) 0 = 0 := by simp [List.getD, List.getElem?_eq_none (show la.length ≤ i + wd + 1 by rw [HA.out.len]; omega)]
        obtain ⟨v, hv⟩ : ∃ v, la.getD (i + wd) 0 + 4294967296 * la.getD (i + wd + 1) 0 = v := ⟨_, rfl⟩
        have hnx := right_next hinv hv
        rw [hy0] at hv
        have hv' : la.getD (i + wd) 0 = v := by omega
        rw [hv'] at hca hx
        have hsr : (v : Int) / 2 ^ s = ((v / 2 ^ s : Nat) : Int) := by simp
        have hq : v / 2 ^ s ≤ v := Nat.div_le_self _ _
        obtain ⟨q, hqq⟩ : ∃ q, v / 2 ^ s = q := ⟨_, rfl⟩
        rw [hqq] at hnx hsr hq
        have hqb : q % 4294967296 = q := by omega
        rw [hqb] at hnx
        have e1 : (q : Int) % 4294967296 = (q : Int) := by omega
        have HN : Hid (RowU (wr.setCell ⟨w.heap.size, i, none⟩ (.int .u32 ((q : Nat) : Int))) w.heap.size K (updU f i q)) := hrow.set _ _
        have HBN : Hid (Below w.heap.size w (wr.setCell ⟨w.heap.size, i, none⟩ (.int .u32 ((q : Nat) : Int)))) := below_set hb _ _ _ (Nat.le_refl _)
        have HI : Hid (RightInv la n wd s (i + 1) (updU f i q)) := hnx
        have hmi : ¬ (i : Int) + (wd : Int) + 1 < (n : Int) := by omega
        clear hnx hinv hrow hb hqq hqb hv hv' hy0
        go_wp2_with fail
        go_roundw
        case rel => exact ⟨i + 1, _, by omega, by go_num, HN.out, HBN.out, HI.out⟩
        case measure => simp [intOf]; omega
    · obtain rfl : i = K := by omega
      have HN : Hid (Ru wr (some ⟨w.heap.size, 0, none⟩) i i ((List.range i).map f)) := hrow.ru (by have h := hinv.1; rw [hK] at h; exact h)
      have HB : Hid (Below w.heap.size w wr) := hb
      have HE : Hid (nv ((List.range i).map f) = nv la / PP) := HFin.out f hinv
      clear hrow hb hinv hlt
      go_wp2_with fail
      refine (trim_any _ _ _ _ _ HN.out (by omega)).mono ?_
      rintro e w3 ⟨a3, n3, c3, rfl, hr3, hb3⟩
      rw [HE.out] at hr3
      have HG : Hid (Gives w (nv la / PP) (.returned (.slice a3 n3 c3)) w3) := Gives.mk hr3 (HB.out.trans (hb3.mono HB.out.size))
      clear hr3 hb3
      go_wp2_with fail
      go_ret
      exact HG.out

theorem right_any (a : Option Addr) (n ca wd s : Nat) (la : List Nat) (w : World) (ha : Ru w a n ca la) (hn : n ≤ 200) (hw : wd ≤ 100) (hs : s < 32) :
    Calls Tryz.prog 152 #[.slice a n ca, .int .u64 ((32 * wd + s : Nat) : Int)] w fun e w' => Gives w (nv la / 2 ^ (32 * wd + s)) e w' := by
  by_cases n0 : wd < n
  · exact right_some a n ca wd s la w ha hn n0 hs
  · have HG : Hid (Gives w (nv la / 2 ^ (32 * wd + s)) (.returned (.slice none 0 0)) w) := Gives.mk (by rw [right_small ha.len (by omega) ha.word, dig_zero]; exact ru_nil w) (Below.refl _ _)
    have ew : ((32 * wd + s : Nat) : Int) / 32 = (wd : Int) := by omega
    have es : ((32 * wd + s : Nat) : Int) % 32 = (s : Int) := by omega
    have hge : (n : Int) ≤ (wd : Int) := by omega
    clear ha
    generalize nv la / 2 ^ (32 * wd + s) = M at *
    have hsh : 32 * wd + s < 10000 := by omega
    generalize 32 * wd + s = sft at *
    go_enter Tryz.func152, Tryz.ntmps152
    go_wp2_with fail
    go_ret
    exact HG.out

end Go.Proofs.YtlicdeppfhmfjaaGreatDoor.words
