/- Division of numbers of any size: the short ways. -/
import Derived.Test.YtlicdeppfhmfjaaGreatDoorBigShr
import Derived.Test.YtlicdeppfhmfjaaGreatDoorBigVal
namespace Go.Proofs.YtlicdeppfhmfjaaGreatDoor.words
open Go.RowKit
set_option maxRecDepth 100000

theorem plain_val {m : Nat} (h : (dig m).length ≤ 2) : m = (dig m).getD 0 0 + 4294967296 * (dig m).getD 1 0 := by
  have e := dig_nf m
  have h2 : nf (fun i => (dig m).getD i 0) 2 = m := by
    rw [← nv_more (dig m) h, nv_dig]
  rw [nf, nf, nf] at h2
  simp at h2
  rw [List.getD_eq_getElem?_getD, List.getD_eq_getElem?_getD]
  omega

theorem plain_any (a : Option Addr) (n ca m : Nat) (w : World) (ha : Ru w a n ca (dig m)) (hn : n ≤ 2) :
    Calls Tryz.prog 149 #[.slice a n ca] w fun e w' => e = .returned (.int .u64 (m : Int)) ∧ w' = w := by
  have el := ha.len
  have hp := plain_val (m := m) (by omega)
  have hx := ha.word 0
  have hy := ha.word 1
  have h1 : n < 2 → (dig m).getD 1 0 = 0 := fun h => by simp [List.getD, List.getElem?_eq_none (show (dig m).length ≤ 1 by omega)]
  have h0 : n < 1 → (dig m).getD 0 0 = 0 := fun h => by simp [List.getD, List.getElem?_eq_none (show (dig m).length ≤ 0 by omega)]
  rcases (by omega : n = 0 ∨ n = 1 ∨ n = 2) with rfl | rfl | rfl
  · have hm : m = 0 := by rw [h0 (by omega), h1 (by omega)] at hp; omega
    subst hm
    clear ha el hp hx hy h0 h1
    go_enter Tryz.func149, Tryz.ntmps149
    go_wp2_with fail
    go_ret
    exact ⟨rfl, rfl⟩
  · obtain ⟨ba, oa, rfl, hca⟩ := ha.at (i := 0) (by omega)
    rw [h1 (by omega)] at hp
    have hp' : (dig m).getD 0 0 = m := by omega
    rw [hp', Nat.add_zero] at hca
    rw [hp'] at hx
    clear ha el hp hy h0 h1 hp'
    go_enter Tryz.func149, Tryz.ntmps149
    go_wp2_with fail
    go_ret
    exact ⟨rfl, rfl⟩
  · obtain ⟨ba, oa, rfl, hca⟩ := ha.at (i := 0) (by omega)
    obtain ⟨bb, ob, hab, hcb⟩ := ha.at (i := 1) (by omega)
    simp only [Option.some.injEq, Addr.mk.injEq, and_true] at hab
    obtain ⟨rfl, rfl⟩ := hab
    obtain ⟨x, hxx⟩ : ∃ x, (dig m).getD 0 0 = x := ⟨_, rfl⟩
    obtain ⟨y, hyy⟩ : ∃ y, (dig m).getD 1 0 = y := ⟨_, rfl⟩
    rw [hxx, Nat.add_zero] at hca
    rw [hxx] at hx hp
    rw [hyy] at hcb hy hp
    have hor := or_words' y x (by omega) (by omega) (by omega) (by omega)
    have ev : (y : Int) * 4294967296 + (x : Int) = (m : Int) := by omega
    rw [ev] at hor
    clear ha el hp h0 h1 hxx hyy ev
    go_enter Tryz.func149, Tryz.ntmps149
    go_wp2_with fail
    go_ret
    exact ⟨rfl, rfl⟩

theorem dig_le {M m : Nat} (h : M ≤ m) : (dig M).length ≤ (dig m).length := by
  rcases Nat.lt_or_ge (dig m).length (dig M).length with h1 | h1
  · have := len_less h1; omega
  · exact h1

/-- A quotient and a rest were given back, both of any size. -/
def DivGives (w : World) (q r : Nat) (e : Ending) (w' : World) : Prop := ∃ a n c a' n' c', e = .returned (.tuple #[.slice a n c, .slice a' n' c']) ∧ Ru w' a n c (dig q) ∧ Ru w' a' n' c' (dig r) ∧ Below w.heap.size w w'

theorem Ru.drewN {w : World} {a : Option Addr} {n cap : Nat} {l : List Nat} (h : Ru w a n cap l) (q : Nat) : Ru (w.drewN q) a n cap l := ⟨h.len, h.lt, h.nil, h.room, h.cell, h.typ⟩
theorem dig_none {m n : Nat} (h : (dig m).length = n) (hm : 0 < m) : n ≠ 0 := by
  intro e
  rw [e] at h
  have := dig_nil (List.eq_nil_of_length_eq_zero h)
  omega

set_option maxRecDepth 100000 in
set_option maxHeartbeats 2000000 in
theorem div_less (a b : Option Addr) (n k ca cb m d : Nat) (w : World) (ha : Ru w a n ca (dig m)) (hb : Ru w b k cb (dig d)) (hn : n ≤ 100) (hk : k ≤ 100) (hlt : m < d) :
    Calls Tryz.prog 106 #[.slice a n ca, .slice b k cb] w fun e w' => DivGives w 0 m e w' := by
  have k0 := dig_none hb.len (by omega)
  have kz : ((k : Int) == 0) = false := beq_eq_false_iff_ne.2 (by omega)
  have HA : Hid (Ru w a n ca (dig m)) := ha
  have HC := bigcmp_any a b n k ca cb m d w ha hb hn hk
  have HC' : Hid (Calls Tryz.prog 146 #[.slice a n ca, .slice b k cb] w fun e w' => CmpPost w m d e w') := HC
  have hcm : cmp3 (m : Int) (d : Int) = -1 := cmp3_lt (by omega)
  clear ha hb HC hlt
  go_enter Tryz.func106, Tryz.ntmps106
  go_wp2_with fail
  refine HC'.out.mono ?_
  rintro e w1 ⟨rfl, q, rfl⟩
  rw [hcm]
  go_wp2_with fail
  refine (twin_any a n ca m _ (HA.out.drewN q) hn).mono ?_
  rintro e w2 ⟨a2, n2, c2, rfl, hr2, hb2⟩
  have HG : Hid (DivGives w 0 m (.returned (.tuple #[.slice none 0 0, .slice a2 n2 c2])) w2) := ⟨none, 0, 0, a2, n2, c2, rfl, by rw [dig_zero]; exact ru_nil w2, hr2, (below_drewN (Below.refl _ w) q).trans hb2⟩
  clear hr2 hb2
  go_wp2_with fail
  refine bodyPost_ret (v := .tuple #[.slice none 0 0, .slice a2 n2 c2]) (by simp [results, Tryz.results106, go_sem]) rfl HG.out

theorem ru_one (w : World) (x : Nat) (hx : x < 4294967296) : Ru (w.alloc (.cells #[.int .u32 (x : Int)] 83)) (some ⟨w.heap.size, 0, none⟩) 1 1 [x] := by
  refine ⟨rfl, ?_, (fun h => by cases h), Nat.le_refl _, .inr ⟨w.heap.size, 0, rfl, fun i hi => ?_⟩, fun b off s e _ => by obtain ⟨rfl, -, -⟩ := (by simpa using e : w.heap.size = b ∧ 0 = off ∧ none = s); exact ty_new _ _⟩
  · intro z hz; simp at hz; omega
  · match i, hi with
    | 0, _ => simp

set_option maxRecDepth 100000 in
set_option maxHeartbeats 2000000 in
theorem div_one (a b : Option Addr) (n ca cb m d : Nat) (w : World) (ha : Ru w a n ca (dig m)) (hb : Ru w b 1 cb (dig d)) (hn : n ≤ 100) (hn2 : 2 < n) :
    Calls Tryz.prog 106 #[.slice a n ca, .slice b 1 cb] w fun e w' => DivGives w (m / d) (m % d) e w' := by
  have HA : Hid (Ru w a n ca (dig m)) := ha
  have HC := bigcmp_any a b n 1 ca cb m d w ha hb hn (by omega)
  have HC' : Hid (Calls Tryz.prog 146 #[.slice a n ca, .slice b 1 cb] w fun e w' => CmpPost w m d e w') := HC
  have hgt : d < m := len_less (by rw [ha.len, hb.len]; omega)
  have hcm : cmp3 (m : Int) (d : Int) = 1 := cmp3_gt (by omega)
  obtain ⟨bb, ob, rfl, hcb⟩ := hb.at (i := 0) (by omega)
  have hd0 : d ≠ 0 := by
    intro e
    have h := hb.len
    rw [e, dig_zero] at h
    simp at h
  have hdd : (dig d).getD 0 0 = d := by
    have h := dig_nf d
    rw [hb.len, nf, nf] at h
    simpa using h
  have hdl : d < 4294967296 := by rw [← hdd]; exact hb.word 0
  rw [hdd] at hcb
  have hcb' : ∀ q, (w.drewN q).cell? ⟨bb, ob, none⟩ = some (.int .u32 (d : Int)) := fun q => hcb
  have hrl : m % d < 4294967296 := by have := Nat.mod_lt m (show 0 < d by omega); omega
  have hn2' : ¬ (n : Int) ≤ 2 := by omega
  clear ha hb HC hgt hdd
  go_enter Tryz.func106, Tryz.ntmps106
  go_wp2_with fail
  refine HC'.out.mono ?_
  rintro e w1 ⟨rfl, q, rfl⟩
  rw [hcm]
  have hcc := hcb' q
  go_wp2_with fail
  refine (small_any a n ca d (dig m) _ (HA.out.drewN q) hn (by omega) hdl).mono ?_
  rintro e w2 ⟨a2, n2, c2, rfl, hr2, hb2, _⟩
  rw [nv_dig] at hr2
  rw [nv_dig]
  have HR2 : Hid (Ru w2 a2 n2 c2 (dig (m / d))) := hr2
  have HB2 : Hid (Below w.heap.size w w2) := (below_drewN (Below.refl _ w) q).trans hb2
  clear hr2 hb2 hcb hcb' hcc
  generalize hrr : m % d = r at *
  go_wp2_with fail
  refine (trim_any _ _ _ [r] _ (ru_one w2 r hrl) (by omega)).mono ?_
  rintro e w3 ⟨a3, n3, c3, rfl, hr3, hb3⟩
  have e3 : nv [r] = r := by simp [nv]
  rw [e3] at hr3
  have hal := (Below.refl _ w2).alloc (Nat.le_refl _) (.cells #[.int .u32 (r : Int)] 83)
  have hb4 := hal.trans (hb3.mono hal.size)
  have HG : Hid (DivGives w (m / d) (m % d) (.returned (.tuple #[.slice a2 n2 c2, .slice a3 n3 c3])) w3) := by
    rw [hrr]
    exact ⟨a2, n2, c2, a3, n3, c3, rfl, HR2.out.below hb4, hr3, HB2.out.trans (hb4.mono HB2.out.size)⟩
  clear hr3 hb3 hal hb4
  go_wp2_with fail
  refine bodyPost_ret (v := .tuple #[.slice a2 n2 c2, .slice a3 n3 c3]) (by simp [results, Tryz.results106, go_sem]) rfl HG.out

set_option maxRecDepth 100000 in
set_option maxHeartbeats 2000000 in
theorem div_two (a b : Option Addr) (n k ca cb m d : Nat) (w : World) (ha : Ru w a n ca (dig m)) (hb : Ru w b k cb (dig d)) (hn2 : n ≤ 2) (d0 : 0 < d) (hle : d ≤ m) :
    Calls Tryz.prog 106 #[.slice a n ca, .slice b k cb] w fun e w' => DivGives w (m / d) (m % d) e w' := by
  have HA : Hid (Ru w a n ca (dig m)) := ha
  have HBB : Hid (Ru w b k cb (dig d)) := hb
  have hkn : k ≤ n := by
    have := dig_le hle
    rw [ha.len, hb.len] at this
    exact this
  have HC := bigcmp_any a b n k ca cb m d w ha hb (by omega) (by omega)
  have HC' : Hid (Calls Tryz.prog 146 #[.slice a n ca, .slice b k cb] w fun e w' => CmpPost w m d e w') := HC
  have hcm : ¬ cmp3 (m : Int) (d : Int) < 0 := by
    by_cases e : d = m
    · subst e; rw [cmp3_eq]; omega
    · rw [cmp3_gt (by omega)]; omega
  have k0 := dig_none hb.len d0
  have kz : ((k : Int) == 0) = false := beq_eq_false_iff_ne.2 (by omega)
  have hml : m < 18446744073709551616 := by
    have h := plain_val (m := m) (by rw [ha.len]; exact hn2)
    have := ha.word 0
    have := ha.word 1
    omega
  have hq : m / d ≤ m := Nat.div_le_self _ _
  have hr : m % d < d := Nat.mod_lt _ d0
  have eq1 : (m : Int) / (d : Int) = ((m / d : Nat) : Int) := by simp
  have eq2 : (m : Int) % (d : Int) = ((m % d : Nat) : Int) := by simp
  have eq3 : (m : Int).tmod (d : Int) = ((m % d : Nat) : Int) := by rw [Int.tmod_eq_emod_of_nonneg (by omega)]; exact eq2
  obtain ⟨cc, hcc⟩ : ∃ cc, cmp3 (m : Int) (d : Int) = cc := ⟨_, rfl⟩
  rw [hcc] at hcm
  generalize hQ : m / d = Q at *
  generalize hR : m % d = R at *
  have HWQ : Hid (∀ w, Calls Tryz.prog 144 #[.int .u64 (Q : Int)] w fun e w' => Gives w Q e w') := fun w => words_any Q w (by omega)
  have HWR : Hid (∀ w, Calls Tryz.prog 144 #[.int .u64 (R : Int)] w fun e w' => Gives w R e w') := fun w => words_any R w (by omega)
  have HWT : Hid (∀ w, Calls Tryz.prog 144 #[.int .u64 ((m : Int).tmod (d : Int))] w fun e w' => Gives w R e w') := fun w => by rw [eq3]; exact words_any R w (by omega)
  clear eq3
  have HWW : Hid (∀ w, Calls Tryz.prog 144 #[.int .u64 (IntKind.u64.wrap (Q : Int))] w fun e w' => Gives w Q e w') := fun w => by
    have hwq : IntKind.u64.wrap (Q : Int) = (Q : Int) := by rw [IntKind.wrap_u64]; omega
    rw [hwq]
    exact words_any Q w (by omega)
  have dz : ((d : Int) == 0) = false := beq_eq_false_iff_ne.2 (by omega)
  have dne : (d : Int) ≠ 0 := by omega
  have hn2' : (n : Int) ≤ 2 := by omega
  clear ha hb HC hQ hR
  go_enter Tryz.func106, Tryz.ntmps106
  go_wp2_with fail
  refine HC'.out.mono ?_
  rintro e w1 ⟨rfl, q, rfl⟩
  rw [hcc]
  clear hcc
  go_wp2_with fail
  refine (plain_any a n ca m _ (HA.out.drewN q) hn2).mono ?_
  rintro e w2 ⟨rfl, rfl⟩
  go_wp2_with fail
  refine (plain_any b k cb d _ (HBB.out.drewN q) (by omega)).mono ?_
  rintro e w2 ⟨rfl, rfl⟩
  go_wp2_with fail
  have BW : Hid (Below w.heap.size w (w.drewN q).drew) := (below_drewN (Below.refl _ w) q).drew
  go_region_held (fun _ => True) (trivial)
    (first
      | (go_at_call_of 144 (Value.int .u64 (Q : Int)); refine (HWQ.out _).mono ?_; rintro e w1 ⟨a1, n1, c1, rfl, hr1, hb1⟩
         have R1 : Hid (Ru w1 a1 n1 c1 (dig Q)) := hr1
         have B1 : Hid (Below w.heap.size w w1) := BW.out.trans (hb1.mono BW.out.size)
         clear hr1 hb1)
      | (go_at_call_of 144 (Value.int .u64 (IntKind.u64.wrap (Q : Int))); refine (HWW.out _).mono ?_; rintro e w1 ⟨a1, n1, c1, rfl, hr1, hb1⟩
         have R1 : Hid (Ru w1 a1 n1 c1 (dig Q)) := hr1
         have B1 : Hid (Below w.heap.size w w1) := BW.out.trans (hb1.mono BW.out.size)
         clear hr1 hb1)
      | (go_at_call_of 144 (Value.int .u64 (R : Int)); refine (HWR.out _).mono ?_; rintro e w2 ⟨a2, n2, c2, rfl, hr2, hb2⟩
         have R2 : Hid (Ru w2 a2 n2 c2 (dig R)) := hr2
         have R3 : Hid (Ru w2 a1 n1 c1 (dig Q)) := R1.out.below hb2
         have B2 : Hid (Below w.heap.size w w2) := B1.out.trans (hb2.mono B1.out.size)
         clear hr2 hb2)
      | (go_at_call_of 144 (Value.int .u64 ((m : Int).tmod (d : Int))); refine (HWT.out _).mono ?_; rintro e w2 ⟨a2, n2, c2, rfl, hr2, hb2⟩
         have R2 : Hid (Ru w2 a2 n2 c2 (dig R)) := hr2
         have R3 : Hid (Ru w2 a1 n1 c1 (dig Q)) := R1.out.below hb2
         have B2 : Hid (Below w.heap.size w w2) := B1.out.trans (hb2.mono B1.out.size)
         clear hr2 hb2))
  all_goals (go_wp2_with fail; refine bodyPost_ret (v := .tuple #[.slice a1 n1 c1, .slice a2 n2 c2]) (by simp [results, Tryz.results106, go_sem]) rfl ⟨a1, n1, c1, a2, n2, c2, rfl, R3.out, R2.out, B2.out⟩)

end Go.Proofs.YtlicdeppfhmfjaaGreatDoor.words
