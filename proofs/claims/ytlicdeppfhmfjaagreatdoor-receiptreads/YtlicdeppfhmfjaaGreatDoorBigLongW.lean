/- Long division by a power of 2 with two words or more: the walk. -/
import Derived.Test.YtlicdeppfhmfjaaGreatDoorBigCopy
namespace Go.Proofs.YtlicdeppfhmfjaaGreatDoor.words
open Go.RowKit
set_option maxRecDepth 100000

theorem RowU.other {w : World} {g n z : Nat} {f : Nat → Nat} (h : RowU w g n f) (i : Nat) (u : Value) (hne : z ≠ g) : RowU (w.setCell ⟨z, i, none⟩ u) g n f := by
  unfold RowU at *
  simp only [World.setCell, Array.getElem?_modify]
  rw [if_neg hne]
  exact h
theorem ex_set (w : World) (z i : Nat) (u : Value) : Ex w (w.setCell ⟨z, i, none⟩ u) z :=
  ⟨rfl, rfl, rfl, by simp [World.setCell], fun k _ hk => by simp only [World.setCell, Array.getElem?_modify]; rw [if_neg (fun e => hk e.symm)]⟩
theorem updU_same (f : Nat → Nat) (i : Nat) : updU f i (f i) = f := by
  funext k
  unfold updU
  split
  · next e => rw [e]
  · rfl

set_option maxRecDepth 100000 in
set_option maxHeartbeats 4000000 in
theorem div_long (a b : Option Addr) (n k ca cb M D s L : Nat) (w : World) (ha : Ru w a n ca (dig M)) (hb : Ru w b k cb (dig D)) (hn : n ≤ 60) (hn2 : 2 < n) (hk2 : 2 ≤ k) (hkn : k ≤ n) (hs : s < 32)
    (hD : D * 2 ^ s = 4294967296 ^ (k - 1) * 2147483648) (hle : D ≤ M) (hL : BitsOf D L) (hLs : L + s = 32 * k) :
    Calls Tryz.prog 106 #[.slice a n ca, .slice b k cb] w fun e w' => DivGives w (M / D) (M % D) e w' := by
  obtain ⟨i0, hi, hz0, hz1, hz2⟩ := info_parts info_u32
  have HA : Hid (Ru w a n ca (dig M)) := ha
  have HBB : Hid (Ru w b k cb (dig D)) := hb
  have HC := bigcmp_any a b n k ca cb M D w ha hb (by omega) (by omega)
  have HC' : Hid (Calls Tryz.prog 146 #[.slice a n ca, .slice b k cb] w fun e w' => CmpPost w M D e w') := HC
  have hcm : ¬ cmp3 (M : Int) (D : Int) < 0 := by
    by_cases e : D = M
    · subst e; rw [cmp3_eq]; omega
    · rw [cmp3_gt (by omega)]; omega
  obtain ⟨cc, hcc⟩ : ∃ cc, cmp3 (M : Int) (D : Int) = cc := ⟨_, rfl⟩
  rw [hcc] at hcm
  have kz : ((k : Int) == 0) = false := beq_eq_false_iff_ne.2 (by omega)
  have k1 : ((k : Int) == 1) = false := beq_eq_false_iff_ne.2 (by omega)
  have hn2' : ¬ (n : Int) ≤ 2 := by omega
  have HLen : Hid (∀ q, Calls Tryz.prog 105 #[.slice b k cb] (w.drewN q) fun e w' => e = .returned (.int .i64 (L : Int)) ∧ w' = w.drewN q) := fun q => (length_any b k cb D _ (hb.drewN q) (by omega)).mono (by
    rintro e w' ⟨rfl, L', rfl, hL', _⟩
    rw [bitsOf_uniq hL' hL]
    exact ⟨rfl, rfl⟩)
  have hLm : ((L : Int) - 1) % 32 = 31 - (s : Int) := by omega
  have hLp : 0 < L := by omega
  have hll := left_len ha.len hs
  have HV : Hid ((dig (D * 2 ^ s)).length = k) := by rw [hD, high31_len]; exact (by omega : k - 1 + 1 = k)
  have HLA : Hid (∀ w', Below w.heap.size w w' → Calls Tryz.prog 151 #[.slice a n ca, .int .u64 (s : Int)] w' fun e w'' => Gives w' (M * 2 ^ s) e w'') := fun w' hb => left0_any a n ca s M w' (HA.out.below hb) (by omega) hs
  have HLB : Hid (∀ w', Below w.heap.size w w' → Calls Tryz.prog 151 #[.slice b k cb, .int .u64 (s : Int)] w' fun e w'' => Gives w' (D * 2 ^ s) e w'') := fun w' hb => left0_any b k cb s D w' (HBB.out.below hb) (by omega) hs
  have HEND : Hid (∀ m U Q, LongInv (M * 2 ^ s) m k 0 U Q → nv ((List.range (m + 1)).map Q) = M / D ∧ nv ((List.range (m + k + 1)).map U) / 2 ^ s = M % D) := fun m U Q h => long_end hD hk2 h
  have HD31 : Hid (D * 2 ^ s = 4294967296 ^ (k - 1) * 2147483648) := hD
  have hD0 : 0 < D := by
    rcases Nat.eq_zero_or_pos D with h | h
    · rw [h, Nat.zero_mul] at hD
      exact absurd hD.symm (Nat.ne_of_gt (Nat.mul_pos (Nat.pow_pos (by decide)) (by decide)))
    · exact h
  have hMS0 : 0 < M * 2 ^ s := Nat.mul_pos (by omega) (Nat.two_pow_pos _)
  obtain ⟨m, hm⟩ : ∃ m, m + k + 1 = n + 2 := ⟨n + 1 - k, by omega⟩
  obtain ⟨k1', hk1⟩ : ∃ k1', k1' + 1 = k := ⟨k - 1, by omega⟩
  obtain ⟨k2', hk2'⟩ : ∃ k2', k2' + 2 = k := ⟨k - 2, by omega⟩
  have em : (n : Int) + 2 - (k : Int) - 1 = (m : Int) := by omega
  have ek1 : (k : Int) - 1 = (k1' : Int) := by omega
  have ek2 : (k : Int) - 2 = (k2' : Int) := by omega
  clear ha hb HC hD hL hle
  generalize hMS : M * 2 ^ s = MS at *
  generalize hDS : D * 2 ^ s = DS at *
  go_enter Tryz.func106, Tryz.ntmps106
  go_wp2_with fail
  refine HC'.out.mono ?_
  rintro e w1 ⟨rfl, q, rfl⟩
  rw [hcc]
  clear hcc
  go_wp2_with fail
  refine (HLen.out q).mono ?_
  rintro e w2 ⟨rfl, rfl⟩
  go_wp2_with fail
  have es : (32 : Int) - (31 - (s : Int)) - 1 = (s : Int) := by omega
  simp only [es]
  clear es hLm hLp
  refine (HLB.out _ (below_drewN (Below.refl _ w) q)).mono ?_
  rintro e w3 ⟨av, nv3, cv, rfl, hr3, hb3⟩
  have enk : nv3 = k := by rw [← hr3.len]; exact HV.out
  subst enk
  have HRV : Hid (Ru w3 av nv3 cv (dig DS)) := hr3
  have HB3 : Hid (Below w.heap.size w w3) := (below_drewN (Below.refl _ w) q).trans hb3
  have hav : ∀ b off, av = some ⟨b, off, none⟩ → b ≠ w3.heap.size := fun b off e => by have := hr3.lies (by omega) b off e; omega
  clear hr3 hb3 HLB HLen HC'
  go_wp2_with (first
    | (at_make; refine wpList_make_full _ rfl _ _ 102 rfl w3.heap.size 83 i0 (.int .u32 0) 1 Tryz.underlying102 hi hz0 hz1 _ _ _ _ (n + 2) rfl rfl ?c0 ?c1 ?c2 ?c3 ?c4 ?_))
  try (case c0 => first | rfl | (congr 1; omega))
  try (case c1 => first | rfl | (congr 1; omega))
  case c2 => first | omega | (rw [hz2]; omega)
  case c3 => unfold maxLen; omega
  try (case c4 => simp)
  intro w4 hown hgr
  have HU4 : Hid (RowU w4 w3.heap.size (n + 2) (fun _ => 0)) := rowU_made hown
  have hB34 : Below w3.heap.size w3 w4 := (Below.refl _ _).grown hgr (Nat.le_refl _) (fun k hk => by cases hk)
  have HB4 : Hid (Below w.heap.size w w4) := HB3.out.trans (hB34.mono HB3.out.size)
  have HV4 : Hid (Ru w4 av nv3 cv (dig DS)) := HRV.out.below hB34
  have hG3 : w.heap.size ≤ w3.heap.size := HB3.out.size
  clear hown hgr hB34 HRV HB3
  generalize hGU : w3.heap.size = GU at *
  clear hGU
  go_wp2_with fail
  refine (HLA.out _ HB4.out).mono ?_
  rintro e w5 ⟨al, nl, cl, rfl, hr5, hb5⟩
  have hnl0 : nl ≠ 0 := dig_none hr5.len hMS0
  have hnl : nl ≤ n + 1 := by rw [← hr5.len]; exact hll
  have HRL : Hid (Ru w5 al nl cl (dig MS)) := hr5
  have HB5 : Hid (Below w.heap.size w w5) := HB4.out.trans (hb5.mono HB4.out.size)
  have HV5 : Hid (Ru w5 av nv3 cv (dig DS)) := HV4.out.below hb5
  have hgu5 : GU < w4.heap.size := heap_lt HU4.out
  have HU5 : Hid (RowU w5 GU (n + 2) (fun _ => 0)) := by
    have goal : RowU w5 GU (n + 2) (fun _ => 0) := by
      have h := HU4.out
      unfold RowU at *
      rw [hb5.block GU hgu5]
      exact h
    exact goal
  clear hr5 hb5 HU4 HB4 HV4 HLA
  obtain ⟨w6, hcopy, hu6, hex6⟩ := copy_words al nl cl (n + 2) GU (dig MS) w5 HRL.out (by omega) (by omega) HU5.out
  have HU6 : Hid (RowU w6 GU (n + 2) (fun i => (dig MS).getD i 0)) := hu6
  have HB6 : Hid (Below w.heap.size w w6) := hex6.below HB5.out hG3
  have HV6 : Hid (Ru w6 av nv3 cv (dig DS)) := HV5.out.apart hex6 hav
  clear hu6 hex6 HU5 HB5 HV5 HRL
  go_wp2_with (first
    | (at_make; refine wpList_make_full _ rfl _ _ 102 rfl w6.heap.size 83 i0 (.int .u32 0) 1 Tryz.underlying102 hi hz0 hz1 _ _ _ _ (m + 1) rfl rfl ?e0 ?e1 ?e2 ?e3 ?e4 ?_))
  try (case e0 => first | rfl | (congr 1; omega) | omega | simp)
  try (case e1 => first | rfl | (congr 1; omega) | omega | simp)
  case e2 => first | omega | (rw [hz2]; omega)
  case e3 => unfold maxLen; omega
  try (case e4 => simp)
  intro w7 hown7 hgr7
  have HQ7 : Hid (RowU w7 w6.heap.size (m + 1) (fun _ => 0)) := rowU_made hown7
  have hB67 : Below w6.heap.size w6 w7 := (Below.refl _ _).grown hgr7 (Nat.le_refl _) (fun k hk => by cases hk)
  have hgu7 : GU < w6.heap.size := heap_lt HU6.out
  have HB7 : Hid (Below w.heap.size w w7) := HB6.out.trans (hB67.mono HB6.out.size)
  have HV7 : Hid (Ru w7 av nv3 cv (dig DS)) := HV6.out.below hB67
  have hG6 : w.heap.size ≤ w6.heap.size := HB6.out.size
  have HU7 : Hid (RowU w7 GU (n + 2) (fun i => (dig MS).getD i 0)) := by
    have goal : RowU w7 GU (n + 2) (fun i => (dig MS).getD i 0) := by
      have h := HU6.out
      unfold RowU at *
      rw [hB67.block GU hgu7]
      exact h
    exact goal
  have HST : Hid (LongInv MS m nv3 (m + 1) (fun i => (dig MS).getD i 0) (fun _ => 0)) := by
    have hz : ∀ i, n + 1 ≤ i → (dig MS).getD i 0 = 0 := fun i hi => by simp [List.getD, List.getElem?_eq_none (show (dig MS).length ≤ i by omega)]
    have goal : LongInv MS m nv3 (m + 1) (fun i => (dig MS).getD i 0) (fun _ => 0) := by
      refine ⟨fun j _ => dig_word MS j, fun j h1 h2 => by omega, ?_, fun _ _ => (by decide : 0 < 4294967296), ?_⟩
      · show (dig MS).getD (m + 1 + nv3 - 1) 0 < 2147483648
        rw [hz _ (by omega)]
        decide
      · rw [hf_top, Nat.mul_zero, Nat.mul_zero, Nat.add_zero, ← nv_more (dig MS) (by omega), nv_dig]
    exact goal
  obtain ⟨bv, ov, rfl, hvt⟩ := HV7.out.at (i := k1') (by omega)
  obtain ⟨bv', ov', hvv, hvn⟩ := HV7.out.at (i := k2') (by omega)
  simp only [Option.some.injEq, Addr.mk.injEq, and_true] at hvv
  obtain ⟨rfl, rfl⟩ := hvv
  have htop : (dig DS).getD k1' 0 = 2147483648 := by rw [HD31.out, show nv3 - 1 = k1' by omega]; exact high31_top _
  have hnxt : (dig DS).getD k2' 0 = 0 := by rw [HD31.out, show nv3 - 1 = k1' by omega]; exact high31_low (by omega)
  have HLOW : Hid (∀ i, i < k1' → (dig DS).getD i 0 = 0) := fun i hi => by rw [HD31.out, show nv3 - 1 = k1' by omega]; exact high31_low hi
  have HTOP : Hid ((dig DS).getD k1' 0 = 2147483648) := htop
  rw [htop] at hvt
  rw [hnxt] at hvn
  have hbq : bv ≠ w6.heap.size := by have := HV6.out.lies (by omega) bv ov rfl; omega
  clear hown7 hgr7 hB67 HU6 HB6 HV6 hi hz0 hz1 hz2 hcopy htop hnxt
  generalize hGQ : w6.heap.size = GQ at *
  clear hGQ
  go_wp2_with fail
  go_quiet (fail)
  go_wp2_with fail
  go_loopw [18] (fun jv wr => ∃ (kk : Nat) (U Q : Nat → Nat), kk ≤ m + 1 ∧ jv = .int .i64 ((kk : Int) - 1) ∧ RowU wr GU (n + 2) U ∧ RowU wr GQ (m + 1) Q ∧ Ru wr (some ⟨bv, ov, none⟩) nv3 cv (dig DS) ∧ Below w.heap.size w wr ∧ LongInv MS m nv3 kk U Q) (fun jv _ => (intOf jv + 1).toNat)
  case atStart => exact ⟨m + 1, _, _, Nat.le_refl _, by congr 1; omega, HU7.out, HQ7.out, HV7.out.drewN _, below_drewN HB7.out _, HST.out⟩
  case round =>
    obtain ⟨kk, U, Q, hkm, rfl, hU, hQ, hV, hB, hI⟩ := hrel
    by_cases hk0 : kk = 0
    · subst hk0
      obtain ⟨hq1, hq2⟩ := HEND.out m U Q hI
      have HRQ : Hid (Ru wr (some ⟨GQ, 0, none⟩) (m + 1) (m + 1) ((List.range (m + 1)).map Q)) := hQ.ru hI.2.2.2.1
      have HRU : Hid (Ru wr (some ⟨GU, 0, none⟩) (n + 2) (n + 2) ((List.range (n + 2)).map U)) := hU.ru (by rw [← hm]; exact hI.1)
      have HB8 : Hid (Below w.heap.size w wr) := hB
      have HE1 : Hid (nv ((List.range (m + 1)).map Q) = M / D) := hq1
      have HE2 : Hid (nv ((List.range (n + 2)).map U) / 2 ^ s = M % D) := by rw [← hm]; exact hq2
      clear hU hQ hV hB hI hq1 hq2
      go_wp2_with fail
      refine (trim_any _ _ _ _ _ HRQ.out (by omega)).mono ?_
      rintro e w8 ⟨a8, n8, c8, rfl, hr8, hb8⟩
      rw [HE1.out] at hr8
      have HR8 : Hid (Ru w8 a8 n8 c8 (dig (M / D))) := hr8
      have HRU8 : Hid (Ru w8 (some ⟨GU, 0, none⟩) (n + 2) (n + 2) ((List.range (n + 2)).map U)) := HRU.out.below hb8
      have HB9 : Hid (Below w.heap.size w w8) := HB8.out.trans (hb8.mono HB8.out.size)
      clear hr8 hb8
      go_wp2_with fail
      refine (trim_any _ _ _ _ _ HRU8.out (by omega)).mono ?_
      rintro e w9 ⟨a9, n9, c9, rfl, hr9, hb9⟩
      have HR9 : Hid (Ru w9 a8 n8 c8 (dig (M / D))) := HR8.out.below hb9
      have HB10 : Hid (Below w.heap.size w w9) := HB9.out.trans (hb9.mono HB9.out.size)
      have hn9 : n9 ≤ 200 := by
        rw [← hr9.len]
        have h1 : nv ((List.range (n + 2)).map U) < 4294967296 ^ (n + 2) := by rw [nv_range]; exact nf_lt fun i hi => by have := HRU.out.word i; simpa [List.getD, hi] using this
        have := dig_len (n + 2) h1
        omega
      have hrt := right_any a9 n9 c9 0 s _ w9 hr9 hn9 (by omega) hs
      rw [nv_dig, Nat.mul_zero, Nat.zero_add, HE2.out] at hrt
      have HRT : Hid (Calls Tryz.prog 152 #[.slice a9 n9 c9, .int .u64 (s : Int)] w9 fun e w' => Gives w9 (M % D) e w') := hrt
      clear hr9 hb9 hrt
      go_wp2_with fail
      refine HRT.out.mono ?_
      rintro e w10 ⟨a10, n10, c10, rfl, hr10, hb10⟩
      have HG : Hid (DivGives w (M / D) (M % D) (.returned (.tuple #[.slice a8 n8 c8, .slice a10 n10 c10])) w10) := ⟨a8, n8, c8, a10, n10, c10, rfl, HR9.out.below hb10, hr10, HB10.out.trans (hb10.mono HB10.out.size)⟩
      clear hr10 hb10
      go_wp2_with fail
      refine bodyPost_ret (v := .tuple #[.slice a8 n8 c8, .slice a10 n10 c10]) (by simp [results, Tryz.results106, go_sem]) rfl HG.out
    · obtain ⟨j, rfl⟩ : ∃ j, kk = j + 1 := ⟨kk - 1, by omega⟩
      have ej : ((j + 1 : Nat) : Int) - 1 = (j : Int) := by omega
      rw [ej]
      have HNX := long_next hk2 (by omega) hI
      have hx : U (j + nv3) < 2147483648 := by rw [show j + nv3 = j + 1 + nv3 - 1 by omega]; exact hI.2.2.1
      have hy := hI.1 (j + nv3 - 1) (by omega)
      have hzb := hI.1 (j + nv3 - 2) (by omega)
      have cx := hU.cell (i := j + nv3) (by omega)
      have cy := hU.cell (i := j + nv3 - 1) (by omega)
      have cz := hU.cell (i := j + nv3 - 2) (by omega)
      obtain ⟨p0, hp0⟩ : ∃ p0, j + nv3 = p0 := ⟨_, rfl⟩
      obtain ⟨p1, hp1⟩ : ∃ p1, j + nv3 - 1 = p1 := ⟨_, rfl⟩
      obtain ⟨p2, hp2⟩ : ∃ p2, j + nv3 - 2 = p2 := ⟨_, rfl⟩
      rw [hp1, hp0] at HNX
      rw [hp0] at hx cx
      rw [hp1] at hy cy
      rw [hp2] at hzb cz
      have HUW : Hid (∀ i, i < m + nv3 + 1 → U i < 4294967296) := hI.1
      obtain ⟨x, hxx⟩ : ∃ x, U p0 = x := ⟨_, rfl⟩
      obtain ⟨y, hyy⟩ : ∃ y, U p1 = y := ⟨_, rfl⟩
      obtain ⟨z, hzz⟩ : ∃ z, U p2 = z := ⟨_, rfl⟩
      rw [hxx, hyy] at HNX
      rw [hxx] at hx cx
      rw [hyy] at hy cy
      rw [hzz] at hzb cz
      have HUX : Hid (U p0 = x ∧ U p1 = y) := ⟨hxx, hyy⟩
      obtain ⟨g, hg⟩ : ∃ g, x * 2 + y / 2147483648 = g := ⟨_, rfl⟩
      obtain ⟨yr, hyr⟩ : ∃ yr, y % 2147483648 = yr := ⟨_, rfl⟩
      rw [hg, hyr] at HNX
      have HNX' : Hid (LongInv MS m nv3 j (updU (updU U p1 yr) p0 0) (updU Q j g)) := HNX
      have HU8 : Hid (RowU wr GU (n + 2) U) := hU
      have HQ8 : Hid (RowU wr GQ (m + 1) Q) := hQ
      have HV8 : Hid (Ru wr (some ⟨bv, ov, none⟩) nv3 cv (dig DS)) := hV
      have HB8 : Hid (Below w.heap.size w wr) := hB
      have e0 : (j : Int) + (nv3 : Int) = (p0 : Int) := by omega
      have e1 : (p0 : Int) - 1 = (p1 : Int) := by omega
      have e2 : (p0 : Int) - 2 = (p2 : Int) := by omega
      have hor := or_words x y (by omega) (by omega) (by omega) (by omega)
      obtain ⟨h, hh⟩ : ∃ h, x * 4294967296 + y = h := ⟨_, rfl⟩
      have eh : (x : Int) * 4294967296 + (y : Int) = (h : Int) := by omega
      rw [eh] at hor
      have hhl : h < 9223372036854775808 := by omega
      have eg : (h : Int) / 2147483648 = (g : Int) := by omega
      have er : (h : Int) % 2147483648 = (yr : Int) := by omega
      have hgl : g < 4294967296 := by omega
      have hgn : ¬ (4294967295 : Int) < (g : Int) := by omega
      have hyrl : yr < 2147483648 := by omega
      have hor2 := or_words yr z (by omega) (by omega) (by omega) (by omega)
      have hoz : ¬ (yr : Int) * 4294967296 + (z : Int) < 0 := by omega
      obtain ⟨C, hC⟩ : ∃ C, g * 2147483648 = C := ⟨_, rfl⟩
      have eC : (g : Int) * 2147483648 = (C : Int) := by omega
      obtain ⟨lo, hlo⟩ : ∃ lo, C % 4294967296 = lo := ⟨_, rfl⟩
      have elo : (C : Int) % 4294967296 = (lo : Int) := by omega
      have ehi : (C : Int) / 4294967296 = (x : Int) := by omega
      have eyl : (y : Int) - (lo : Int) = (yr : Int) := by omega
      have hCl : C < 9223372036854775808 := by omega
      have hp0n : p0 < n + 2 := by omega
      have hp1n : p1 < n + 2 := by omega
      have hp2n : p2 < n + 2 := by omega
      have hpp : p1 + 1 = p0 := by omega
      have hpj : k1' + j = p1 := by omega
      clear HNX hI hU hQ hV hB hxx hyy hzz hg hyr hh eh hC hlo hp0 hp1 hp2 ej hk0
      go_wp2_with fail
      go_quiet (fail)
      go_wp2_with fail
      go_quiet (fail)
      go_wp2_with fail
      refine wp_loop_rounds 1 ?_
      rw [rounds_succ]
      go_wp2_with fail
      have hbn : bv ≠ GU := hav bv ov rfl
      have hqn : GU ≠ GQ := by omega
      go_loopw [22, 23, 24] (fun gc gd gi wr => ∃ (i : Nat) (U2 : Nat → Nat) (c : Nat), gi = .int .i64 (i : Int) ∧ i ≤ nv3 ∧ gc = .int .u64 (c : Int) ∧ gd = .int .u64 0 ∧ ((i < nv3 ∧ c = 0 ∧ U2 = U) ∨ (i = nv3 ∧ c = x ∧ U2 = updU U p1 yr)) ∧ RowU wr GU (n + 2) U2 ∧ RowU wr GQ (m + 1) Q ∧ Ru wr (some ⟨bv, ov, none⟩) nv3 cv (dig DS) ∧ Below w.heap.size w wr) (fun _ _ gi _ => nv3 - (intOf gi).toNat)
      case atStart => exact ⟨0, U, 0, rfl, Nat.zero_le _, rfl, rfl, .inl ⟨by omega, rfl, rfl⟩, HU8.out, HQ8.out, HV8.out.drewN _, below_drewN HB8.out _⟩
      case round =>
        obtain ⟨i, U2, c, rfl, hin, rfl, rfl, hcase, hU, hQ, hV, hB⟩ := hrel
        rcases hcase with ⟨hi, rfl, rfl⟩ | ⟨rfl, rfl, rfl⟩
        · obtain ⟨bw, ow, hvw, hcv⟩ := hV.at (i := i) hi
          simp only [Option.some.injEq, Addr.mk.injEq, and_true] at hvw
          obtain ⟨rfl, rfl⟩ := hvw
          by_cases hik : i < k1'
          · rw [HLOW.out i hik] at hcv
            have cu := hU.cell (i := i + j) (by omega)
            have fu := hU.free (i + j)
            have hul := HUW.out (i + j) (by omega)
            have hst := hU.set (i + j) (U2 (i + j))
            rw [updU_same] at hst
            obtain ⟨uv, huv⟩ : ∃ uv, U2 (i + j) = uv := ⟨_, rfl⟩
            rw [huv] at cu hul hst
            have HN : Hid (RowU (wr.setCell ⟨GU, i + j, none⟩ (.int .u32 (uv : Int))) GU (n + 2) U2) := hst
            have HQN : Hid (RowU (wr.setCell ⟨GU, i + j, none⟩ (.int .u32 (uv : Int))) GQ (m + 1) Q) := hQ.other _ _ hqn
            have HVN : Hid (Ru (wr.setCell ⟨GU, i + j, none⟩ (.int .u32 (uv : Int))) (some ⟨bv, ov, none⟩) nv3 cv (dig DS)) := hV.apart (ex_set _ _ _ _) hav
            have HBN : Hid (Below w.heap.size w (wr.setCell ⟨GU, i + j, none⟩ (.int .u32 (uv : Int)))) := below_set hB _ _ _ hG3
            have e63 : (uv : Int) / 9223372036854775808 = 0 := by omega
            have hpn : i + j < n + 2 := by omega
            clear hU hQ hV hB hst huv HNX' HU8 HQ8 HV8 HB8 HUX eC elo ehi eyl eg er e0 e1 e2 hor hor2
            go_wp2_with fail
            go_roundw
            case rel => exact ⟨i + 1, U2, 0, by go_num, by omega, rfl, rfl, .inl ⟨by omega, rfl, rfl⟩, HN.out, HQN.out, HVN.out, HBN.out⟩
            case measure => simp [intOf]; omega
          · obtain rfl : i = k1' := by omega
            rw [HTOP.out] at hcv
            have cu := hU.cell (i := i + j) (by omega)
            have fu := hU.free (i + j)
            have hst := hU.set (i + j) yr
            rw [hpj, HUX.out.2] at cu
            rw [hpj] at hst fu
            have cu' : wr.cell? ⟨GU, i + j, none⟩ = some (.int .u32 (y : Int)) := by rw [hpj]; exact cu
            have fu' : wr.frozen? ⟨GU, i + j, none⟩ = false := by rw [hpj]; exact fu
            have HN : Hid (RowU (wr.setCell ⟨GU, i + j, none⟩ (.int .u32 (yr : Int))) GU (n + 2) (updU U2 p1 yr)) := by rw [hpj]; exact hst
            have HQN : Hid (RowU (wr.setCell ⟨GU, i + j, none⟩ (.int .u32 (yr : Int))) GQ (m + 1) Q) := hQ.other _ _ hqn
            have HVN : Hid (Ru (wr.setCell ⟨GU, i + j, none⟩ (.int .u32 (yr : Int))) (some ⟨bv, ov, none⟩) nv3 cv (dig DS)) := hV.apart (ex_set _ _ _ _) hav
            have HBN : Hid (Below w.heap.size w (wr.setCell ⟨GU, i + j, none⟩ (.int .u32 (yr : Int)))) := below_set hB _ _ _ hG3
            have e63 : (yr : Int) / 9223372036854775808 = 0 := by omega
            have hpn : i + j < n + 2 := by omega
            clear hU hQ hV hB hst cu fu HNX' HU8 HQ8 HV8 HB8 HUX e0 e1 e2 hor hor2 eg er hpj
            go_wp2_with fail
            go_roundw
            case rel => exact ⟨i + 1, _, x, by go_num, by omega, rfl, rfl, .inr ⟨by omega, rfl, rfl⟩, HN.out, HQN.out, HVN.out, HBN.out⟩
            case measure => simp [intOf]; omega
        · have cu := hU.cell (i := p0) (by omega)
          have fu := hU.free p0
          have eu : updU U p1 yr p0 = c := by
            unfold updU
            rw [if_neg (by omega)]
            exact HUX.out.1
          rw [eu] at cu
          have hst := hU.set p0 0
          have hQ' := hQ.other (z := GU) p0 (.int .u32 0) hqn
          have cq := hQ'.cell (i := j) (by omega)
          have fq := hQ'.free j
          have hst2 := hst.other (z := GQ) j (.int .u32 (g : Int)) (Ne.symm hqn)
          have hqs := hQ'.set j g
          obtain ⟨qv, hqv⟩ : ∃ qv : Int, ((Q j : Nat) : Int) = qv := ⟨_, rfl⟩
          rw [hqv] at cq
          have HN : Hid (RowU ((wr.setCell ⟨GU, p0, none⟩ (.int .u32 0)).setCell ⟨GQ, j, none⟩ (.int .u32 (g : Int))) GU (n + 2) (updU (updU U p1 yr) p0 0)) := hst2
          have HQN : Hid (RowU ((wr.setCell ⟨GU, p0, none⟩ (.int .u32 0)).setCell ⟨GQ, j, none⟩ (.int .u32 (g : Int))) GQ (m + 1) (updU Q j g)) := hqs
          have HVN : Hid (Ru ((wr.setCell ⟨GU, p0, none⟩ (.int .u32 0)).setCell ⟨GQ, j, none⟩ (.int .u32 (g : Int))) (some ⟨bv, ov, none⟩) i cv (dig DS)) := (hV.apart (ex_set _ _ _ _) hav).apart (ex_set _ _ _ _) (fun b off e => by
            simp only [Option.some.injEq, Addr.mk.injEq, and_true] at e
            rw [← e.1]
            exact hbq)
          have HBN : Hid (Below w.heap.size w ((wr.setCell ⟨GU, p0, none⟩ (.int .u32 0)).setCell ⟨GQ, j, none⟩ (.int .u32 (g : Int)))) := below_set (below_set hB _ _ _ hG3) _ _ _ hG6
          have hjm : j < m + 1 := by omega
          clear hU hQ hV hB hst hQ' hst2 hqs hqv eu HU8 HQ8 HV8 HB8 HUX e1 e2 hor hor2 eg er eC elo ehi eyl
          go_wp2_with fail
          go_roundw
          case rel => exact ⟨j, _, _, by omega, by go_num, HN.out, HQN.out, HVN.out, HBN.out, HNX'.out⟩
          case measure => first | (simp [intOf]; done) | (simp [intOf]; omega)

end Go.Proofs.YtlicdeppfhmfjaaGreatDoor.words
