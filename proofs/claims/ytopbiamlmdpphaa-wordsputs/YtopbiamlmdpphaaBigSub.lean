/- The difference of numbers of any size, where it is not below 0. -/
import Derived.Test.YtopbiamlmdpphaaBigFieldN
namespace Go.Proofs.Ytopbiamlmdpphaa.words
open Go.RowKit

theorem sub_parts (x c y : Nat) (hx : x < 4294967296) (hc : c ≤ 1) (hy : y < 4294967296) : ∃ t1 t u c2 : Nat, t1 < 18446744073709551616 ∧ t < 18446744073709551616 ∧ u < 4294967296 ∧ c2 ≤ 1 ∧ t % 4294967296 = u ∧ t / 9223372036854775808 = c2 ∧ u + y + c = x + 4294967296 * c2 ∧
    ((c ≤ x ∧ x = t1 + c) ∨ (x < c ∧ x + 18446744073709551616 = t1 + c)) ∧ ((y ≤ t1 ∧ t1 = t + y) ∨ (t1 < y ∧ t1 + 18446744073709551616 = t + y)) := by
  by_cases h1 : c ≤ x
  · by_cases h2 : y ≤ x - c
    · exact ⟨x - c, x - c - y, x - c - y, 0, by omega, by omega, by omega, by omega, by omega, by omega, by omega, .inl ⟨h1, by omega⟩, .inl ⟨h2, by omega⟩⟩
    · exact ⟨x - c, x - c + 18446744073709551616 - y, x + 4294967296 - c - y, 1, by omega, by omega, by omega, by omega, by omega, by omega, by omega, .inl ⟨h1, by omega⟩, .inr ⟨by omega, by omega⟩⟩
  · exact ⟨x + 18446744073709551616 - c, x + 18446744073709551616 - c - y, x + 4294967296 - c - y, 1, by omega, by omega, by omega, by omega, by omega, by omega, by omega, .inr ⟨by omega, by omega⟩, .inl ⟨by omega, by omega⟩⟩

/-- One word more of a difference. -/
theorem sub_step {S A B P c x y u c2 : Nat} (h : A + P * c = S + B) (hu : u + y + c = x + 4294967296 * c2) : (A + P * x) + P * 4294967296 * c2 = (S + P * u) + (B + P * y) := by
  have e : P * u + P * y + P * c = P * x + P * 4294967296 * c2 := by
    rw [← Nat.mul_add, ← Nat.mul_add, hu, Nat.mul_add, Nat.mul_assoc]
  omega

set_option maxHeartbeats 4000000 in
theorem sub_any (a b : Option Addr) (n k ca cb : Nat) (la lb : List Nat) (w : World) (ha : Ru w a n ca la) (hbb : Ru w b k cb lb) (hkn : k ≤ n) (hn : n ≤ 100) (hle : nv lb ≤ nv la) :
    Calls Try.prog 60 #[.slice a n ca, .slice b k cb] w fun e w' => Gives w (nv la - nv lb) e w' := by
  obtain ⟨i0, hi, hz0, hz1, hz2⟩ := info_parts info_u32
  have HA : Hid (Ru w a n ca la) := ha
  have HBB : Hid (Ru w b k cb lb) := hbb
  have HLE : Hid (nv lb ≤ nv la) := hle
  clear ha hbb hle
  go_enter Try.func60, Try.ntmps60
  go_wp2_with (first
    | (at_make; refine wpList_make_full _ rfl _ _ 51 rfl w.heap.size 22 i0 (.int .u32 0) 1 Try.underlying51 hi hz0 hz1 _ _ _ _ n rfl rfl ?c0 ?c1 ?c2 ?c3 ?c4 ?_))
  try (case c0 => first | rfl | (congr 1; omega))
  try (case c1 => first | rfl | (congr 1; omega))
  case c2 => first | omega | (rw [hz2]; omega)
  case c3 => unfold maxLen; omega
  try (case c4 => simp)
  intro w1 hown hgr
  have HR1 : Hid (RowU w1 w.heap.size n (fun _ => 0)) := rowU_made hown
  have HB1 : Hid (Below w.heap.size w w1) := (Below.refl _ _).grown hgr (Nat.le_refl _) (fun k hk => by cases hk)
  clear hown hgr hi hz0 hz1 hz2
  go_wp2_with fail
  go_loopw [6, 7] (fun cv iv wr => ∃ (i c : Nat) (f : Nat → Nat), i ≤ n ∧ iv = .int .i64 i ∧ cv = .int .u64 c ∧ c ≤ 1 ∧ RowU wr w.heap.size n f ∧ (∀ j, j < n → f j < 4294967296) ∧ Below w.heap.size w wr ∧ nf (fun j => la.getD j 0) i + 4294967296 ^ i * c = nf f i + nf (fun j => lb.getD j 0) i) (fun _ iv _ => n - (intOf iv).toNat)
  case atStart => exact ⟨0, 0, fun _ => 0, Nat.zero_le _, rfl, rfl, by omega, HR1.out, fun _ _ => (by decide : 0 < 4294967296), HB1.out, rfl⟩
  case round =>
    obtain ⟨i, c, f, hin, rfl, rfl, hc2, hrow, hfb, hb, heq⟩ := hrel
    by_cases hlt : i < n
    · obtain ⟨ba, oa, rfl, hca⟩ := (HA.out.below hb).at hlt
      have r0 := hrow.cell (i := i) (by omega)
      have f0 := hrow.free i
      obtain ⟨fi, hfi⟩ : ∃ fi : Int, ((f i : Nat) : Int) = fi := ⟨_, rfl⟩
      rw [hfi] at r0
      clear hfi
      have hx := HA.out.word i
      obtain ⟨x, hxx⟩ : ∃ x, la.getD i 0 = x := ⟨_, rfl⟩
      have HX : Hid (la.getD i 0 = x) := hxx
      rw [hxx] at hx hca
      clear hxx
      by_cases hik : i < k
      · obtain ⟨bb, ob, rfl, hcb⟩ := (HBB.out.below hb).at hik
        have hy := HBB.out.word i
        obtain ⟨y, hyy⟩ : ∃ y, lb.getD i 0 = y := ⟨_, rfl⟩
        have HY : Hid (lb.getD i 0 = y) := hyy
        rw [hyy] at hy hcb
        clear hyy
        obtain ⟨t1, t, u, c2, b1, b2, b3, hcb2, hu, hcc, huy, hc1, hc2'⟩ := sub_parts x c y hx hc2 hy
        have hst := sub_step (S := nf f i) (A := nf (fun j => la.getD j 0) i) (B := nf (fun j => lb.getD j 0) i) (P := 4294967296 ^ i) (c := c) (x := x) (y := y) (u := u) (c2 := c2) heq huy
        have e3 : (t : Int) % 4294967296 = (u : Int) := by omega
        have e4 : (t : Int) / 9223372036854775808 = (c2 : Int) := by omega
        have HN : Hid (RowU (wr.setCell ⟨w.heap.size, i, none⟩ (.int .u32 ((u : Nat) : Int))) w.heap.size n (updU f i u)) := hrow.set _ _
        have HBN : Hid (Below w.heap.size w (wr.setCell ⟨w.heap.size, i, none⟩ (.int .u32 ((u : Nat) : Int)))) := below_set hb _ _ _ (Nat.le_refl _)
        have HF : Hid (∀ j, j < n → updU f i u j < 4294967296) := fun j hj => by
          unfold updU
          split
          · omega
          · exact hfb j hj
        have HC : Hid (c2 ≤ 1) := hcb2
        have HE : Hid (nf (fun j => la.getD j 0) (i + 1) + 4294967296 ^ (i + 1) * c2 = nf (updU f i u) (i + 1) + nf (fun j => lb.getD j 0) (i + 1)) := by
          have g3 : nf (updU f i u) i = nf f i := nf_congr fun j hj => by unfold updU; rw [if_neg (by omega)]
          have g4 : updU f i u i = u := by unfold updU; rw [if_pos rfl]
          have goal : nf (fun j => la.getD j 0) (i + 1) + 4294967296 ^ (i + 1) * c2 = nf (updU f i u) (i + 1) + nf (fun j => lb.getD j 0) (i + 1) := by
            rw [nf, nf, nf, g3, g4, Nat.pow_succ]
            have hX : la.getD i 0 = x := HX.out
            have hY : lb.getD i 0 = y := HY.out
            rw [hX, hY]
            exact hst
          exact goal
        clear hst heq hfb HX HY hcc huy hrow hb
        rcases hc1 with ⟨hc1, hc1'⟩ | ⟨hc1, hc1'⟩
        · rcases hc2' with ⟨hc2', hc2''⟩ | ⟨hc2', hc2''⟩
          · obtain rfl : t = u := by omega
            have e1 : (x : Int) - (c : Int) = (t1 : Int) := by omega
            have e2 : (t1 : Int) - (y : Int) = (t : Int) := by omega
            clear hc1 hc2' hu
            go_wp2_with fail
            go_roundw
            case rel => exact ⟨i + 1, c2, _, by omega, by go_num, rfl, HC.out, HN.out, HF.out, HBN.out, HE.out⟩
            case measure => simp [intOf]; omega
          · have e1 : (x : Int) - (c : Int) = (t1 : Int) := by omega
            have e2 : IntKind.u64.wrap ((t1 : Int) - (y : Int)) = (t : Int) := by rw [IntKind.wrap_u64]; omega
            clear hc1 hc2' hu
            go_wp2_with fail
            go_roundw
            case rel => exact ⟨i + 1, c2, _, by omega, by go_num, rfl, HC.out, HN.out, HF.out, HBN.out, HE.out⟩
            case measure => simp [intOf]; omega
        · rcases hc2' with ⟨hc2', hc2''⟩ | ⟨hc2', hc2''⟩
          · have e1 : IntKind.u64.wrap ((x : Int) - (c : Int)) = (t1 : Int) := by rw [IntKind.wrap_u64]; omega
            have e2 : (t1 : Int) - (y : Int) = (t : Int) := by omega
            clear hc1 hc2' hu
            go_wp2_with fail
            go_roundw
            case rel => exact ⟨i + 1, c2, _, by omega, by go_num, rfl, HC.out, HN.out, HF.out, HBN.out, HE.out⟩
            case measure => simp [intOf]; omega
          · omega
      · have hik' : ¬ (i : Int) < (k : Int) := by omega
        obtain ⟨y, hyy⟩ : ∃ y : Nat, y = 0 := ⟨_, rfl⟩
        have hy : y < 4294967296 := by omega
        have HY : Hid (lb.getD i 0 = y) := by
          show _ = _
          rw [hyy]
          simp [List.getD, List.getElem?_eq_none (show lb.length ≤ i by rw [HBB.out.len]; omega)]
        obtain ⟨t1, t, u, c2, b1, b2, b3, hcb2, hu, hcc, huy, hc1, hc2'⟩ := sub_parts x c y hx hc2 hy
        have hst := sub_step (S := nf f i) (A := nf (fun j => la.getD j 0) i) (B := nf (fun j => lb.getD j 0) i) (P := 4294967296 ^ i) (c := c) (x := x) (y := y) (u := u) (c2 := c2) heq huy
        have e3 : (t : Int) % 4294967296 = (u : Int) := by omega
        have e4 : (t : Int) / 9223372036854775808 = (c2 : Int) := by omega
        have HN : Hid (RowU (wr.setCell ⟨w.heap.size, i, none⟩ (.int .u32 ((u : Nat) : Int))) w.heap.size n (updU f i u)) := hrow.set _ _
        have HBN : Hid (Below w.heap.size w (wr.setCell ⟨w.heap.size, i, none⟩ (.int .u32 ((u : Nat) : Int)))) := below_set hb _ _ _ (Nat.le_refl _)
        have HF : Hid (∀ j, j < n → updU f i u j < 4294967296) := fun j hj => by
          unfold updU
          split
          · omega
          · exact hfb j hj
        have HC : Hid (c2 ≤ 1) := hcb2
        have HE : Hid (nf (fun j => la.getD j 0) (i + 1) + 4294967296 ^ (i + 1) * c2 = nf (updU f i u) (i + 1) + nf (fun j => lb.getD j 0) (i + 1)) := by
          have g3 : nf (updU f i u) i = nf f i := nf_congr fun j hj => by unfold updU; rw [if_neg (by omega)]
          have g4 : updU f i u i = u := by unfold updU; rw [if_pos rfl]
          have goal : nf (fun j => la.getD j 0) (i + 1) + 4294967296 ^ (i + 1) * c2 = nf (updU f i u) (i + 1) + nf (fun j => lb.getD j 0) (i + 1) := by
            rw [nf, nf, nf, g3, g4, Nat.pow_succ]
            have hX : la.getD i 0 = x := HX.out
            have hY : lb.getD i 0 = y := HY.out
            rw [hX, hY]
            exact hst
          exact goal
        have htt : t = t1 := by omega
        subst htt
        clear hst heq hfb HX HY hcc huy hrow hb hyy
        rcases hc1 with ⟨hc1, hc1'⟩ | ⟨hc1, hc1'⟩
        · obtain rfl : t = u := by omega
          have e1 : (x : Int) - (c : Int) = (t : Int) := by omega
          clear hc1 hc2' hu
          go_wp2_with fail
          go_roundw
          case rel => exact ⟨i + 1, c2, _, by omega, by go_num, rfl, HC.out, HN.out, HF.out, HBN.out, HE.out⟩
          case measure => simp [intOf]; omega
        · have e1 : IntKind.u64.wrap ((x : Int) - (c : Int)) = (t : Int) := by rw [IntKind.wrap_u64]; omega
          clear hc1 hc2' hu
          go_wp2_with fail
          go_roundw
          case rel => exact ⟨i + 1, c2, _, by omega, by go_num, rfl, HC.out, HN.out, HF.out, HBN.out, HE.out⟩
          case measure => simp [intOf]; omega
    · obtain rfl : i = n := by omega
      have HE : Hid (nv ((List.range i).map f) = nv la - nv lb) := by
        have hlt' := nf_lt (f := f) (n := i) hfb
        have h1 := nv_more la (n := i) (by rw [HA.out.len]; exact Nat.le_refl _)
        have h2 := nv_more lb (n := i) (by rw [HBB.out.len]; omega)
        have h3 := HLE.out
        rw [← h1, ← h2] at heq
        show _ = _
        rw [nv_range]
        rcases (by omega : c = 0 ∨ c = 1) with rfl | rfl
        · rw [Nat.mul_zero] at heq; omega
        · rw [Nat.mul_one] at heq; omega
      have HRW : Hid (RowU wr w.heap.size i f ∧ (∀ j, j < i → f j < 4294967296) ∧ Below w.heap.size w wr) := ⟨hrow, hfb, hb⟩
      clear hrow hfb hb heq hlt
      go_wp2_with fail
      refine (trim_any _ _ _ _ _ (HRW.out.1.ru HRW.out.2.1) (by omega)).mono ?_
      rintro e w3 ⟨a3, n3, c3, rfl, hr3, hb3⟩
      rw [HE.out] at hr3
      have HG : Hid (Gives w (nv la - nv lb) (.returned (.slice a3 n3 c3)) w3) := Gives.mk hr3 (HRW.out.2.2.trans (hb3.mono HRW.out.2.2.size))
      clear hr3 hb3
      go_wp2_with fail
      go_ret
      exact HG.out

theorem sum_minus (a b : Option Addr) (n k ca cb m d : Nat) (w : World) (ha : Ru w a n ca (dig m)) (hb : Ru w b k cb (dig d)) (hn : n ≤ 100) (hk : k ≤ 100) (hle : d ≤ m) :
    Calls Try.prog 48 #[.bool false, .slice a n ca, .bool true, .slice b k cb] w fun e w' => SumGives w (m - d) e w' := by
  have hq : (false == true) = false := rfl
  have HC : Hid (Calls Try.prog 64 #[.slice a n ca, .slice b k cb] w fun e w' => CmpPost w m d e w') := bigcmp_any a b n k ca cb m d w ha hb hn hk
  have hkn : k ≤ n := by rw [← ha.len, ← hb.len]; exact dig_le hle
  have HA : Hid (∀ q, Calls Try.prog 60 #[.slice a n ca, .slice b k cb] (w.drewN q) fun e w' => Gives (w.drewN q) (m - d) e w') := fun q => by
    have h := sub_any a b n k ca cb _ _ (w.drewN q) (ha.drewN q) (hb.drewN q) hkn hn (by rw [nv_dig, nv_dig]; exact hle)
    rwa [nv_dig, nv_dig] at h
  have hcm : 0 ≤ cmp3 (m : Int) (d : Int) := by
    rcases Nat.lt_or_ge d m with h | h
    · rw [cmp3_gt (by omega)]; omega
    · rw [show d = m by omega, cmp3_eq]; omega
  clear ha hb hkn
  go_enter Try.func48, Try.ntmps48
  go_wp2_with fail
  refine HC.out.mono ?_
  rintro e w1 ⟨rfl, q, rfl⟩
  generalize cmp3 (m : Int) (d : Int) = cm at *
  go_wp2_with fail
  refine (HA.out q).mono ?_
  rintro e w1 ⟨a3, n3, c3, rfl, hr, hb⟩
  have HG : Hid (SumGives w (m - d) (.returned (.tuple #[.bool false, .slice a3 n3 c3])) w1) := SumGives.mk hr ((below_drewN (Below.refl _ w) q).trans hb)
  clear hr hb
  go_wp2_with fail
  go_ret2
  exact HG.out

theorem setUint_any (z x : Nat) (w : World) (ho : Ob w z) (hx : x < 18446744073709551616) :
    Calls Try.prog 46 #[.pointer (some ⟨z, 0, none⟩), .int .u64 (x : Int)] w fun e w' => OpPost w z x e w' := by
  have HO : Hid (Ob w z) := ho
  clear ho
  go_enter Try.func46, Try.ntmps46
  go_wp2_with fail
  refine (words_any x _ hx).mono ?_
  rintro e w1 ⟨a, n, cap, rfl, hr, hb⟩
  have HR : Hid (Ru w1 a n cap (dig x)) := hr
  have HB : Hid (Below w.heap.size w w1) := hb
  clear hr hb
  go_wp2_with fail
  refine (give_any z a n cap _ (HO.out.below HB.out)).mono ?_
  rintro e w2 ⟨rfl, h2, hex⟩
  have HF : Hid (Bg w2 z x ∧ Ex w w2 z) := ⟨⟨a, n, cap, h2, HR.out.ex (HO.out.below HB.out) hex⟩, Ex.of HB.out hex⟩
  clear h2 hex
  go_wp2_with fail
  go_ret
  exact ⟨rfl, HF.out.1, HF.out.2⟩

set_option maxHeartbeats 4000000 in
theorem Sub_any (z x y m k : Nat) (w : World) (hx : Bg w x m) (hy : Bg w y k) (hz : Ob w z) (hyz : y ≠ z) (hm : (dig m).length ≤ 100) (hk : (dig k).length ≤ 100) (hle : k ≤ m) :
    Calls Try.prog 45 #[.pointer (some ⟨z, 0, none⟩), .pointer (some ⟨x, 0, none⟩), .pointer (some ⟨y, 0, none⟩)] w fun e w' => OpPost w z (m - k) e w' := by
  obtain ⟨xa, xn, xc, x0, x1, xr⟩ := hx.parts
  obtain ⟨ya, yn, yc, y0, y1, yr⟩ := hy.parts
  have hne : (false != false) = false := rfl
  have HM : Hid (∀ w', Below w.heap.size w w' → Calls Try.prog 48 #[.bool false, .slice xa xn xc, .bool true, .slice ya yn yc] w' fun e w'' => SumGives w' (m - k) e w'') := fun w' hb => by
    exact sum_minus xa ya xn yn xc yc m k w' (xr.below hb) (yr.below hb) (by rw [← xr.len]; exact hm) (by rw [← yr.len]; exact hk) hle
  have HZ : Hid (Ob w z) := hz
  have KW : Hid (Below w.heap.size w w.drew) := (Below.refl _ w).drew
  have KS : Hid (w.drew.cell? ⟨x, 0, none⟩ = some (.bool false) ∧ w.drew.cell? ⟨y, 0, none⟩ = some (.bool false) ∧ w.drew.cell? ⟨y, 1, none⟩ = some (.slice ya yn yc)) := ⟨x0, y0, y1⟩
  clear hx hy hz xr yr hm hk
  go_enter Try.func45, Try.ntmps45
  go_wp2_with fail
  refine wp_region_held_drew (S := fun w1 => w1.cell? ⟨x, 0, none⟩ = some (.bool false) ∧ w1.cell? ⟨y, 0, none⟩ = some (.bool false) ∧ w1.cell? ⟨y, 1, none⟩ = some (.slice ya yn yc)) (by kernel_rfl) KS.out ?_
  intro hS0
  refine wpAnyH_take (i := 0) (v := ?v501) rfl (by kernel_rfl) (by kernel_rfl) (by kernel_rfl) (fun _ _ _ h => h) (Or.inl ⟨by rfl, ?y501⟩) (by assumption) ?_
  case y501 => (intro w hSw; (try dsimp only at hSw); go_simp; try (with_reducible rfl))
  try simp only [Act.put]
  try simp only [List.setIfInBounds_toArray]
  try simp only [List.set_cons_succ]
  try simp only [List.set_cons_zero]
  refine wpAnyH_take (i := 1) (v := ?v502) rfl (by kernel_rfl) (by kernel_rfl) (by kernel_rfl) (fun _ _ _ h => h) (Or.inl ⟨by rfl, ?y502⟩) (by assumption) ?_
  case y502 => (intro w hSw; (try dsimp only at hSw); go_simp; try (with_reducible rfl))
  try simp only [Act.put]
  try simp only [List.setIfInBounds_toArray]
  try simp only [List.set_cons_succ]
  try simp only [List.set_cons_zero]
  refine wpAnyH_take (i := 2) (v := ?v503) rfl (by kernel_rfl) (by kernel_rfl) (by kernel_rfl) (fun _ _ _ h => h) (Or.inl ⟨by rfl, ?y503⟩) (by assumption) ?_
  case y503 => (intro w hSw; (try dsimp only at hSw); go_simp; try (with_reducible rfl))
  try simp only [Act.put]
  try simp only [List.setIfInBounds_toArray]
  try simp only [List.set_cons_succ]
  try simp only [List.set_cons_zero]
  refine wpAnyH_take (i := 3) (v := ?v504) rfl (by kernel_rfl) (by kernel_rfl) (by kernel_rfl) (fun _ _ _ h => h) (Or.inl ⟨by rfl, ?y504⟩) (by assumption) ?_
  case y504 => (intro w hSw; (try dsimp only at hSw); go_simp; try (with_reducible rfl))
  try simp only [Act.put]
  try simp only [List.setIfInBounds_toArray]
  try simp only [List.set_cons_succ]
  try simp only [List.set_cons_zero]
  refine wpAnyH_take (i := 4) (v := ?v505) rfl (by kernel_rfl) (by kernel_rfl) (by kernel_rfl) (fun _ _ _ h => h) (Or.inl ⟨by rfl, ?y505⟩) (by assumption) ?_
  case y505 => (intro w hSw; (try dsimp only at hSw); go_simp; try (with_reducible rfl))
  try simp only [Act.put]
  try simp only [List.setIfInBounds_toArray]
  try simp only [List.set_cons_succ]
  try simp only [List.set_cons_zero]
  refine wpAnyH_take (i := 5) (v := ?v506) rfl (by kernel_rfl) (by kernel_rfl) (by kernel_rfl) (fun _ _ _ h => h) (Or.inl ⟨by rfl, ?y506⟩) (by assumption) ?_
  case y506 => (intro w hSw; (try dsimp only at hSw); go_simp; try (with_reducible rfl))
  try simp only [Act.put]
  try simp only [List.setIfInBounds_toArray]
  try simp only [List.set_cons_succ]
  try simp only [List.set_cons_zero]
  refine wpAnyH_take (i := 6) (v := ?v507) rfl (by kernel_rfl) (by kernel_rfl) (by kernel_rfl) (fun _ _ _ h => h) (Or.inl ⟨by rfl, ?y507⟩) (by assumption) ?_
  case y507 => (intro w hSw; (try dsimp only at hSw); go_simp; try (with_reducible rfl))
  try simp only [Act.put]
  try simp only [List.setIfInBounds_toArray]
  try simp only [List.set_cons_succ]
  try simp only [List.set_cons_zero]
  refine wpAnyH_take (i := 7) (v := ?v508) rfl (by kernel_rfl) (by kernel_rfl) (by kernel_rfl) (fun _ _ _ h => h) (Or.inl ⟨by rfl, ?y508⟩) (by assumption) ?_
  case y508 => (intro w hSw; (try dsimp only at hSw); go_simp; try (with_reducible rfl))
  try simp only [Act.put]
  try simp only [List.setIfInBounds_toArray]
  try simp only [List.set_cons_succ]
  try simp only [List.set_cons_zero]
  refine wpAnyH_take (i := 9) (v := ?v509) rfl (by kernel_rfl) (by kernel_rfl) (by kernel_rfl) (fun _ _ _ h => h) (Or.inl ⟨by rfl, ?y509⟩) (by assumption) ?_
  case y509 => (intro w hSw; (try dsimp only at hSw); go_simp; try (with_reducible rfl))
  try simp only [Act.put]
  try simp only [List.setIfInBounds_toArray]
  try simp only [List.set_cons_succ]
  try simp only [List.set_cons_zero]
  refine wpAnyH_take (i := 10) (v := ?v510) rfl (by kernel_rfl) (by kernel_rfl) (by kernel_rfl) (fun _ _ _ h => h) (Or.inl ⟨by rfl, ?y510⟩) (by assumption) ?_
  case y510 => (intro w hSw; (try dsimp only at hSw); go_simp; try (with_reducible rfl))
  try simp only [Act.put]
  try simp only [List.setIfInBounds_toArray]
  try simp only [List.set_cons_succ]
  try simp only [List.set_cons_zero]
  refine wpAnyH_take (i := 11) (v := ?v511) rfl (by kernel_rfl) (by kernel_rfl) (by kernel_rfl) (fun _ _ _ h => h) (Or.inl ⟨by rfl, ?y511⟩) (by assumption) ?_
  case y511 => (intro w hSw; (try dsimp only at hSw); go_simp; try (with_reducible rfl))
  try simp only [Act.put]
  try simp only [List.setIfInBounds_toArray]
  try simp only [List.set_cons_succ]
  try simp only [List.set_cons_zero]
  refine wpAnyH_take (i := 12) (v := ?v512) rfl (by kernel_rfl) (by kernel_rfl) (by kernel_rfl) (fun _ _ _ h => h) (Or.inl ⟨by rfl, ?y512⟩) (by assumption) ?_
  case y512 => (intro w hSw; (try dsimp only at hSw); go_simp; try (with_reducible rfl))
  try simp only [Act.put]
  try simp only [List.setIfInBounds_toArray]
  try simp only [List.set_cons_succ]
  try simp only [List.set_cons_zero]
  refine wpAnyH_take (i := 13) (v := ?v513) rfl (by kernel_rfl) (by kernel_rfl) (by kernel_rfl) (fun _ _ _ h => h) (Or.inl ⟨by rfl, ?y513⟩) (by assumption) ?_
  case y513 => (intro w hSw; (try dsimp only at hSw); go_simp; try (with_reducible rfl))
  try simp only [Act.put]
  try simp only [List.setIfInBounds_toArray]
  try simp only [List.set_cons_succ]
  try simp only [List.set_cons_zero]
  refine wpAnyH_take (i := 14) (v := ?v514) rfl (by kernel_rfl) (by kernel_rfl) (by kernel_rfl) (fun _ _ _ h => h) (Or.inl ⟨by rfl, ?y514⟩) (by assumption) ?_
  case y514 => (intro w hSw; (try dsimp only at hSw); go_simp; try (with_reducible rfl))
  try simp only [Act.put]
  try simp only [List.setIfInBounds_toArray]
  try simp only [List.set_cons_succ]
  try simp only [List.set_cons_zero]
  refine wpAnyH_take (i := 15) (v := ?v515) rfl (by kernel_rfl) (by kernel_rfl) (by kernel_rfl) (fun _ _ _ h => h) (Or.inl ⟨by rfl, ?y515⟩) (by assumption) ?_
  case y515 => (intro w hSw; (try dsimp only at hSw); go_simp; try (with_reducible rfl))
  try simp only [Act.put]
  try simp only [List.setIfInBounds_toArray]
  try simp only [List.set_cons_succ]
  try simp only [List.set_cons_zero]
  refine wpAnyH_take (i := 16) (v := ?v516) rfl (by kernel_rfl) (by kernel_rfl) (by kernel_rfl) (fun _ _ _ h => h) (Or.inl ⟨by rfl, ?y516⟩) (by assumption) ?_
  case y516 => (intro w hSw; (try dsimp only at hSw); go_simp; try (with_reducible rfl))
  try simp only [Act.put]
  try simp only [List.setIfInBounds_toArray]
  try simp only [List.set_cons_succ]
  try simp only [List.set_cons_zero]
  refine wpAnyH_take (i := 17) (v := ?v517) rfl (by kernel_rfl) (by kernel_rfl) (by kernel_rfl) (fun _ _ _ h => h) (Or.inl ⟨by rfl, ?y517⟩) (by assumption) ?_
  case y517 => (intro w hSw; (try dsimp only at hSw); go_simp; try (with_reducible rfl))
  try simp only [Act.put]
  try simp only [List.setIfInBounds_toArray]
  try simp only [List.set_cons_succ]
  try simp only [List.set_cons_zero]
  refine wpAnyH_ready (rs := [8]) (by kernel_rfl) (by simp) ?_
  refine AllReadyH.cons rfl (fun K hK => ?_) AllReadyH.nil
  go_simp
  refine hK.out _ _ KS.out (fun hHeld => ?_)
  clear hK K
  refine wpAnyH_ready (rs := [18]) (by kernel_rfl) (by simp) ?_
  refine AllReadyH.cons rfl (fun K hK => ?_) AllReadyH.nil
  go_simp
  go_wp2_with fail
  refine (HM.out _ KW.out).mono ?_
  rintro e w1 ⟨ra, rn, rc, rfl, hr, hb⟩
  have B1 : Hid (Below w.heap.size w w1) := KW.out.trans (hb.mono KW.out.size)
  have K1 : Hid (w1.cell? ⟨x, 0, none⟩ = some (.bool false) ∧ w1.cell? ⟨y, 0, none⟩ = some (.bool false) ∧ w1.cell? ⟨y, 1, none⟩ = some (.slice ya yn yc)) := ⟨cell_bel hb KS.out.1, cell_bel hb KS.out.2.1, cell_bel hb KS.out.2.2⟩
  have R1 : Hid (Ru w1 ra rn rc (dig (m - k))) := hr
  clear hb hr
  try go_simp
  refine hK.out _ _ K1.out (fun hHeld => ?_)
  clear hK K
  refine wpAnyH_take (i := 19) (v := ?v518) rfl (by kernel_rfl) (by kernel_rfl) (by kernel_rfl) (fun _ _ _ h => h) (Or.inl ⟨by rfl, ?y518⟩) (by assumption) ?_
  case y518 => (intro w hSw; (try dsimp only at hSw); go_simp; try (with_reducible rfl))
  try simp only [Act.put]
  try simp only [List.setIfInBounds_toArray]
  try simp only [List.set_cons_succ]
  try simp only [List.set_cons_zero]
  refine wpAnyH_take (i := 20) (v := ?v519) rfl (by kernel_rfl) (by kernel_rfl) (by kernel_rfl) (fun _ _ _ h => h) (Or.inl ⟨by rfl, ?y519⟩) (by assumption) ?_
  case y519 => (intro w hSw; (try dsimp only at hSw); go_simp; try (with_reducible rfl))
  try simp only [Act.put]
  try simp only [List.setIfInBounds_toArray]
  try simp only [List.set_cons_succ]
  try simp only [List.set_cons_zero]
  refine wpAnyH_ready (rs := [21]) (by kernel_rfl) (by simp) ?_
  refine AllReadyH.cons rfl (fun K hK => ?_) AllReadyH.nil
  go_simp
  go_wp2_with fail
  refine (give_any z _ _ _ _ (HZ.out.below B1.out)).mono ?_
  rintro e w2 ⟨rfl, h2, hex⟩
  have K2 : Hid (w2.cell? ⟨x, 0, none⟩ = some (.bool false) ∧ w2.cell? ⟨y, 0, none⟩ = some (.bool false) ∧ w2.cell? ⟨y, 1, none⟩ = some (.slice ya yn yc)) := ⟨neg_ex hex h2 K1.out.1 rfl, cell_ex hex K1.out.2.1 hyz, cell_ex hex K1.out.2.2 hyz⟩
  have F2 : Hid (Bg w2 z (m - k) ∧ Ex w w2 z) := ⟨⟨_, _, _, h2, R1.out.ex (HZ.out.below B1.out) hex⟩, Ex.of B1.out hex⟩
  clear h2 hex
  try go_simp
  refine hK.out _ _ K2.out (fun hHeld => ?_)
  clear hK K
  refine wpAnyH_ready (rs := [22]) (by kernel_rfl) (by simp) ?_
  refine AllReadyH.cons rfl (fun K hK => ?_) AllReadyH.nil
  go_simp
  refine hK.out _ _ K2.out (fun hHeld => ?_)
  clear hK K
  refine wpAnyH_done (by kernel_rfl) ?_ _
  go_wp2_with fail
  go_ret
  exact ⟨rfl, F2.out.1, F2.out.2⟩

end Go.Proofs.Ytopbiamlmdpphaa.words
