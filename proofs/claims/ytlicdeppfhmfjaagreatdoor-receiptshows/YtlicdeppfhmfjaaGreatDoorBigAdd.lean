/- What vendmeterbig.add gives back. -/
import Derived.Test.YtlicdeppfhmfjaaGreatDoorBigA
namespace Go.Proofs.YtlicdeppfhmfjaaGreatDoor.words
open Go.RowKit
set_option maxRecDepth 100000

set_option maxHeartbeats 2000000 in
theorem add_ge (a b : Option Addr) (n k ca cb : Nat) (la lb : List Nat) (w : World) (ha : Ru w a n ca la) (hbb : Ru w b k cb lb) (hkn : k ≤ n) (hn : n ≤ 100) :
    Calls Tryz.prog 145 #[.slice a n ca, .slice b k cb] w fun e w' => Gives w (nv la + nv lb) e w' := by
  obtain ⟨i0, hi, hz0, hz1, hz2⟩ := info_parts info_u32
  have HA : Hid (Ru w a n ca la) := ha
  have HBB : Hid (Ru w b k cb lb) := hbb
  have hsw : ¬ (n : Int) < (k : Int) := by omega
  clear ha hbb
  go_enter Tryz.func145, Tryz.ntmps145
  go_wp2_with (first
    | (at_make; refine wpList_make_full _ rfl _ _ 102 rfl w.heap.size 83 i0 (.int .u32 0) 1 Tryz.underlying102 hi hz0 hz1 _ _ _ _ (n + 1) rfl rfl ?c0 ?c1 ?c2 ?c3 ?c4 ?_))
  try (case c0 => first | rfl | (congr 1; omega))
  try (case c1 => first | rfl | (congr 1; omega))
  case c2 => first | omega | (rw [hz2]; omega)
  case c3 => unfold maxLen; omega
  try (case c4 => simp)
  intro w1 hown hgr
  have HR1 : Hid (RowU w1 w.heap.size (n + 1) (fun _ => 0)) := rowU_made hown
  have HB1 : Hid (Below w.heap.size w w1) := (Below.refl _ _).grown hgr (Nat.le_refl _) (fun k hk => by cases hk)
  clear hown hgr hi hz0 hz1 hz2
  go_wp2_with fail
  go_loopw [6, 7] (fun cv iv wr => ∃ (i c : Nat) (f : Nat → Nat), i ≤ n ∧ iv = .int .i64 i ∧ cv = .int .u64 c ∧ c ≤ 2 ∧ RowU wr w.heap.size (n + 1) f ∧ (∀ j, j < n + 1 → f j < 4294967296) ∧ Below w.heap.size w wr ∧ nf f i + 4294967296 ^ i * c = nf (fun j => la.getD j 0) i + nf (fun j => lb.getD j 0) i) (fun _ iv _ => n - (intOf iv).toNat)
  case atStart => exact ⟨0, 0, fun _ => 0, Nat.zero_le _, rfl, rfl, by omega, HR1.out, fun _ _ => (by decide : 0 < 4294967296), HB1.out, rfl⟩
  case round =>
    obtain ⟨i, c, f, hin, rfl, rfl, hc2, hrow, hfb, hb, heq⟩ := hrel
    by_cases hlt : i < n
    · obtain ⟨ba, oa, rfl, hca⟩ := (HA.out.below hb).at hlt
      have r0 := hrow.cell (i := i) (by omega)
      have f0 := hrow.free i
      obtain ⟨fi, hfi⟩ : ∃ fi : Int, ((f i : Nat) : Int) = fi := ⟨_, rfl⟩
      rw [hfi] at r0
      clear hfi
      by_cases hik : i < k
      · have hx := HA.out.word i
        obtain ⟨bb, ob, rfl, hcb⟩ := (HBB.out.below hb).at hik
        have hy := HBB.out.word i
        have hst := add_step (S := nf f i) (A := nf (fun j => la.getD j 0) i) (B := nf (fun j => lb.getD j 0) i) (P := 4294967296 ^ i) (c := c) (x := la.getD i 0) (y := lb.getD i 0) heq
        obtain ⟨x, hxx⟩ : ∃ x, la.getD i 0 = x := ⟨_, rfl⟩
        have HX : Hid (la.getD i 0 = x) := hxx
        rw [hxx] at hx hst hca
        clear hxx
        obtain ⟨y, hyy⟩ : ∃ y, lb.getD i 0 = y := ⟨_, rfl⟩
        have HY : Hid (lb.getD i 0 = y) := hyy
        rw [hyy] at hy hst hcb
        clear hyy
        have e0 : (c : Int) + (x : Int) + (y : Int) = ((c + x + y : Nat) : Int) := by omega
        have HV : Hid (c + x + y < 8589934600) := (by omega : c + x + y < 8589934600)
        generalize hq : c + x + y = q at *
        have hqb : (q : Int) < 8589934600 := by have := HV.out; omega
        have e1 : ((q : Nat) : Int) % 4294967296 = ((q % 4294967296 : Nat) : Int) := by omega
        have e2 : ((q : Nat) : Int) / 4294967296 = ((q / 4294967296 : Nat) : Int) := by omega
        have HN : Hid (RowU (wr.setCell ⟨w.heap.size, i, none⟩ (.int .u32 ((q % 4294967296 : Nat) : Int))) w.heap.size (n + 1) (updU f i (q % 4294967296))) := hrow.set _ _
        have HBN : Hid (Below w.heap.size w (wr.setCell ⟨w.heap.size, i, none⟩ (.int .u32 ((q % 4294967296 : Nat) : Int)))) := below_set hb _ _ _ (Nat.le_refl _)
        have HF : Hid (∀ j, j < n + 1 → updU f i (q % 4294967296) j < 4294967296) := fun j hj => by
          unfold updU
          split
          · omega
          · exact hfb j hj
        have HC : Hid (q / 4294967296 ≤ 2) := by
          have := HV.out
          exact (by omega : q / 4294967296 ≤ 2)
        have HE : Hid (nf (updU f i (q % 4294967296)) (i + 1) + 4294967296 ^ (i + 1) * (q / 4294967296) = nf (fun j => la.getD j 0) (i + 1) + nf (fun j => lb.getD j 0) (i + 1)) := by
          have e3 : nf (updU f i (q % 4294967296)) i = nf f i := nf_congr fun j hj => by unfold updU; rw [if_neg (by omega)]
          have e4 : updU f i (q % 4294967296) i = q % 4294967296 := by unfold updU; rw [if_pos rfl]
          have goal : nf (updU f i (q % 4294967296)) (i + 1) + 4294967296 ^ (i + 1) * (q / 4294967296) = nf (fun j => la.getD j 0) (i + 1) + nf (fun j => lb.getD j 0) (i + 1) := by
            rw [nf, nf, nf, e3, e4, Nat.pow_succ]
            have hX : la.getD i 0 = x := HX.out
            have hY : lb.getD i 0 = y := HY.out
            rw [hX, hY]
            exact hst
          exact goal
        clear hst heq hfb HX HY
        generalize q % 4294967296 = u at *
        generalize hqq : q / 4294967296 = c2 at *
        clear hqq
        go_wp2_with fail
        go_roundw
        case rel => exact ⟨i + 1, c2, _, by omega, by go_num, rfl, HC.out, HN.out, HF.out, HBN.out, HE.out⟩
        case measure => simp [intOf]; omega
      · have hx := HA.out.word i
        have hy0 : lb.getD i 0 = 0 := by simp [List.getD, List.getElem?_eq_none (show lb.length ≤ i by rw [HBB.out.len]; omega)]
        have hst := add_step (S := nf f i) (A := nf (fun j => la.getD j 0) i) (B := nf (fun j => lb.getD j 0) i) (P := 4294967296 ^ i) (c := c) (x := la.getD i 0) (y := 0) heq
        rw [Nat.add_zero] at hst
        obtain ⟨x, hxx⟩ : ∃ x, la.getD i 0 = x := ⟨_, rfl⟩
        have HX : Hid (la.getD i 0 = x) := hxx
        have HY : Hid (lb.getD i 0 = 0) := hy0
        rw [hxx] at hx hst hca
        clear hxx hy0
        have e0 : (c : Int) + (x : Int) = ((c + x : Nat) : Int) := by omega
        have HV : Hid (c + x < 8589934600) := (by omega : c + x < 8589934600)
        generalize hq : c + x = q at *
        have hqb : (q : Int) < 8589934600 := by have := HV.out; omega
        have e1 : ((q : Nat) : Int) % 4294967296 = ((q % 4294967296 : Nat) : Int) := by omega
        have e2 : ((q : Nat) : Int) / 4294967296 = ((q / 4294967296 : Nat) : Int) := by omega
        have HN : Hid (RowU (wr.setCell ⟨w.heap.size, i, none⟩ (.int .u32 ((q % 4294967296 : Nat) : Int))) w.heap.size (n + 1) (updU f i (q % 4294967296))) := hrow.set _ _
        have HBN : Hid (Below w.heap.size w (wr.setCell ⟨w.heap.size, i, none⟩ (.int .u32 ((q % 4294967296 : Nat) : Int)))) := below_set hb _ _ _ (Nat.le_refl _)
        have HF : Hid (∀ j, j < n + 1 → updU f i (q % 4294967296) j < 4294967296) := fun j hj => by
          unfold updU
          split
          · omega
          · exact hfb j hj
        have HC : Hid (q / 4294967296 ≤ 2) := by
          have := HV.out
          exact (by omega : q / 4294967296 ≤ 2)
        have HE : Hid (nf (updU f i (q % 4294967296)) (i + 1) + 4294967296 ^ (i + 1) * (q / 4294967296) = nf (fun j => la.getD j 0) (i + 1) + nf (fun j => lb.getD j 0) (i + 1)) := by
          have e3 : nf (updU f i (q % 4294967296)) i = nf f i := nf_congr fun j hj => by unfold updU; rw [if_neg (by omega)]
          have e4 : updU f i (q % 4294967296) i = q % 4294967296 := by unfold updU; rw [if_pos rfl]
          have goal : nf (updU f i (q % 4294967296)) (i + 1) + 4294967296 ^ (i + 1) * (q / 4294967296) = nf (fun j => la.getD j 0) (i + 1) + nf (fun j => lb.getD j 0) (i + 1) := by
            rw [nf, nf, nf, e3, e4, Nat.pow_succ]
            have hX : la.getD i 0 = x := HX.out
            have hY : lb.getD i 0 = 0 := HY.out
            rw [hX, hY]
            exact hst
          exact goal
        clear hst heq hfb HX HY
        generalize q % 4294967296 = u at *
        generalize hqq : q / 4294967296 = c2 at *
        clear hqq
        go_wp2_with fail
        go_roundw
        case rel => exact ⟨i + 1, c2, _, by omega, by go_num, rfl, HC.out, HN.out, HF.out, HBN.out, HE.out⟩
        case measure => simp [intOf]; omega
    · obtain rfl : i = n := by omega
      have hvb : c < 4294967296 := by omega
      have r0 := hrow.cell (i := i) (by omega)
      have f0 := hrow.free i
      obtain ⟨fi, hfi⟩ : ∃ fi : Int, ((f i : Nat) : Int) = fi := ⟨_, rfl⟩
      rw [hfi] at r0
      clear hfi
      have e1 : ((c : Nat) : Int) % 4294967296 = ((c : Nat) : Int) := by omega
      have HN : Hid (RowU (wr.setCell ⟨w.heap.size, i, none⟩ (.int .u32 ((c : Nat) : Int))) w.heap.size (i + 1) (updU f i c)) := hrow.set _ _
      have HBN : Hid (Below w.heap.size w (wr.setCell ⟨w.heap.size, i, none⟩ (.int .u32 ((c : Nat) : Int)))) := below_set hb _ _ _ (Nat.le_refl _)
      have HF : Hid (∀ j, j < i + 1 → updU f i c j < 4294967296) := fun j hj => by
        unfold updU
        split
        · omega
        · exact hfb j hj
      have HE : Hid (nv ((List.range (i + 1)).map (updU f i c)) = nv la + nv lb) := by
        have e3 : nf (updU f i c) i = nf f i := nf_congr fun j hj => by unfold updU; rw [if_neg (by omega)]
        have e4 : updU f i c i = c := by unfold updU; rw [if_pos rfl]
        have goal : nv ((List.range (i + 1)).map (updU f i c)) = nv la + nv lb := by
          rw [nv_range, nf, e3, e4, heq, ← nv_more la (by rw [HA.out.len]; exact Nat.le_refl _), ← nv_more lb (by rw [HBB.out.len]; omega)]
        exact goal
      clear hrow hfb hb heq hlt
      go_wp2_with fail
      refine (trim_any _ _ _ _ _ (HN.out.ru HF.out) (by omega)).mono ?_
      rintro e w3 ⟨a3, n3, c3, rfl, hr3, hb3⟩
      rw [HE.out] at hr3
      have HG : Hid (Gives w (nv la + nv lb) (.returned (.slice a3 n3 c3)) w3) := Gives.mk hr3 (HBN.out.trans (hb3.mono HBN.out.size))
      clear hr3 hb3
      go_wp2_with fail
      go_ret
      exact HG.out

set_option maxHeartbeats 2000000 in
theorem add_lt (a b : Option Addr) (n k ca cb : Nat) (la lb : List Nat) (w : World) (ha : Ru w a n ca la) (hbb : Ru w b k cb lb) (hkn : k < n) (hn : n ≤ 100) :
    Calls Tryz.prog 145 #[.slice b k cb, .slice a n ca] w fun e w' => Gives w (nv la + nv lb) e w' := by
  obtain ⟨i0, hi, hz0, hz1, hz2⟩ := info_parts info_u32
  have HA : Hid (Ru w a n ca la) := ha
  have HBB : Hid (Ru w b k cb lb) := hbb
  have hsw : (k : Int) < (n : Int) := by omega
  clear ha hbb
  go_enter Tryz.func145, Tryz.ntmps145
  go_wp2_with (first
    | (at_make; refine wpList_make_full _ rfl _ _ 102 rfl w.heap.size 83 i0 (.int .u32 0) 1 Tryz.underlying102 hi hz0 hz1 _ _ _ _ (n + 1) rfl rfl ?c0 ?c1 ?c2 ?c3 ?c4 ?_))
  try (case c0 => first | rfl | (congr 1; omega))
  try (case c1 => first | rfl | (congr 1; omega))
  case c2 => first | omega | (rw [hz2]; omega)
  case c3 => unfold maxLen; omega
  try (case c4 => simp)
  intro w1 hown hgr
  have HR1 : Hid (RowU w1 w.heap.size (n + 1) (fun _ => 0)) := rowU_made hown
  have HB1 : Hid (Below w.heap.size w w1) := (Below.refl _ _).grown hgr (Nat.le_refl _) (fun k hk => by cases hk)
  clear hown hgr hi hz0 hz1 hz2
  go_wp2_with fail
  go_loopw [6, 7] (fun cv iv wr => ∃ (i c : Nat) (f : Nat → Nat), i ≤ n ∧ iv = .int .i64 i ∧ cv = .int .u64 c ∧ c ≤ 2 ∧ RowU wr w.heap.size (n + 1) f ∧ (∀ j, j < n + 1 → f j < 4294967296) ∧ Below w.heap.size w wr ∧ nf f i + 4294967296 ^ i * c = nf (fun j => la.getD j 0) i + nf (fun j => lb.getD j 0) i) (fun _ iv _ => n - (intOf iv).toNat)
  case atStart => exact ⟨0, 0, fun _ => 0, Nat.zero_le _, rfl, rfl, by omega, HR1.out, fun _ _ => (by decide : 0 < 4294967296), HB1.out, rfl⟩
  case round =>
    obtain ⟨i, c, f, hin, rfl, rfl, hc2, hrow, hfb, hb, heq⟩ := hrel
    by_cases hlt : i < n
    · obtain ⟨ba, oa, rfl, hca⟩ := (HA.out.below hb).at hlt
      have r0 := hrow.cell (i := i) (by omega)
      have f0 := hrow.free i
      obtain ⟨fi, hfi⟩ : ∃ fi : Int, ((f i : Nat) : Int) = fi := ⟨_, rfl⟩
      rw [hfi] at r0
      clear hfi
      by_cases hik : i < k
      · have hx := HA.out.word i
        obtain ⟨bb, ob, rfl, hcb⟩ := (HBB.out.below hb).at hik
        have hy := HBB.out.word i
        have hst := add_step (S := nf f i) (A := nf (fun j => la.getD j 0) i) (B := nf (fun j => lb.getD j 0) i) (P := 4294967296 ^ i) (c := c) (x := la.getD i 0) (y := lb.getD i 0) heq
        obtain ⟨x, hxx⟩ : ∃ x, la.getD i 0 = x := ⟨_, rfl⟩
        have HX : Hid (la.getD i 0 = x) := hxx
        rw [hxx] at hx hst hca
        clear hxx
        obtain ⟨y, hyy⟩ : ∃ y, lb.getD i 0 = y := ⟨_, rfl⟩
        have HY : Hid (lb.getD i 0 = y) := hyy
        rw [hyy] at hy hst hcb
        clear hyy
        have e0 : (c : Int) + (x : Int) + (y : Int) = ((c + x + y : Nat) : Int) := by omega
        have HV : Hid (c + x + y < 8589934600) := (by omega : c + x + y < 8589934600)
        generalize hq : c + x + y = q at *
        have hqb : (q : Int) < 8589934600 := by have := HV.out; omega
        have e1 : ((q : Nat) : Int) % 4294967296 = ((q % 4294967296 : Nat) : Int) := by omega
        have e2 : ((q : Nat) : Int) / 4294967296 = ((q / 4294967296 : Nat) : Int) := by omega
        have HN : Hid (RowU (wr.setCell ⟨w.heap.size, i, none⟩ (.int .u32 ((q % 4294967296 : Nat) : Int))) w.heap.size (n + 1) (updU f i (q % 4294967296))) := hrow.set _ _
        have HBN : Hid (Below w.heap.size w (wr.setCell ⟨w.heap.size, i, none⟩ (.int .u32 ((q % 4294967296 : Nat) : Int)))) := below_set hb _ _ _ (Nat.le_refl _)
        have HF : Hid (∀ j, j < n + 1 → updU f i (q % 4294967296) j < 4294967296) := fun j hj => by
          unfold updU
          split
          · omega
          · exact hfb j hj
        have HC : Hid (q / 4294967296 ≤ 2) := by
          have := HV.out
          exact (by omega : q / 4294967296 ≤ 2)
        have HE : Hid (nf (updU f i (q % 4294967296)) (i + 1) + 4294967296 ^ (i + 1) * (q / 4294967296) = nf (fun j => la.getD j 0) (i + 1) + nf (fun j => lb.getD j 0) (i + 1)) := by
          have e3 : nf (updU f i (q % 4294967296)) i = nf f i := nf_congr fun j hj => by unfold updU; rw [if_neg (by omega)]
          have e4 : updU f i (q % 4294967296) i = q % 4294967296 := by unfold updU; rw [if_pos rfl]
          have goal : nf (updU f i (q % 4294967296)) (i + 1) + 4294967296 ^ (i + 1) * (q / 4294967296) = nf (fun j => la.getD j 0) (i + 1) + nf (fun j => lb.getD j 0) (i + 1) := by
            rw [nf, nf, nf, e3, e4, Nat.pow_succ]
            have hX : la.getD i 0 = x := HX.out
            have hY : lb.getD i 0 = y := HY.out
            rw [hX, hY]
            exact hst
          exact goal
        clear hst heq hfb HX HY
        generalize q % 4294967296 = u at *
        generalize hqq : q / 4294967296 = c2 at *
        clear hqq
        go_wp2_with fail
        go_roundw
        case rel => exact ⟨i + 1, c2, _, by omega, by go_num, rfl, HC.out, HN.out, HF.out, HBN.out, HE.out⟩
        case measure => simp [intOf]; omega
      · have hx := HA.out.word i
        have hy0 : lb.getD i 0 = 0 := by simp [List.getD, List.getElem?_eq_none (show lb.length ≤ i by rw [HBB.out.len]; omega)]
        have hst := add_step (S := nf f i) (A := nf (fun j => la.getD j 0) i) (B := nf (fun j => lb.getD j 0) i) (P := 4294967296 ^ i) (c := c) (x := la.getD i 0) (y := 0) heq
        rw [Nat.add_zero] at hst
        obtain ⟨x, hxx⟩ : ∃ x, la.getD i 0 = x := ⟨_, rfl⟩
        have HX : Hid (la.getD i 0 = x) := hxx
        have HY : Hid (lb.getD i 0 = 0) := hy0
        rw [hxx] at hx hst hca
        clear hxx hy0
        have e0 : (c : Int) + (x : Int) = ((c + x : Nat) : Int) := by omega
        have HV : Hid (c + x < 8589934600) := (by omega : c + x < 8589934600)
        generalize hq : c + x = q at *
        have hqb : (q : Int) < 8589934600 := by have := HV.out; omega
        have e1 : ((q : Nat) : Int) % 4294967296 = ((q % 4294967296 : Nat) : Int) := by omega
        have e2 : ((q : Nat) : Int) / 4294967296 = ((q / 4294967296 : Nat) : Int) := by omega
        have HN : Hid (RowU (wr.setCell ⟨w.heap.size, i, none⟩ (.int .u32 ((q % 4294967296 : Nat) : Int))) w.heap.size (n + 1) (updU f i (q % 4294967296))) := hrow.set _ _
        have HBN : Hid (Below w.heap.size w (wr.setCell ⟨w.heap.size, i, none⟩ (.int .u32 ((q % 4294967296 : Nat) : Int)))) := below_set hb _ _ _ (Nat.le_refl _)
        have HF : Hid (∀ j, j < n + 1 → updU f i (q % 4294967296) j < 4294967296) := fun j hj => by
          unfold updU
          split
          · omega
          · exact hfb j hj
        have HC : Hid (q / 4294967296 ≤ 2) := by
          have := HV.out
          exact (by omega : q / 4294967296 ≤ 2)
        have HE : Hid (nf (updU f i (q % 4294967296)) (i + 1) + 4294967296 ^ (i + 1) * (q / 4294967296) = nf (fun j => la.getD j 0) (i + 1) + nf (fun j => lb.getD j 0) (i + 1)) := by
          have e3 : nf (updU f i (q % 4294967296)) i = nf f i := nf_congr fun j hj => by unfold updU; rw [if_neg (by omega)]
          have e4 : updU f i (q % 4294967296) i = q % 4294967296 := by unfold updU; rw [if_pos rfl]
          have goal : nf (updU f i (q % 4294967296)) (i + 1) + 4294967296 ^ (i + 1) * (q / 4294967296) = nf (fun j => la.getD j 0) (i + 1) + nf (fun j => lb.getD j 0) (i + 1) := by
            rw [nf, nf, nf, e3, e4, Nat.pow_succ]
            have hX : la.getD i 0 = x := HX.out
            have hY : lb.getD i 0 = 0 := HY.out
            rw [hX, hY]
            exact hst
          exact goal
        clear hst heq hfb HX HY
        generalize q % 4294967296 = u at *
        generalize hqq : q / 4294967296 = c2 at *
        clear hqq
        go_wp2_with fail
        go_roundw
        case rel => exact ⟨i + 1, c2, _, by omega, by go_num, rfl, HC.out, HN.out, HF.out, HBN.out, HE.out⟩
        case measure => simp [intOf]; omega
    · obtain rfl : i = n := by omega
      have hvb : c < 4294967296 := by omega
      have r0 := hrow.cell (i := i) (by omega)
      have f0 := hrow.free i
      obtain ⟨fi, hfi⟩ : ∃ fi : Int, ((f i : Nat) : Int) = fi := ⟨_, rfl⟩
      rw [hfi] at r0
      clear hfi
      have e1 : ((c : Nat) : Int) % 4294967296 = ((c : Nat) : Int) := by omega
      have HN : Hid (RowU (wr.setCell ⟨w.heap.size, i, none⟩ (.int .u32 ((c : Nat) : Int))) w.heap.size (i + 1) (updU f i c)) := hrow.set _ _
      have HBN : Hid (Below w.heap.size w (wr.setCell ⟨w.heap.size, i, none⟩ (.int .u32 ((c : Nat) : Int)))) := below_set hb _ _ _ (Nat.le_refl _)
      have HF : Hid (∀ j, j < i + 1 → updU f i c j < 4294967296) := fun j hj => by
        unfold updU
        split
        · omega
        · exact hfb j hj
      have HE : Hid (nv ((List.range (i + 1)).map (updU f i c)) = nv la + nv lb) := by
        have e3 : nf (updU f i c) i = nf f i := nf_congr fun j hj => by unfold updU; rw [if_neg (by omega)]
        have e4 : updU f i c i = c := by unfold updU; rw [if_pos rfl]
        have goal : nv ((List.range (i + 1)).map (updU f i c)) = nv la + nv lb := by
          rw [nv_range, nf, e3, e4, heq, ← nv_more la (by rw [HA.out.len]; exact Nat.le_refl _), ← nv_more lb (by rw [HBB.out.len]; omega)]
        exact goal
      clear hrow hfb hb heq hlt
      go_wp2_with fail
      refine (trim_any _ _ _ _ _ (HN.out.ru HF.out) (by omega)).mono ?_
      rintro e w3 ⟨a3, n3, c3, rfl, hr3, hb3⟩
      rw [HE.out] at hr3
      have HG : Hid (Gives w (nv la + nv lb) (.returned (.slice a3 n3 c3)) w3) := Gives.mk hr3 (HBN.out.trans (hb3.mono HBN.out.size))
      clear hr3 hb3
      go_wp2_with fail
      go_ret
      exact HG.out

theorem add_any (a b : Option Addr) (n k ca cb : Nat) (la lb : List Nat) (w : World) (ha : Ru w a n ca la) (hb : Ru w b k cb lb) (hn : n ≤ 100) (hk : k ≤ 100) :
    Calls Tryz.prog 145 #[.slice a n ca, .slice b k cb] w fun e w' => Gives w (nv la + nv lb) e w' := by
  by_cases h : k ≤ n
  · exact add_ge a b n k ca cb la lb w ha hb h hn
  · rw [Nat.add_comm]
    exact add_lt b a k n cb ca lb la w hb ha (by omega) hk

end Go.Proofs.YtlicdeppfhmfjaaGreatDoor.words
