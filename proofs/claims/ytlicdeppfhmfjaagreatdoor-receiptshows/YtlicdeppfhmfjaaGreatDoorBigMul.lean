/- What vendmeterbig.mul gives back. -/
import Derived.Test.YtlicdeppfhmfjaaGreatDoorBigAdd
namespace Go.Proofs.YtlicdeppfhmfjaaGreatDoor.words
open Go.RowKit
set_option maxRecDepth 100000

theorem nf_upd (f : Nat → Nat) (i v : Nat) : ∀ n : Nat, i < n → nf (updU f i v) n + 4294967296 ^ i * f i = nf f n + 4294967296 ^ i * v
  | 0, h => by omega
  | n + 1, h => by
    rw [nf, nf]
    by_cases e : i = n
    · subst e
      have e1 : nf (updU f i v) i = nf f i := nf_congr fun j hj => by unfold updU; rw [if_neg (by omega)]
      have e2 : updU f i v i = v := by unfold updU; rw [if_pos rfl]
      rw [e1, e2]; omega
    · have := nf_upd f i v n (by omega)
      have e2 : updU f i v n = f n := by unfold updU; rw [if_neg (by omega)]
      rw [e2]; omega

theorem mul_step {F F2 N Q R c u x y Y q : Nat} (h : F + Q * R * c = N + Q * (x * Y)) (hq : q = c + (x * y + u)) (hu : F2 + Q * R * u = F + Q * R * (q % 4294967296)) :
    F2 + Q * R * 4294967296 * (q / 4294967296) = N + Q * (x * (Y + R * y)) := by
  have e : q % 4294967296 + 4294967296 * (q / 4294967296) = q := by omega
  have e2 : Q * R * (q % 4294967296) + Q * R * 4294967296 * (q / 4294967296) = Q * R * c + Q * R * (x * y) + Q * R * u := by
    rw [Nat.mul_assoc (Q * R), ← Nat.mul_add, e, hq, Nat.mul_add, Nat.mul_add]; omega
  have e3 : Q * (x * (Y + R * y)) = Q * (x * Y) + Q * R * (x * y) := by
    rw [Nat.mul_add, Nat.mul_add, Nat.mul_assoc Q R, Nat.mul_left_comm x R y]
  rw [e3]
  omega

theorem word_mul {x y : Nat} (hx : x < 4294967296) (hy : y < 4294967296) : x * y ≤ 18446744065119617025 := by
  have : x * y ≤ 4294967295 * 4294967295 := Nat.mul_le_mul (by omega) (by omega)
  omega

set_option maxHeartbeats 4000000 in
theorem mul_some (a b : Option Addr) (n k ca cb : Nat) (la lb : List Nat) (w : World) (ha : Ru w a n ca la) (hbb : Ru w b k cb lb) (n0 : 0 < n) (k0 : 0 < k) (hn : n ≤ 100) (hk : k ≤ 100) :
    Calls Tryz.prog 102 #[.slice a n ca, .slice b k cb] w fun e w' => Gives w (nv la * nv lb) e w' := by
  obtain ⟨i0, hi, hz0, hz1, hz2⟩ := info_parts info_u32
  have HA : Hid (Ru w a n ca la) := ha
  have HBB : Hid (Ru w b k cb lb) := hbb
  have z1 : ((n : Int) == 0) = false := beq_eq_false_iff_ne.2 (by omega)
  have z2 : ((k : Int) == 0) = false := beq_eq_false_iff_ne.2 (by omega)
  clear ha hbb
  go_enter Tryz.func102, Tryz.ntmps102
  go_wp2_with (first
    | (at_make; refine wpList_make_full _ rfl _ _ 102 rfl w.heap.size 83 i0 (.int .u32 0) 1 Tryz.underlying102 hi hz0 hz1 _ _ _ _ (n + k) rfl rfl ?c0 ?c1 ?c2 ?c3 ?c4 ?_))
  try (case c0 => first | rfl | (congr 1; omega))
  try (case c1 => first | rfl | (congr 1; omega))
  case c2 => first | omega | (rw [hz2]; omega)
  case c3 => unfold maxLen; omega
  try (case c4 => simp)
  intro w1 hown hgr
  have HR1 : Hid (RowU w1 w.heap.size (n + k) (fun _ => 0)) := rowU_made hown
  have HB1 : Hid (Below w.heap.size w w1) := (Below.refl _ _).grown hgr (Nat.le_refl _) (fun k hk => by cases hk)
  clear hown hgr hi hz0 hz1 hz2
  go_wp2_with fail
  go_loopw [6] (fun iv wr => ∃ (i : Nat) (f : Nat → Nat), i ≤ n ∧ iv = .int .i64 i ∧ RowU wr w.heap.size (n + k) f ∧ (∀ j, j < n + k → f j < 4294967296) ∧ Below w.heap.size w wr ∧ nf f (i + k) = nf (fun j => la.getD j 0) i * nv lb) (fun iv _ => n - (intOf iv).toNat)
  case atStart => exact ⟨0, fun _ => 0, Nat.zero_le _, rfl, HR1.out, fun _ _ => (by decide : 0 < 4294967296), HB1.out, by rw [nf_zero fun _ _ => rfl, nf, Nat.zero_mul]⟩
  case round =>
    obtain ⟨i, f, hin, rfl, hrow, hfb, hb, heq⟩ := hrel
    by_cases hlt : i < n
    · obtain ⟨x, hxx⟩ : ∃ x, la.getD i 0 = x := ⟨_, rfl⟩
      have hx : x < 4294967296 := by rw [← hxx]; exact HA.out.word i
      have HX : Hid (la.getD i 0 = x) := hxx
      have HAC : Hid (∀ wr, Below w.heap.size w wr → ∃ ba oa, a = some ⟨ba, oa, none⟩ ∧ wr.cell? ⟨ba, oa + i, none⟩ = some (.int .u32 (x : Int))) := fun wr hb => by
        obtain ⟨ba, oa, e, hc⟩ := (HA.out.below hb).at hlt
        rw [hxx] at hc
        exact ⟨ba, oa, e, hc⟩
      have HQ : Hid (nf f (i + k) = nf (fun j => la.getD j 0) i * nv lb) := heq
      have HRW : Hid (RowU wr w.heap.size (n + k) f ∧ (∀ j, j < n + k → f j < 4294967296) ∧ Below w.heap.size w wr) := ⟨hrow, hfb, hb⟩
      clear hxx hrow hfb hb heq
      go_wp2_with fail
      go_loopw [7, 8] (fun cv jv wr => ∃ (j c : Nat) (h : Nat → Nat), j ≤ k ∧ jv = .int .i64 j ∧ cv = .int .u64 c ∧ c < 4294967296 ∧ RowU wr w.heap.size (n + k) h ∧ (∀ t, t < n + k → h t < 4294967296) ∧ Below w.heap.size w wr ∧
        nf h (i + k) + 4294967296 ^ i * 4294967296 ^ j * c = nf (fun j => la.getD j 0) i * nv lb + 4294967296 ^ i * (x * nf (fun j => lb.getD j 0) j)) (fun _ jv _ => k - (intOf jv).toNat)
      case atStart => exact ⟨0, 0, f, Nat.zero_le _, rfl, rfl, by omega, HRW.out.1, HRW.out.2.1, HRW.out.2.2, by rw [HQ.out]; simp [nf]⟩
      case round =>
        obtain ⟨j, c, h, hjk, rfl, rfl, hc, hrow, hfb, hb, heq⟩ := hrel
        by_cases hlj : j < k
        · obtain ⟨ba, oa, rfl, hca⟩ := HAC.out _ hb
          obtain ⟨bb, ob, rfl, hcb⟩ := (HBB.out.below hb).at hlj
          obtain ⟨y, hyy⟩ : ∃ y, lb.getD j 0 = y := ⟨_, rfl⟩
          have hy : y < 4294967296 := by rw [← hyy]; exact HBB.out.word j
          have HY : Hid (lb.getD j 0 = y) := hyy
          rw [hyy] at hcb
          obtain ⟨u, huu⟩ : ∃ u, h (i + j) = u := ⟨_, rfl⟩
          have hu : u < 4294967296 := by rw [← huu]; exact hfb _ (by omega)
          have r0 := hrow.cell (i := i + j) (by omega)
          have f0 := hrow.free (i + j)
          rw [huu] at r0
          have hxy := word_mul hx hy
          have e0 : (c : Int) + ((x : Int) * (y : Int) + (u : Int)) = ((c + (x * y + u) : Nat) : Int) := by rw [Int.natCast_add, Int.natCast_add, Int.natCast_mul]
          have p1 : 0 ≤ (x : Int) * (y : Int) := Int.mul_nonneg (by omega) (by omega)
          have p2 : (x : Int) * (y : Int) ≤ 18446744065119617025 := by rw [← Int.natCast_mul]; omega
          have hqb : c + (x * y + u) < 18446744073709551616 := by omega
          have hup := nf_upd h (i + j) ((c + (x * y + u)) % 4294967296) (i + k) (by omega)
          rw [huu, Nat.pow_add] at hup
          have hst := mul_step heq rfl hup
          generalize hqq : c + (x * y + u) = q at *
          have HNX : Hid (nf (updU h (i + j) (q % 4294967296)) (i + k) + 4294967296 ^ i * 4294967296 ^ (j + 1) * (q / 4294967296) = nf (fun j => la.getD j 0) i * nv lb + 4294967296 ^ i * (x * nf (fun j => lb.getD j 0) (j + 1))) := by
            have goal : nf (updU h (i + j) (q % 4294967296)) (i + k) + 4294967296 ^ i * 4294967296 ^ (j + 1) * (q / 4294967296) = nf (fun j => la.getD j 0) i * nv lb + 4294967296 ^ i * (x * nf (fun j => lb.getD j 0) (j + 1)) := by
              rw [nf, Nat.pow_succ, ← Nat.mul_assoc (4294967296 ^ i)]
              have hY : lb.getD j 0 = y := HY.out
              rw [hY]
              exact hst
            exact goal
          have e1 : ((q : Nat) : Int) % 4294967296 = ((q % 4294967296 : Nat) : Int) := by omega
          have e2 : ((q : Nat) : Int) / 4294967296 = ((q / 4294967296 : Nat) : Int) := by omega
          have HN : Hid (RowU (wr.setCell ⟨w.heap.size, i + j, none⟩ (.int .u32 ((q % 4294967296 : Nat) : Int))) w.heap.size (n + k) (updU h (i + j) (q % 4294967296))) := hrow.set _ _
          have HBN : Hid (Below w.heap.size w (wr.setCell ⟨w.heap.size, i + j, none⟩ (.int .u32 ((q % 4294967296 : Nat) : Int)))) := below_set hb _ _ _ (Nat.le_refl _)
          have HF : Hid (∀ t, t < n + k → updU h (i + j) (q % 4294967296) t < 4294967296) := fun t ht => by
            unfold updU
            split
            · omega
            · exact hfb t ht
          have HC : Hid (q / 4294967296 < 4294967296) := (by omega : q / 4294967296 < 4294967296)
          clear hst heq hfb hup hyy huu hrow hb HX HAC HQ HRW hqq hxy
          generalize q % 4294967296 = v at *
          generalize hcc : q / 4294967296 = c2 at *
          clear hcc
          go_wp2_with fail
          go_quiet (fail)
          go_wp2_with fail
          go_roundw
          case rel => exact ⟨j + 1, c2, _, by omega, by go_num, rfl, HC.out, HN.out, HF.out, ⟨HBN.out.os, HBN.out.tape, HBN.out.output, HBN.out.size, HBN.out.block⟩, HNX.out⟩
          case measure => simp [intOf]; omega
        · obtain rfl : j = k := by omega
          have r0 := hrow.cell (i := i + j) (by omega)
          have f0 := hrow.free (i + j)
          obtain ⟨fi, hfi⟩ : ∃ fi : Int, ((h (i + j) : Nat) : Int) = fi := ⟨_, rfl⟩
          rw [hfi] at r0
          clear hfi
          have e1 : ((c : Nat) : Int) % 4294967296 = ((c : Nat) : Int) := by omega
          have cb : (c : Int) < 4294967296 := by omega
          have HN : Hid (RowU (wr.setCell ⟨w.heap.size, i + j, none⟩ (.int .u32 ((c : Nat) : Int))) w.heap.size (n + j) (updU h (i + j) c)) := hrow.set _ _
          have HBN : Hid (Below w.heap.size w (wr.setCell ⟨w.heap.size, i + j, none⟩ (.int .u32 ((c : Nat) : Int)))) := below_set hb _ _ _ (Nat.le_refl _)
          have HF : Hid (∀ t, t < n + j → updU h (i + j) c t < 4294967296) := fun t ht => by
            unfold updU
            split
            · exact hc
            · exact hfb t ht
          have HE : Hid (nf (updU h (i + j) c) (i + 1 + j) = nf (fun j => la.getD j 0) (i + 1) * nv lb) := by
            have e3 : nf (updU h (i + j) c) (i + j) = nf h (i + j) := nf_congr fun t ht => by unfold updU; rw [if_neg (by omega)]
            have e4 : updU h (i + j) c (i + j) = c := by unfold updU; rw [if_pos rfl]
            have e5 : nv lb = nf (fun j => lb.getD j 0) j := nv_more lb (by rw [HBB.out.len]; exact Nat.le_refl _)
            have goal : nf (updU h (i + j) c) (i + 1 + j) = nf (fun j => la.getD j 0) (i + 1) * nv lb := by
              rw [show i + 1 + j = (i + j) + 1 by omega, nf, nf, e3, e4, Nat.pow_add, heq, ← e5, Nat.add_mul]
              have hX : la.getD i 0 = x := HX.out
              rw [hX, Nat.mul_assoc]
            exact goal
          clear hrow hfb hb heq hlj HX HAC HQ HRW
          go_wp2_with fail
          go_roundw
          case rel => exact ⟨i + 1, _, by omega, by go_num, HN.out, HF.out, HBN.out, HE.out⟩
          case measure => simp [intOf]; omega
    · obtain rfl : i = n := by omega
      have HN : Hid (Ru wr (some ⟨w.heap.size, 0, none⟩) (i + k) (i + k) ((List.range (i + k)).map f)) := hrow.ru hfb
      have HB : Hid (Below w.heap.size w wr) := hb
      have HE : Hid (nv ((List.range (i + k)).map f) = nv la * nv lb) := by
        have goal : nv ((List.range (i + k)).map f) = nv la * nv lb := by
          rw [nv_range, heq, ← nv_more la (by rw [HA.out.len]; exact Nat.le_refl _)]
        exact goal
      clear hrow hfb hb heq hlt
      go_wp2_with fail
      refine (trim_any _ _ _ _ _ HN.out (by omega)).mono ?_
      rintro e w3 ⟨a3, n3, c3, rfl, hr3, hb3⟩
      rw [HE.out] at hr3
      have HG : Hid (Gives w (nv la * nv lb) (.returned (.slice a3 n3 c3)) w3) := Gives.mk hr3 (HB.out.trans (hb3.mono HB.out.size))
      clear hr3 hb3
      go_wp2_with fail
      go_ret
      exact HG.out

theorem ru_nil (w : World) : Ru w none 0 0 [] := ⟨rfl, fun x hx => (by cases hx), fun _ => rfl, Nat.le_refl _, .inl rfl, fun _ _ _ e _ => by cases e⟩

theorem mul_any (a b : Option Addr) (n k ca cb : Nat) (la lb : List Nat) (w : World) (ha : Ru w a n ca la) (hbb : Ru w b k cb lb) (hn : n ≤ 100) (hk : k ≤ 100) :
    Calls Tryz.prog 102 #[.slice a n ca, .slice b k cb] w fun e w' => Gives w (nv la * nv lb) e w' := by
  by_cases n0 : n = 0
  · subst n0
    have el : la = [] := List.eq_nil_of_length_eq_zero ha.len
    have e : nv la * nv lb = 0 := by rw [el]; simp [nv]
    rw [e]
    have HG : Hid (Gives w 0 (.returned (.slice none 0 0)) w) := Gives.mk (by rw [dig_zero]; exact ru_nil w) (Below.refl _ _)
    clear ha hbb el e
    go_enter Tryz.func102, Tryz.ntmps102
    go_wp2_with fail
    go_ret
    exact HG.out
  · by_cases k0 : k = 0
    · subst k0
      have el : lb = [] := List.eq_nil_of_length_eq_zero hbb.len
      have e : nv la * nv lb = 0 := by rw [el]; simp [nv]
      rw [e]
      have z1 : ((n : Int) == 0) = false := beq_eq_false_iff_ne.2 (by omega)
      have HG : Hid (Gives w 0 (.returned (.slice none 0 0)) w) := Gives.mk (by rw [dig_zero]; exact ru_nil w) (Below.refl _ _)
      clear ha hbb el e
      go_enter Tryz.func102, Tryz.ntmps102
      go_wp2_with fail
      go_ret
      exact HG.out
    · exact mul_some a b n k ca cb la lb w ha hbb (by omega) (by omega) hn hk

end Go.Proofs.YtlicdeppfhmfjaaGreatDoor.words
