/- A number of any size over one word. -/
import Derived.Test.YtlicdeppfhmfjaaGreatDoorBigCmp
import Derived.Test.YtlicdeppfhmfjaaGreatDoorBop
namespace Go.Proofs.YtlicdeppfhmfjaaGreatDoor.words
open Go.RowKit
set_option maxRecDepth 100000

/-- The number that the words of f from i on, below n, make. -/
def hf (f : Nat → Nat) (i n : Nat) : Nat := nf (fun j => f (i + j)) (n - i)
theorem hf_zero (f : Nat → Nat) (n : Nat) : hf f 0 n = nf f n := by
  unfold hf
  exact nf_congr fun j _ => by rw [Nat.zero_add]
theorem hf_top (f : Nat → Nat) (n : Nat) : hf f n n = 0 := by unfold hf; rw [Nat.sub_self]; rfl
theorem hf_step (f : Nat → Nat) {i n : Nat} (h : i < n) : hf f i n = f i + 4294967296 * hf f (i + 1) n := by
  unfold hf
  rw [show n - i = (n - (i + 1)) + 1 by omega, nf_cons]
  congr 2
  exact nf_congr fun j _ => by rw [show i + (j + 1) = i + 1 + j by omega]
theorem hf_congr {f g : Nat → Nat} {i n : Nat} (h : ∀ j, i ≤ j → f j = g j) : hf f i n = hf g i n := by
  unfold hf
  exact nf_congr fun j _ => h _ (by omega)

/-- One word more of a quotient. -/
theorem small_step {Q A r d x : Nat} (h : Q * d + r = A) : ((r * 4294967296 + x) / d + 4294967296 * Q) * d + (r * 4294967296 + x) % d = x + 4294967296 * A := by
  have e := Nat.div_add_mod (r * 4294967296 + x) d
  have e1 : (r * 4294967296 + x) / d * d = d * ((r * 4294967296 + x) / d) := Nat.mul_comm _ _
  rw [Nat.add_mul, ← h, Nat.mul_add, ← Nat.mul_assoc 4294967296 Q d]
  omega
theorem small_fin {Q r d m : Nat} (h : Q * d + r = m) (hr : r < d) : Q = m / d ∧ r = m % d := by
  have h1 : m / d = Q := by
    rw [← h, Nat.mul_comm, Nat.mul_add_div (by omega), Nat.div_eq_of_lt hr, Nat.add_zero]
  have h2 : m % d = r := by
    rw [← h, Nat.mul_comm, Nat.mul_add_mod, Nat.mod_eq_of_lt hr]
  exact ⟨h1.symm, h2.symm⟩

/-- trim gives back a part of what it got. -/
def TrimAt (w : World) (a : Option Addr) (cap m : Nat) (e : Ending) (w' : World) : Prop := w' = w ∧ ∃ k, e = .returned (.slice a k cap) ∧ Ru w a k cap (dig m)

set_option maxHeartbeats 1000000 in
theorem trim_at (a : Option Addr) (n cap : Nat) (l : List Nat) (w : World) (h : Ru w a n cap l) (hn : n ≤ 1000) :
    Calls Tryz.prog 143 #[.slice a n cap] w fun e w' => TrimAt w a cap (nv l) e w' := by
  have HR : Hid (Ru w a n cap l) := h
  clear h
  go_enter Tryz.func143, Tryz.ntmps143
  go_wp2_with fail
  go_loop [3] (fun v => ∃ k : Nat, k ≤ n ∧ v = .int .i64 k ∧ ∀ i, k ≤ i → i < n → l.getD i 0 = 0) (fun v => (intOf v).toNat)
  case atStart => exact ⟨n, Nat.le_refl _, rfl, fun i h1 h2 => by omega⟩
  case round =>
    obtain ⟨k, hk, rfl, hz⟩ := hrel
    have HZ : Hid (∀ i, k ≤ i → i < n → l.getD i 0 = 0) := hz
    clear hz
    have fin : (k = 0 ∨ l.getD (k - 1) 0 ≠ 0) → TrimAt w a cap (nv l) (.returned (.slice a k cap)) w := fun hh => by
      have e := trim_dig l k HR.out.lt (by rw [HR.out.len]; exact hk) (fun i h1 h2 => HZ.out i h1 (by rw [HR.out.len] at h2; exact h2)) hh
      refine ⟨rfl, k, rfl, ?_⟩
      rw [← e]
      refine ⟨by rw [List.length_take, HR.out.len]; omega, fun x hx => HR.out.lt x (List.mem_of_mem_take hx), HR.out.nil, Nat.le_trans hk HR.out.room, ?_, fun b off s e hn => HR.out.typ b off s e (by omega)⟩
      rcases HR.out.cell with h0 | ⟨b, off, rfl, hc⟩
      · exact .inl (by omega)
      · refine .inr ⟨b, off, rfl, fun i hi => ?_⟩
        rw [hc i (by omega)]
        congr 3
        simp [List.getD, hi]
    have HF : Hid ((k = 0 ∨ l.getD (k - 1) 0 ≠ 0) → TrimAt w a cap (nv l) (.returned (.slice a k cap)) w) := fin
    have hsl := slice_top a n cap k w hk HR.out.room HR.out.nil
    clear fin
    by_cases hk0 : k = 0
    · subst hk0
      go_wp2_with fail
      go_ret
      exact HF.out (.inl (by trivial))
    · obtain ⟨b, off, rfl, hc⟩ := HR.out.at (i := k - 1) (by omega)
      have e1 : (k : Int) - 1 = ((k - 1 : Nat) : Int) := by omega
      have kp : (0 : Int) < (k : Int) := by omega
      by_cases hzero : l.getD (k - 1) 0 = 0
      · rw [hzero] at hc
        have HN : Hid (∀ i, k - 1 ≤ i → i < n → l.getD i 0 = 0) := fun i h1 h2 => by
          by_cases e : i = k - 1
          · rw [e]; exact hzero
          · exact HZ.out i (by omega) h2
        clear HF hsl hzero
        have hg : k - 1 < n := by omega
        generalize hgg : k - 1 = g at *
        go_wp2_with fail
        go_round
        case rel => exact ⟨g, by omega, by go_num, HN.out⟩
        case measure => simp [intOf]; omega
      · have hb : ((((l.getD (k - 1) 0 : Nat) : Int)) == 0) = false := beq_eq_false_iff_ne.2 (by omega)
        have HH : Hid (l.getD (k - 1) 0 ≠ 0) := hzero
        clear hzero
        have hg : k - 1 < n := by omega
        generalize ((l.getD (k - 1) 0 : Nat) : Int) = y at hb hc
        generalize hgg : k - 1 = g at hc e1 hg
        go_wp2_with fail
        go_ret
        exact HF.out (.inr HH.out)

/-- A quotient and a rest were given back. -/
def SmallGives (w : World) (m r : Nat) (e : Ending) (w' : World) : Prop := ∃ a n cap, e = .returned (.tuple #[.slice a n cap, .int .u32 (r : Int)]) ∧ Ru w' a n cap (dig m) ∧ Below w.heap.size w w' ∧ ∀ b off, a = some ⟨b, off, none⟩ → w.heap.size ≤ b

set_option maxHeartbeats 2000000 in
theorem small_any (a : Option Addr) (n ca d : Nat) (la : List Nat) (w : World) (ha : Ru w a n ca la) (hn : n ≤ 100) (d0 : 0 < d) (d1 : d < 4294967296) :
    Calls Tryz.prog 150 #[.slice a n ca, .int .u32 (d : Int)] w fun e w' => SmallGives w (nv la / d) (nv la % d) e w' := by
  obtain ⟨i0, hi, hz0, hz1, hz2⟩ := info_parts info_u32
  have HA : Hid (Ru w a n ca la) := ha
  clear ha
  go_enter Tryz.func150, Tryz.ntmps150
  go_wp2_with (first
    | (at_make; refine wpList_make_full _ rfl _ _ 102 rfl w.heap.size 83 i0 (.int .u32 0) 1 Tryz.underlying102 hi hz0 hz1 _ _ _ _ n rfl rfl ?c0 ?c1 ?c2 ?c3 ?c4 ?_))
  try (case c0 => first | rfl | (congr 1; omega))
  try (case c1 => first | rfl | (congr 1; omega))
  case c2 => first | omega | (rw [hz2]; omega)
  case c3 => unfold maxLen; omega
  try (case c4 => simp)
  intro w1 hown hgr
  have HR1 : Hid (RowU w1 w.heap.size n (fun _ => 0)) := rowU_made hown
  have HB1 : Hid (Below w.heap.size w w1) := (Below.refl _ _).grown hgr (Nat.le_refl _) (fun k hk => by cases hk)
  clear hown hgr hi hz0 hz1 hz2
  go_wp2_with fail
  go_loopw [7, 8] (fun rv iv wr => ∃ (k r : Nat) (f : Nat → Nat), k ≤ n ∧ iv = .int .i64 ((k : Int) - 1) ∧ rv = .int .u64 (r : Int) ∧ r < d ∧ RowU wr w.heap.size n f ∧ (∀ j, j < n → f j < 4294967296) ∧ Below w.heap.size w wr ∧ hf f k n * d + r = hf (fun j => la.getD j 0) k n) (fun _ iv _ => (intOf iv + 1).toNat)
  case atStart => exact ⟨n, 0, fun _ => 0, Nat.le_refl _, rfl, rfl, d0, HR1.out, fun _ _ => (by decide : 0 < 4294967296), HB1.out, by rw [hf_top, hf_top, Nat.zero_mul]⟩
  case round =>
    obtain ⟨k, r, f, hkn, rfl, rfl, hrd, hrow, hfb, hb, heq⟩ := hrel
    by_cases hk0 : k = 0
    · subst hk0
      have HN : Hid (Ru wr (some ⟨w.heap.size, 0, none⟩) n n ((List.range n).map f)) := hrow.ru hfb
      have HB : Hid (Below w.heap.size w wr) := hb
      have hfin : nv ((List.range n).map f) = nv la / d ∧ r = nv la % d := by
        rw [hf_zero, hf_zero, ← nv_more la (by rw [HA.out.len]; exact Nat.le_refl _), ← nv_range] at heq
        exact small_fin heq hrd
      have HE : Hid (nv ((List.range n).map f) = nv la / d) := hfin.1
      have HM : Hid (r = nv la % d) := hfin.2
      have rb : (r : Int) < 4294967296 := by omega
      have rm : (r : Int) % 4294967296 = r := by omega
      clear hrow hfb hb heq hfin
      go_wp2_with fail
      refine (trim_at _ _ _ _ _ HN.out (by omega)).mono ?_
      rintro e w3 ⟨rfl, n3, rfl, hr3⟩
      rw [HE.out] at hr3
      have HG : Hid (SmallGives w (nv la / d) (nv la % d) (.returned (.tuple #[.slice (some ⟨w.heap.size, 0, none⟩) n3 n, .int .u32 (r : Int)])) w3) := ⟨some ⟨w.heap.size, 0, none⟩, n3, n, by rw [HM.out], hr3, HB.out, fun b off e => by simp at e; omega⟩
      clear hr3
      go_wp2_with fail
      refine bodyPost_ret (v := .tuple #[.slice (some ⟨w.heap.size, 0, none⟩) n3 n, .int .u32 (r : Int)]) (by simp [results, Tryz.results150, go_sem]) rfl HG.out
    · obtain ⟨g, rfl⟩ : ∃ g, k = g + 1 := ⟨k - 1, by omega⟩
      have eg : ((g + 1 : Nat) : Int) - 1 = (g : Int) := by omega
      rw [eg]
      obtain ⟨ba, oa, rfl, hca⟩ := (HA.out.below hb).at (i := g) (by omega)
      have hx := HA.out.word g
      obtain ⟨x, hxx⟩ : ∃ x, la.getD g 0 = x := ⟨_, rfl⟩
      rw [hxx] at hca hx
      have r0 := hrow.cell (i := g) (by omega)
      have f0 := hrow.free g
      obtain ⟨fi, hfi⟩ : ∃ fi : Int, ((f g : Nat) : Int) = fi := ⟨_, rfl⟩
      rw [hfi] at r0
      clear hfi
      have gn : (g : Int) < (n : Int) := by omega
      have hor := or_words r x (by omega) (by omega) (by omega) (by omega)
      have e0 : (r : Int) * 4294967296 + (x : Int) = ((r * 4294967296 + x : Nat) : Int) := by omega
      have hst := small_step (Q := hf f (g + 1) n) (A := hf (fun j => la.getD j 0) (g + 1) n) (r := r) (d := d) (x := x) heq
      have hql : (r * 4294967296 + x) / d < 4294967296 := by
        rw [Nat.div_lt_iff_lt_mul d0]
        have : (r + 1) * 4294967296 ≤ d * 4294967296 := Nat.mul_le_mul_right _ hrd
        rw [Nat.mul_comm 4294967296 d]
        omega
      have HF : Hid (∀ j, j < n → updU f g ((r * 4294967296 + x) / d) j < 4294967296) := fun j hj => by
        unfold updU
        split
        · exact hql
        · exact hfb j hj
      have HE : Hid (hf (updU f g ((r * 4294967296 + x) / d)) g n * d + (r * 4294967296 + x) % d = hf (fun j => la.getD j 0) g n) := by
        have e3 : hf (updU f g ((r * 4294967296 + x) / d)) (g + 1) n = hf f (g + 1) n := hf_congr fun j hj => by unfold updU; rw [if_neg (by omega)]
        have e4 : updU f g ((r * 4294967296 + x) / d) g = (r * 4294967296 + x) / d := by unfold updU; rw [if_pos rfl]
        have goal : hf (updU f g ((r * 4294967296 + x) / d)) g n * d + (r * 4294967296 + x) % d = hf (fun j => la.getD j 0) g n := by
          rw [hf_step _ (by omega : g < n), hf_step (fun j => la.getD j 0) (by omega : g < n), e3, e4, hxx]
          exact hst
        exact goal
      have hrl : (r * 4294967296 + x) % d < d := Nat.mod_lt _ d0
      have hqb : r * 4294967296 + x < 18446744073709551616 := by omega
      generalize hq : r * 4294967296 + x = q at *
      rw [e0] at hor
      have e1 : ((q : Nat) : Int) / (d : Int) = ((q / d : Nat) : Int) := by simp
      have e2 : ((q : Nat) : Int) % (d : Int) = ((q % d : Nat) : Int) := by simp
      have HN : Hid (RowU (wr.setCell ⟨w.heap.size, g, none⟩ (.int .u32 ((q / d : Nat) : Int))) w.heap.size n (updU f g (q / d))) := hrow.set _ _
      have HBN : Hid (Below w.heap.size w (wr.setCell ⟨w.heap.size, g, none⟩ (.int .u32 ((q / d : Nat) : Int)))) := below_set hb _ _ _ (Nat.le_refl _)
      clear hst heq hfb hrow hb hxx hq
      have di : 0 < (d : Int) := by omega
      have dl : (d : Int) < 4294967296 := by omega
      have dz : ((d : Int) == 0) = false := beq_eq_false_iff_ne.2 (by omega)
      generalize q / d = u at *
      have ql : (u : Int) < 4294967296 := by omega
      have qm : (u : Int) % 4294967296 = (u : Int) := by omega
      generalize q % d = v at *
      go_wp2_with fail
      go_roundw
      case rel => exact ⟨g, v, _, by omega, by go_num, by first | rfl | rw [e2], hrl, HN.out, HF.out, HBN.out, HE.out⟩
      case measure => first | (simp [intOf]; done) | (simp [intOf]; omega)

end Go.Proofs.YtlicdeppfhmfjaaGreatDoor.words
