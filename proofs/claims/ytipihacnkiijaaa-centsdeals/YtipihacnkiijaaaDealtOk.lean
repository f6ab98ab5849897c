/- What vendmeterref.Dealt deals out. -/
import Derived.Test.YtipihacnkiijaaaDealt
import Derived.Deep.QuietTactic
import Derived.BigQuiet
namespace Go.Proofs.Ytipihacnkiijaaa.cents
open Go.RowKit

theorem two_made {w w1 w2 : World} {n : Nat} (h1 : w1.ownsRow w.heap.size 3 1 (.slice (some ⟨w.heap.size, 0, none⟩) n n) n (madeCells #[Value.int .i64 0] n).toList) (g1 : w.grownBy w1 none)
    (h2 : w2.ownsRow w1.heap.size 4 1 (.slice (some ⟨w1.heap.size, 0, none⟩) n n) n (madeCells #[Value.bool false] n).toList) (g2 : w1.grownBy w2 none) :
    Two w w2 w.heap.size w1.heap.size n (fun _ => 0) (fun _ => false) ∧ w.heap.size < w1.heap.size := by
  have row : ∀ {w' : World} {base g : Nat} {t : TypeId} {z : Value}, w'.ownsRow base t 1 (.slice (some ⟨g, 0, none⟩) n n) n (madeCells #[z] n).toList → w'.heap[g]? = some (.cells ((List.range n).map fun _ => z).toArray t (0, 0)) := by
    intro w' base g t z h
    rcases h.2 with ⟨h1, _⟩ | ⟨g', cap, cur, h1, _, h2, _, _, h3, h4⟩
    · cases h1
    · simp only [Value.slice.injEq, Option.some.injEq, Addr.mk.injEq] at h1
      obtain ⟨⟨rfl, -⟩, -, rfl⟩ := h1
      rw [h2]
      congr 2
      apply Array.ext'
      have e1 : cur.toList = (madeCells #[z] n).toList := by
        rw [← h4, List.take_of_length_le (by simp; omega)]
      rw [e1, toList_madeCells_one]
      apply List.ext_getElem?
      intro k
      by_cases hk : k < n
      · simp [hk]
      · rw [List.getElem?_eq_none (by simp; omega), List.getElem?_eq_none (by simp; omega)]
  have r1 := row h1
  have r2 := row h2
  have hlt : w.heap.size < w1.heap.size := by
    by_cases hh : w.heap.size < w1.heap.size
    · exact hh
    · rw [Array.getElem?_eq_none (by omega)] at r1; cases r1
  refine ⟨⟨?_, ?_, r2⟩, hlt⟩
  · have hb1 : Below w.heap.size w w1 := (Below.refl _ _).grown g1 (Nat.le_refl _) (fun k hk => by cases hk)
    exact hb1.grown g2 (by omega) (fun k hk => by cases hk)
  · rw [g2.block _ hlt (by simp), r1]

set_option maxHeartbeats 1000000 in
theorem dealt_zero (total : Int) (a : Option Addr) (len cap : Nat) (zs : List Int) (w : World) (hr : Row w a len zs) (h0 : 0 < len) (h1 : len ≤ 50) (t0 : 0 ≤ total) (t1 : total ≤ 1000000000000) (hok : okAll 0 1000000 zs = true) (hs : zs.sum = 0) :
    Calls Try.prog 11 #[.int .i64 total, .slice a len cap] w fun e w' => e = .returned (.tuple #[.slice none 0 0, .int .i64 4]) ∧ Below w.heap.size w w' := by
  have e1 : ¬ (len : Int) < 1 := by omega
  have e2 : ¬ (50 : Int) < (len : Int) := by omega
  obtain ⟨hlen, hr⟩ := hr
  obtain ⟨b, off, rfl, hc⟩ : ∃ b off, a = some ⟨b, off, none⟩ ∧ ∀ i, i < len → w.cell? ⟨b, off + i, none⟩ = some (.int .i64 (zs.getD i 0)) := by
    rcases hr with h | h
    · omega
    · exact h
  have HC : Hid (∀ i, i < len → w.cell? ⟨b, off + i, none⟩ = some (.int .i64 (zs.getD i 0))) := hc
  have HK : Hid (∀ z ∈ zs, 0 ≤ z ∧ z ≤ 1000000) := okAll_bd hok
  have HS0 : Hid (zs.sum = 0) := hs
  clear hok hc hr hs
  go_enter Try.func11, Try.ntmps11
  go_wp2_with fail
  refine (in_yes _ _ _ _ t0 t1).mono ?_
  rintro e w ⟨rfl, rfl⟩
  go_wp2_with fail
  go_loop [7, 8] (fun s i => ∃ k : Nat, k ≤ len ∧ i = .int .i64 k ∧ s = .int .i64 (zs.take k).sum) (fun _ i => len - (intOf i).toNat)
  case atStart => exact ⟨0, Nat.zero_le _, rfl, rfl⟩
  case round =>
    obtain ⟨k, hk, rfl, rfl⟩ := hrel
    by_cases hlt : k < len
    · have hcell := HC.out k hlt
      have hz := HK.out (zs.getD k 0) (by simp [List.getD, List.getElem?_eq_getElem (show k < zs.length by omega)])
      have hs2 := sum_bd 1000000 (zs.take k) fun z hz => by have := HK.out z (List.mem_of_mem_take hz); omega
      have hl2 : (zs.take k).length = k := by rw [List.length_take]; omega
      rw [hl2] at hs2
      have HS : Hid ((zs.take (k + 1)).sum = (zs.take k).sum + zs.getD k 0) := sum_step zs k (by omega)
      clear hl2
      generalize (zs.take k).sum = s at *
      generalize zs.getD k 0 = z at *
      obtain ⟨z1, z2⟩ := hz
      go_wp2_with fail
      refine (in_yes _ _ _ _ z1 z2).mono ?_
      rintro e w ⟨rfl, rfl⟩
      go_wp2_with fail
      go_round
      case rel => exact ⟨k + 1, by omega, by go_num, by rw [HS.out]⟩
      case measure => simp [intOf]; omega
    · have ht : zs.take k = zs := List.take_of_length_le (by omega)
      rw [ht, HS0.out]
      go_wp2_with fail
      go_ret2
      exact ⟨rfl, Below.refl _ _⟩

theorem sumTo_12 {o : Nat → Int} {n : Nat} (h : ∀ i, i < n → 0 ≤ o i ∧ o i ≤ 1000000000000) {k : Nat} (hk : k ≤ n) : 0 ≤ sumTo o k ∧ sumTo o k ≤ 1000000000000 * k := by
  induction k with
  | zero => simp [sumTo]
  | succ k ih =>
    have h1 := ih (by omega)
    have h2 := h k (by omega)
    simp only [sumTo]
    omega

theorem prod_12 (T y : Int) (h1 : 0 ≤ T) (h2 : T ≤ 1000000000000) (h3 : 0 ≤ y) (h4 : y ≤ 1000000) : 0 ≤ T * y ∧ T * y ≤ 1000000000000000000 :=
  ⟨Int.mul_nonneg h1 h3, by have := Int.mul_le_mul h2 h4 h3 (by omega); omega⟩

theorem lost_at (total all : Int) (zs : List Int) (i : Nat) : lost total all zs (i : Int) = total * zs.getD i 0 % all := by unfold lost; simp

/-- The same that cents.Deal gives back. -/
def DealtSame (w : World) (total : Int) (zs : List Int) (n : Nat) (f : Nat → Int) (e : Ending) (w' : World) : Prop :=
  ∃ g, e = .returned (.tuple #[.slice (some ⟨g, 0, none⟩) n n, .int .i64 0]) ∧ Below w.heap.size w w' ∧
    ∀ i, i < n → w'.cell? ⟨g, i, none⟩ = some (.int .i64 (share total zs.sum zs i + bump f (leftOf total zs.sum zs n).toNat i))
theorem DealtSame.mk {w w' : World} {total : Int} {zs : List Int} {n g : Nat} {f : Nat → Int} (h1 : Below w.heap.size w w') (h2 : ∀ i, i < n → w'.cell? ⟨g, i, none⟩ = some (.int .i64 (share total zs.sum zs i + bump f (leftOf total zs.sum zs n).toNat i))) : DealtSame w total zs n f (.returned (.tuple #[.slice (some ⟨g, 0, none⟩) n n, .int .i64 0])) w' := ⟨g, rfl, h1, h2⟩

set_option maxRecDepth 100000 in
set_option maxHeartbeats 4000000 in
theorem dealt_ok (total : Int) (a : Option Addr) (len cap : Nat) (zs : List Int) (w : World) (hr : Row w a len zs) (h0 : 0 < len) (h1 : len ≤ 50) (t0 : 0 ≤ total) (t1 : total ≤ 1000000000000) (hok : okAll 0 1000000 zs = true) (hs : 0 < zs.sum)
    (f : Nat → Int) (hm : Mix idz f 0 len) (hsrt : Srt (lost total zs.sum zs) f 0 len) :
    Calls Try.prog 11 #[.int .i64 total, .slice a len cap] w fun e w' => DealtSame w total zs len f e w' := by
  obtain ⟨i0, hi, hz0, hz1, hz2⟩ := info_parts info_int
  obtain ⟨j0, hj, hy0, hy1, hy2⟩ := info_parts info_bool
  have e1 : ¬ (len : Int) < 1 := by omega
  have e2 : ¬ (50 : Int) < (len : Int) := by omega
  obtain ⟨hlen, hr⟩ := hr
  obtain ⟨b, off, rfl, hc⟩ : ∃ b off, a = some ⟨b, off, none⟩ ∧ ∀ i, i < len → w.cell? ⟨b, off + i, none⟩ = some (.int .i64 (zs.getD i 0)) := by
    rcases hr with h | h
    · omega
    · exact h
  have HC : Hid (∀ i, i < len → w.cell? ⟨b, off + i, none⟩ = some (.int .i64 (zs.getD i 0))) := hc
  have HK : Hid (∀ z ∈ zs, 0 ≤ z ∧ z ≤ 1000000) := okAll_bd hok
  have hsm : zs.sum ≤ 50000000 := by
    have := sum_bd 1000000 zs fun z hz => by have := okAll_bd hok z hz; omega
    rw [hlen] at this
    omega
  have HL : Hid (0 ≤ leftOf total zs.sum zs len ∧ leftOf total zs.sum zs len < len) := left_bd h0 hlen rfl hs
  have HLE : Hid (leftOf total zs.sum zs len = total - sumTo (share total zs.sum zs) len) := by
    have : leftOf total zs.sum zs len = total - sumTo (share total zs.sum zs) len := by unfold leftOf shares; rw [sumTo_range]
    exact this
  have HSH : Hid (∀ i, i < len → 0 ≤ share total zs.sum zs i ∧ share total zs.sum zs i ≤ 1000000000000) := fun i hi =>
    share_bd (total := total) (all := zs.sum) (len := len) (k := i) (zs := zs) ⟨t0, t1, okAll_bd hok, hs, hsm, h1⟩ (mem_le_sum zs fun z hz => (okAll_bd hok z hz).1).2 (by omega)
  have HM : Hid (Mix idz f 0 len) := hm
  have HT : Hid (Srt (lost total zs.sum zs) f 0 len) := hsrt
  have e3 : (zs.sum == 0) = false := by simp; omega
  clear hok hc hr hm hsrt
  go_enter Try.func11, Try.ntmps11
  go_wp2_with fail
  refine (in_yes _ _ _ _ t0 t1).mono ?_
  rintro e w ⟨rfl, rfl⟩
  go_wp2_with fail
  go_loop [7, 8] (fun s i => ∃ k : Nat, k ≤ len ∧ i = .int .i64 k ∧ s = .int .i64 (zs.take k).sum) (fun _ i => len - (intOf i).toNat)
  case atStart => exact ⟨0, Nat.zero_le _, rfl, rfl⟩
  case round =>
    obtain ⟨k, hk, rfl, rfl⟩ := hrel
    by_cases hlt : k < len
    · have hcell := HC.out k hlt
      have hz := HK.out (zs.getD k 0) (by simp [List.getD, List.getElem?_eq_getElem (show k < zs.length by omega)])
      have hs2 := sum_bd 1000000 (zs.take k) fun z hz => by have := HK.out z (List.mem_of_mem_take hz); omega
      have hl2 : (zs.take k).length = k := by rw [List.length_take]; omega
      rw [hl2] at hs2
      have HS : Hid ((zs.take (k + 1)).sum = (zs.take k).sum + zs.getD k 0) := sum_step zs k (by omega)
      clear hl2 hs hsm e3
      generalize (zs.take k).sum = s at *
      generalize zs.getD k 0 = z at *
      obtain ⟨z1, z2⟩ := hz
      go_wp2_with fail
      refine (in_yes _ _ _ _ z1 z2).mono ?_
      rintro e w ⟨rfl, rfl⟩
      go_wp2_with fail
      go_round
      case rel => exact ⟨k + 1, by omega, by go_num, by rw [HS.out]⟩
      case measure => simp [intOf]; omega
    · have ht : zs.take k = zs := List.take_of_length_le (by omega)
      rw [ht]
      obtain rfl : k = len := by omega
      clear hlt hk ht
      go_wp2_with (first
        | (at_make; refine wpList_make_full _ rfl _ _ 22 rfl w.heap.size 3 i0 (.int .i64 0) 1 Try.underlying22 hi hz0 hz1 _ _ _ _ k rfl rfl ?c0 ?c1 ?c2 ?c3 ?c4 ?_))
      case c0 => rfl
      case c1 => rfl
      case c2 => first | omega | (rw [hz2]; omega)
      case c3 => unfold maxLen; omega
      try (case c4 => simp)
      intro w1 hown1 hgr1
      go_wp2_with (first
        | (at_make; refine wpList_make_full _ rfl _ _ 41 rfl w1.heap.size 4 j0 (.bool false) 1 Try.underlying41 hj hy0 hy1 _ _ _ _ k rfl rfl ?d0 ?d1 ?d2 ?d3 ?d4 ?_))
      case d0 => rfl
      case d1 => rfl
      case d2 => first | omega | (rw [hy2]; omega)
      case d3 => unfold maxLen; omega
      try (case d4 => simp)
      intro w2 hown2 hgr2
      obtain ⟨ht2, hGH⟩ := two_made hown1 hgr1 hown2 hgr2
      have HW2 : Hid (Two w w2 w.heap.size w1.heap.size k (fun _ => 0) (fun _ => false)) := ht2
      generalize hHdef : w1.heap.size = H at *
      clear hown1 hgr1 hown2 hgr2 ht2 hi hz0 hz1 hz2 hj hy0 hy1 hy2 hHdef
      have HX : Hid (∀ wr o d i, Two w wr w.heap.size H k o d → i < k → wr.cell? ⟨b, off + i, none⟩ = some (.int .i64 (zs.getD i 0))) := by
        intro wr o d i h2 hi
        have h3 := HC.out i hi
        exact (h2.below.cell (p := ⟨b, off + i, none⟩) (block_lt h3)).trans h3
      have HY : Hid (∀ i, i < k → 0 ≤ zs.getD i 0 ∧ zs.getD i 0 ≤ 1000000) := fun i hi => HK.out _ (by simp [List.getD, List.getElem?_eq_getElem (show i < zs.length by omega)])
      have HSD : Hid (∀ i, share total zs.sum zs i = total * zs.getD i 0 / zs.sum) := fun i => rfl
      have HKD : Hid (∀ i : Nat, lost total zs.sum zs (i : Int) = total * zs.getD i 0 % zs.sum) := fun i => lost_at _ _ _ i
      clear HC HK
      have HP : Hid (∀ (wr : World), Below w.heap.size w wr → (∀ i, i < k → wr.cell? ⟨w.heap.size, i, none⟩ = some (.int .i64 (share total zs.sum zs i + bump f (leftOf total zs.sum zs k).toNat i))) → DealtSame w total zs k f (.returned (.tuple #[.slice (some ⟨w.heap.size, 0, none⟩) k k, .int .i64 0])) wr) := fun wr h1 h2 => DealtSame.mk h1 h2
      generalize share total zs.sum zs = sh at *
      generalize lost total zs.sum zs = key at *
      generalize leftOf total zs.sum zs k = L at *
      generalize zs.sum = S at *
      go_wp2_with fail
      go_loopw [11, 12] (fun l i wr => ∃ x : Nat, x ≤ k ∧ i = .int .i64 x ∧ l = .int .i64 (total - sumTo sh x) ∧ Two w wr w.heap.size H k (fun y => if y < x then sh y else 0) (fun _ => false)) (fun _ i _ => k - (intOf i).toNat)
      case atStart => exact ⟨0, Nat.zero_le _, rfl, by simp [sumTo], HW2.out.congr (fun y _ => by simp) (fun _ _ => rfl)⟩
      case round =>
        obtain ⟨x, hx, rfl, rfl, ht⟩ := hrel
        by_cases hlt : x < k
        · have c1 := HX.out _ _ _ x ht hlt
          have c2 := ht.cellG hlt
          have f2 := ht.frozenG x
          have hy := HY.out x hlt
          have hshx := HSH.out x hlt
          have hsx := sumTo_12 HSH.out hx
          have hse : sh x = total * zs.getD x 0 / S := HSD.out x
          have HS : Hid (sumTo sh (x + 1) = sumTo sh x + sh x) := (rfl : sumTo sh (x + 1) = sumTo sh x + sh x)
          have HN : Hid (Two w (wr.setCell ⟨w.heap.size, x, none⟩ (.int .i64 (sh x))) w.heap.size H k (fun y => if y < x + 1 then sh y else 0) (fun _ => false)) := by
            refine (ht.setG (Nat.le_refl _) (by omega) x (sh x)).congr (fun y _ => ?_) (fun _ _ => rfl)
            unfold upd
            by_cases e : y = x
            · subst e; simp
            · rw [if_neg e]
              show (if y < x then sh y else 0) = _
              by_cases e2 : y < x
              · rw [if_pos e2, if_pos (by omega)]
              · rw [if_neg e2, if_neg (by omega)]
          rw [if_neg (by omega)] at c2
          clear ht
          rw [hse] at hshx HN HS
          generalize zs.getD x 0 = y at *
          obtain ⟨p1, p2⟩ := prod_12 total y t0 t1 hy.1 hy.2
          have b1 : 0 ≤ total * y / S := hshx.1
          have b2 : total * y / S ≤ 1000000000000 := hshx.2
          clear hse hshx
          generalize sumTo sh x = s at *
          go_wp2_with fail
          go_roundw
          case rel => exact ⟨x + 1, by omega, by go_num, by rw [HS.out]; congr 1; omega, HN.out⟩
          case measure => simp [intOf]; omega
        · obtain rfl : x = k := by omega
          rw [← HLE.out]
          have HW3 : Hid (Two w wr w.heap.size H x sh (fun _ => false)) := ht.congr (fun y hy => by rw [if_pos hy]) (fun _ _ => rfl)
          clear hlt hx ht HW2
          have hL0 := HL.out.1
          have hL1 := HL.out.2
          clear HLE
          go_wp2_with fail
          go_loopw [11] (fun l wr => ∃ t : Nat, (t : Int) ≤ L ∧ l = .int .i64 (L - t) ∧ Two w wr w.heap.size H x (fun i => sh i + bump f t i) (hadOf f t)) (fun l _ => (intOf l).toNat)
          case atStart => exact ⟨0, hL0, by simp, HW3.out.congr (fun y _ => by simp [bump]) (fun y _ => by simp [hadOf, bump])⟩
          case round =>
            obtain ⟨t, htL, rfl, ht⟩ := hrel
            by_cases hlt : (t : Int) < L
            · have hpos : 0 < L - (t : Int) := by omega
              have HW4 : Hid (Two w wr w.heap.size H x (fun i => sh i + bump f t i) (hadOf f t)) := ht
              clear ht HW3
              go_wp2_with fail
              go_loopw [13, 14] (fun bst i wr => ∃ y : Nat, ∃ v : Int, y ≤ x ∧ i = .int .i64 y ∧ bst = .int .i64 v ∧ Best key (hadOf f t) y v ∧ Two w wr w.heap.size H x (fun i => sh i + bump f t i) (hadOf f t)) (fun _ i _ => x - (intOf i).toNat)
              case atStart => exact ⟨0, -1, Nat.zero_le _, rfl, rfl, best_zero _ _, HW4.out⟩
              case round =>
                obtain ⟨y, v, hy, rfl, rfl, hbest, ht⟩ := hrel
                by_cases hyx : y < x
                · have ch := ht.cellH hyx
                  by_cases hd : hadOf f t y = true
                  · have HN : Hid (Best key (hadOf f t) (y + 1) v) := best_skip hbest hd
                    have HW5 : Hid (Two w wr w.heap.size H x (fun i => sh i + bump f t i) (hadOf f t)) := ht
                    rw [hd] at ch
                    clear hbest ht hd
                    go_wp2_with fail
                    go_quiet (fail)
                    go_wp2_with fail
                    go_roundw
                    case rel => exact ⟨y + 1, v, by omega, by go_num, rfl, HN.out, HW5.out.drewN _⟩
                    case measure => simp [intOf]; omega
                  · have hd' : hadOf f t y = false := by simpa using hd
                    rw [hd'] at ch
                    rcases hbest with ⟨rfl, h2⟩ | ⟨q, rfl, h2, h3, h4⟩
                    · have HN : Hid (Best key (hadOf f t) (y + 1) (y : Int)) := best_first h2 hd'
                      have HW5 : Hid (Two w wr w.heap.size H x (fun i => sh i + bump f t i) (hadOf f t)) := ht
                      clear ht hd hd' h2
                      go_wp2_with fail
                      go_quiet (fail)
                      go_wp2_with fail
                      go_roundw
                      case rel => exact ⟨y + 1, y, by omega, by go_num, rfl, HN.out, HW5.out.drewN _⟩
                      case measure => simp [intOf]; omega
                    · have c1 := HX.out _ _ _ y ht hyx
                      have c2 := HX.out _ _ _ q ht (by omega)
                      have hy1 := HY.out y hyx
                      have hq1 := HY.out q (by omega)
                      have k1 := HKD.out y
                      have k2 := HKD.out q
                      have HA : Hid (key (q : Int) < key (y : Int) → Best key (hadOf f t) (y + 1) (y : Int)) := fun h => best_more h4 hd' h
                      have HB : Hid (¬ key (q : Int) < key (y : Int) → Best key (hadOf f t) (y + 1) (q : Int)) := fun h => best_less h2 h3 h4 h
                      have HW5 : Hid (Two w wr w.heap.size H x (fun i => sh i + bump f t i) (hadOf f t)) := ht
                      clear ht hd hd' h3 h4
                      rw [k1, k2] at HA HB
                      clear k1 k2
                      generalize zs.getD y 0 = yy at *
                      generalize zs.getD q 0 = yq at *
                      obtain ⟨p1, p2⟩ := prod_12 total yy t0 t1 hy1.1 hy1.2
                      obtain ⟨p3, p4⟩ := prod_12 total yq t0 t1 hq1.1 hq1.2
                      have hq0 : decide ((q : Int) < 0) = false := decide_eq_false (by omega)
                      by_cases hc : total * yq % S < total * yy % S
                      · have hcd : decide (total * yq % S < total * yy % S) = true := decide_eq_true hc
                        have HN : Hid (Best key (hadOf f t) (y + 1) (y : Int)) := HA.out hc
                        clear HA HB
                        go_wp2_with fail
                        go_quiet (fail)
                        go_wp2_with fail
                        go_roundw
                        case rel => exact ⟨y + 1, y, by omega, by go_num, rfl, HN.out, HW5.out.drewN _⟩
                        case measure => simp [intOf]; omega
                      · have hcd : decide (total * yq % S < total * yy % S) = false := decide_eq_false hc
                        have HN : Hid (Best key (hadOf f t) (y + 1) (q : Int)) := HB.out hc
                        clear HA HB
                        go_wp2_with fail
                        go_quiet (fail)
                        go_wp2_with fail
                        go_roundw
                        case rel => exact ⟨y + 1, q, by omega, by go_num, rfl, HN.out, HW5.out.drewN _⟩
                        case measure => simp [intOf]; omega
                · obtain rfl : y = x := by omega
                  have hv := best_end HM.out HT.out (by omega) hbest
                  have hbt := in0_of HM.out t (by omega)
                  obtain ⟨p, hp⟩ := Int.eq_ofNat_of_zero_le hbt.1
                  rw [hp] at hv hbt
                  subst hv
                  have hpx : p < y := by omega
                  have c1 := ht.cellH hpx
                  have c2 := ht.cellG hpx
                  have f1 := ht.frozenH p
                  have f2 := ht.frozenG p
                  have hs1 := HSH.out p hpx
                  have hb1 := bump_bd f t p
                  have HN : Hid (Two w ((wr.setCell ⟨H, p, none⟩ (.bool true)).setCell ⟨w.heap.size, p, none⟩ (.int .i64 (sh p + bump f t p + 1))) w.heap.size H y (fun i => sh i + bump f (t + 1) i) (hadOf f (t + 1))) := by
                    refine ((ht.setH (by omega) (by omega) p true).setG (Nat.le_refl _) (by omega) p (sh p + bump f t p + 1)).congr (fun i _ => ?_) (fun i _ => ?_)
                    · unfold upd
                      by_cases e : i = p
                      · subst e; rw [if_pos rfl, bump, if_pos hp]; omega
                      · rw [if_neg e, bump, if_neg (by omega)]
                        show sh i + bump f t i = sh i + (bump f t i + 0)
                        omega
                    · rw [had_step hp]
                  have g2 : (wr.setCell ⟨H, p, none⟩ (.bool true)).cell? ⟨w.heap.size, p, none⟩ = some (.int .i64 (sh p + bump f t p)) := (ht.setH (by omega) (by omega) p true).cellG hpx
                  have g3 : (wr.setCell ⟨H, p, none⟩ (.bool true)).frozen? ⟨w.heap.size, p, none⟩ = false := (ht.setH (by omega) (by omega) p true).frozenG p
                  have hsum : 0 ≤ sh p + bump f t p ∧ sh p + bump f t p ≤ 1000000000100 := by omega
                  clear ht hbest hyx hs1 hb1
                  generalize sh p + bump f t p = z at *
                  go_wp2_with fail
                  go_roundw
                  case rel => exact ⟨t + 1, by omega, by congr 1; omega, HN.out⟩
                  case measure => simp [intOf]; omega
            · obtain hte : (t : Int) = L := by omega
              have hpos : ¬ 0 < L - (t : Int) := by omega
              have hte2 : t = L.toNat := by omega
              have HE := HP.out wr ht.below (fun i hi => by rw [← hte2]; exact ht.cellG hi)
              have HE2 : Hid (DealtSame w total zs x f (.returned (.tuple #[.slice (some ⟨w.heap.size, 0, none⟩) x x, .int .i64 0])) wr) := HE
              clear ht HE
              go_wp2_with fail
              go_ret2
              exact HE2.out

end Go.Proofs.Ytipihacnkiijaaa.cents
