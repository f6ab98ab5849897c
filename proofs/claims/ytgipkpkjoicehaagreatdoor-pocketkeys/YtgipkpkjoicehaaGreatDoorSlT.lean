/- Slots: the document's own loading and storing. -/
import Derived.Test.YtgipkpkjoicehaaGreatDoorSlR
namespace Go.Proofs.YtgipkpkjoicehaaGreatDoor.slot
open Go.RowKit Go.Proofs.YtgipkpkjoicehaaGreatDoor.cell
set_option maxRecDepth 100000
set_option linter.unusedVariables false

/-- The first k words of the record whose mark lies at C. -/
def part (xs : List Int) (C k : Nat) : List Int := (List.range k).map fun i => xs.getD (C + 1 + i) 0
theorem part_next (xs : List Int) (C k : Nat) : part xs C k ++ [xs.getD (C + 1 + k) 0] = part xs C (k + 1) := by
  rw [part, part, List.range_succ, List.map_append]; rfl
theorem part_len (xs : List Int) (C k : Nat) : (part xs C k).length = k := by simp [part]
theorem part_rcd (xs : List Int) (n s : Nat) : part xs (beg n s) n = rcd xs n s := rfl
theorem Lw.one (w : World) (base : Nat) (p d : Int) (hb : base ≤ w.heap.size) : Lw (w.alloc (.cells #[.int .i64 p, .int .u32 d] 53)) base (.slice (some ⟨w.heap.size, 0, none⟩) 1 1) [⟨p, d⟩] := World.ownsRow_lit w #[.int .i64 p, .int .u32 d] 1 hb (by unfold maxLen; omega) rfl

set_option maxHeartbeats 1000000 in
theorem sloaded0 (a : Option Addr) (m c1 n : Nat) (xs : List Int) (w : World) (h : RowU w a m xs) (h1 : 1 ≤ n) (h2 : n ≤ 64) (hm : m = 2 * n + 2) (hs : which xs n = 0) :
    Calls Tryz.prog 32 #[.slice a m c1, .int .i64 (n : Int)] w fun e w' => GaveR w (part xs (0) n) 0 e w' := by
  have HF : Hid (∀ W, Calls Tryz.prog 68 #[.int .i64 (m : Int), .int .i64 (n : Int)] W fun e w' => e = .returned (.bool true) ∧ w' = W) := fun W => fits_yes m n W h1 h2 hm
  have HC : Hid (Calls Tryz.prog 69 #[.slice a m c1, .int .i64 (n : Int)] w fun e w' => e = .returned (.int .i64 0) ∧ w' = w) := by
    have := counts_any a m c1 n xs w h h1 h2 hm
    rw [hs] at this; exact this
  obtain ⟨b, o, rfl, lb, hc⟩ := h.at (by omega)
  have HCE : Hid (∀ wr, Below w.heap.size w wr → ∀ k, k < n → wr.cell? ⟨b, o + (k + 1), none⟩ = some (.int .u32 (xs.getD (0 + 1 + k) 0))) := fun wr hb k hk => by
    rw [hb.cell (p := ⟨b, o + (k + 1), none⟩) lb, hc _ (by omega)]
    congr 3; omega
  have hm1 : 0 + n + 1 ≤ m := by omega
  have hm2 : m ≤ 130 := by omega
  clear h hm hs lb hc
  go_enter Tryz.func32, Tryz.ntmps32
  go_wp2_with fail
  refine (HF.out _).mono ?_
  rintro e w1 ⟨rfl, rfl⟩
  go_wp2_with fail
  refine HC.out.mono ?_
  rintro e w2 ⟨rfl, rfl⟩
  go_wp2_with fail
  go_loopw [7, 8] (fun v i wr => ∃ (k : Nat) (V : Value), V = v ∧ k ≤ n ∧ i = .int .i64 ((k : Int) + 1) ∧ Ws wr w2.heap.size V (part xs (0) k) ∧ Below w2.heap.size w2 wr) (fun _ i _ => n + 1 - (intOf i).toNat)
  case atStart => exact ⟨0, _, rfl, Nat.zero_le _, rfl, Ws.zero _ _, Below.refl _ _⟩
  case round =>
    obtain ⟨k, V, hV, hk, rfl, hown, hb⟩ := hrel
    subst hV
    have HO : Hid (Ws wr w2.heap.size V (part xs (0) k)) := hown
    have HB : Hid (Below w2.heap.size w2 wr) := hb
    clear hown hb
    by_cases hlt : k < n
    · have g1 := HCE.out wr HB.out k hlt
      have HD : Hid (part xs (0) k ++ [xs.getD (0 + 1 + k) 0] = part xs (0) (k + 1)) := part_next _ _ _
      have HLN : Hid ((part xs (0) k).length ≤ 1000000) := by show _ ≤ _; rw [part_len]; omega
      generalize xs.getD (0 + 1 + k) 0 = z at *
      generalize part xs (0) k = ps at *
      have HG : Hid ((wr.alloc (.cells #[.int .u32 z] 51)).cell? ⟨wr.heap.size, 0, none⟩ = some (.int .u32 z)) := word_cell wr z
      have HOA : Hid (Ws (wr.alloc (.cells #[.int .u32 z] 51)) w2.heap.size V ps) := HO.out.alloc _
      have HSZ : Hid (w2.heap.size ≤ (wr.alloc (.cells #[.int .u32 z] 51)).heap.size) := alloc_le HB.out.size _
      go_wp2_with (first
        | (at_builtin; refine wp_word rfl _ _ rfl w2.heap.size wr.heap.size _ ps z rfl rfl HOA.out HG.out HLN.out HSZ.out ?_)
        | go_in)
      intro v' w4 hL4 hg4
      have HL4 : Hid (Ws w4 w2.heap.size v' (part xs (0) (k + 1))) := by have := HD.out; rw [this] at hL4; exact hL4
      have HB4 : Hid (Below w2.heap.size w2 w4) := own_bel HOA.out hg4 (HB.out.alloc HB.out.size _) (Nat.le_refl _) HSZ.out
      clear hL4 hg4 HOA HO HB HG HSZ
      go_wp2_with fail
      go_roundw
      case rel => exact ⟨k + 1, _, rfl, by omega, by go_num, HL4.out, HB4.out⟩
      case measure => simp [intOf]; omega
    · obtain rfl : n = k := by omega
      obtain ⟨av, cv, rfl, rv, nv, _⟩ := HO.out.row
      rw [part_len] at rv ⊢
      have HX : Hid (RowU wr av n (part xs (0) n) ∧ (av = none → cv = 0)) := ⟨rv, nv⟩
      clear rv nv HO
      go_wp2_with fail
      go_ret2
      exact GaveR.mk HX.out.1 HX.out.2 HB.out
set_option maxHeartbeats 1000000 in
theorem sloaded1 (a : Option Addr) (m c1 n : Nat) (xs : List Int) (w : World) (h : RowU w a m xs) (h1 : 1 ≤ n) (h2 : n ≤ 64) (hm : m = 2 * n + 2) (hs : which xs n = 1) :
    Calls Tryz.prog 32 #[.slice a m c1, .int .i64 (n : Int)] w fun e w' => GaveR w (part xs (n + 1) n) 0 e w' := by
  have HF : Hid (∀ W, Calls Tryz.prog 68 #[.int .i64 (m : Int), .int .i64 (n : Int)] W fun e w' => e = .returned (.bool true) ∧ w' = W) := fun W => fits_yes m n W h1 h2 hm
  have HC : Hid (Calls Tryz.prog 69 #[.slice a m c1, .int .i64 (n : Int)] w fun e w' => e = .returned (.int .i64 1) ∧ w' = w) := by
    have := counts_any a m c1 n xs w h h1 h2 hm
    rw [hs] at this; exact this
  obtain ⟨b, o, rfl, lb, hc⟩ := h.at (by omega)
  have HCE : Hid (∀ wr, Below w.heap.size w wr → ∀ k, k < n → wr.cell? ⟨b, o + (n + 1 + (k + 1)), none⟩ = some (.int .u32 (xs.getD (n + 1 + 1 + k) 0))) := fun wr hb k hk => by
    rw [hb.cell (p := ⟨b, o + (n + 1 + (k + 1)), none⟩) lb, hc _ (by omega)]
    congr 3; omega
  have hm1 : n + 1 + n + 1 ≤ m := by omega
  have hm2 : m ≤ 130 := by omega
  clear h hm hs lb hc
  go_enter Tryz.func32, Tryz.ntmps32
  go_wp2_with fail
  refine (HF.out _).mono ?_
  rintro e w1 ⟨rfl, rfl⟩
  go_wp2_with fail
  refine HC.out.mono ?_
  rintro e w2 ⟨rfl, rfl⟩
  go_wp2_with fail
  go_loopw [7, 8] (fun v i wr => ∃ (k : Nat) (V : Value), V = v ∧ k ≤ n ∧ i = .int .i64 ((k : Int) + 1) ∧ Ws wr w2.heap.size V (part xs (n + 1) k) ∧ Below w2.heap.size w2 wr) (fun _ i _ => n + 1 - (intOf i).toNat)
  case atStart => exact ⟨0, _, rfl, Nat.zero_le _, rfl, Ws.zero _ _, Below.refl _ _⟩
  case round =>
    obtain ⟨k, V, hV, hk, rfl, hown, hb⟩ := hrel
    subst hV
    have HO : Hid (Ws wr w2.heap.size V (part xs (n + 1) k)) := hown
    have HB : Hid (Below w2.heap.size w2 wr) := hb
    clear hown hb
    by_cases hlt : k < n
    · have g1 := HCE.out wr HB.out k hlt
      have HD : Hid (part xs (n + 1) k ++ [xs.getD (n + 1 + 1 + k) 0] = part xs (n + 1) (k + 1)) := part_next _ _ _
      have HLN : Hid ((part xs (n + 1) k).length ≤ 1000000) := by show _ ≤ _; rw [part_len]; omega
      generalize xs.getD (n + 1 + 1 + k) 0 = z at *
      generalize part xs (n + 1) k = ps at *
      have HG : Hid ((wr.alloc (.cells #[.int .u32 z] 51)).cell? ⟨wr.heap.size, 0, none⟩ = some (.int .u32 z)) := word_cell wr z
      have HOA : Hid (Ws (wr.alloc (.cells #[.int .u32 z] 51)) w2.heap.size V ps) := HO.out.alloc _
      have HSZ : Hid (w2.heap.size ≤ (wr.alloc (.cells #[.int .u32 z] 51)).heap.size) := alloc_le HB.out.size _
      go_wp2_with (first
        | (at_builtin; refine wp_word rfl _ _ rfl w2.heap.size wr.heap.size _ ps z rfl rfl HOA.out HG.out HLN.out HSZ.out ?_)
        | go_in)
      intro v' w4 hL4 hg4
      have HL4 : Hid (Ws w4 w2.heap.size v' (part xs (n + 1) (k + 1))) := by have := HD.out; rw [this] at hL4; exact hL4
      have HB4 : Hid (Below w2.heap.size w2 w4) := own_bel HOA.out hg4 (HB.out.alloc HB.out.size _) (Nat.le_refl _) HSZ.out
      clear hL4 hg4 HOA HO HB HG HSZ
      go_wp2_with fail
      go_roundw
      case rel => exact ⟨k + 1, _, rfl, by omega, by go_num, HL4.out, HB4.out⟩
      case measure => simp [intOf]; omega
    · obtain rfl : n = k := by omega
      obtain ⟨av, cv, rfl, rv, nv, _⟩ := HO.out.row
      rw [part_len] at rv ⊢
      have HX : Hid (RowU wr av n (part xs (n + 1) n) ∧ (av = none → cv = 0)) := ⟨rv, nv⟩
      clear rv nv HO
      go_wp2_with fail
      go_ret2
      exact GaveR.mk HX.out.1 HX.out.2 HB.out

/-- The first nought, and k words of a record, into the slot that begins at o. -/
def leadI (o : Int) (rs : List Int) : Nat → List Wr
  | 0 => [⟨o, 0⟩]
  | k + 1 => leadI o rs k ++ [⟨o + 1 + (k : Int), rs.getD k 0⟩]
theorem lead_eq (o : Nat) (rs : List Int) (k : Nat) : lead o rs k = leadI (o : Int) rs k := by
  induction k with
  | zero => rfl
  | succ k ih => rw [← lead_next, ih, leadI]
theorem leadI_len (o : Int) (rs : List Int) (k : Nat) : (leadI o rs k).length = k + 1 := by
  induction k with
  | zero => rfl
  | succ k ih => rw [leadI, List.length_append, ih]; rfl
theorem leadI_next (o p : Int) (rs : List Int) (k : Nat) (h : p = o + 1 + (k : Int)) : leadI o rs k ++ [⟨p, rs.getD k 0⟩] = leadI o rs (k + 1) := by rw [leadI, h]
set_option maxHeartbeats 1000000 in
theorem sstored0a (a r : Option Addr) (m c1 n c2 : Nat) (xs rs : List Int) (w : World) (h : RowU w a m xs) (hr : RowU w r n rs) (h1 : 1 ≤ n) (h2 : n ≤ 64) (hm : m = 2 * n + 2) (hs : which xs n = 0)
    (z : Int) (hz : xs.getD (0) 0 = z) (hz1 : 1 ≤ z) (hz3 : z ≤ 3) (hq : (z + 1 == 4) = true) :
    Calls Tryz.prog 51 #[.slice a m c1, .slice r n c2] w fun e w' => GaveL w (leadI ((n : Int) + 1) rs n ++ [⟨(n : Int) + 1, 1⟩]) 0 e w' := by
  have HF : Hid (∀ W, Calls Tryz.prog 68 #[.int .i64 (m : Int), .int .i64 (n : Int)] W fun e w' => e = .returned (.bool true) ∧ w' = W) := fun W => fits_yes m n W h1 h2 hm
  have HC : Hid (Calls Tryz.prog 69 #[.slice a m c1, .int .i64 (n : Int)] w fun e w' => e = .returned (.int .i64 0) ∧ w' = w) := by
    have := counts_any a m c1 n xs w h h1 h2 hm
    rw [hs] at this; exact this
  obtain ⟨b, o, rfl, lb, hc⟩ := h.at (by omega)
  obtain ⟨b2, o2, rfl, lb2, hc2⟩ := hr.at (by omega)
  have g0 : w.cell? ⟨b, o, none⟩ = some (.int .u32 z) := by rw [← hz]; exact hc (0) (by omega)
  have HC2 : Hid (∀ wr, Below w.heap.size w wr → ∀ k, k < n → wr.cell? ⟨b2, o2 + k, none⟩ = some (.int .u32 (rs.getD k 0))) := fun wr hb k hk => (hb.cell (p := ⟨b2, o2 + k, none⟩) lb2).trans (hc2 k hk)
  have HOA0 : Hid (Lw (w.alloc (.cells #[.int .i64 ((n : Int) + 1), .int .u32 0] 53)) w.heap.size (.slice (some ⟨w.heap.size, 0, none⟩) 1 1) (leadI ((n : Int) + 1) rs 0)) := Lw.one w _ _ _ (Nat.le_refl _)
  have HB0 : Hid (Below w.heap.size w (w.alloc (.cells #[.int .i64 ((n : Int) + 1), .int .u32 0] 53))) := (Below.refl _ _).alloc (Nat.le_refl _) _
  have hm1 : n + 1 < m := by omega
  have hm0 : 0 < m := by omega
  have hm2 : m ≤ 130 := by omega
  clear h hr hm hs lb hc lb2 hc2 hz
  go_enter Tryz.func51, Tryz.ntmps51
  go_wp2_with fail
  refine (HF.out _).mono ?_
  rintro e w1 ⟨rfl, rfl⟩
  go_wp2_with fail
  refine HC.out.mono ?_
  rintro e w2 ⟨rfl, rfl⟩
  go_wp2_with fail
  clear g0
  go_loopw [10, 11] (fun v i wr => ∃ (k : Nat) (V : Value), V = v ∧ k ≤ n ∧ i = .int .i64 (k : Int) ∧ Lw wr w2.heap.size V (leadI ((n : Int) + 1) rs k) ∧ Below w2.heap.size w2 wr) (fun _ i _ => n - (intOf i).toNat)
  case atStart => exact ⟨0, _, rfl, Nat.zero_le _, rfl, HOA0.out, HB0.out⟩
  case round =>
    obtain ⟨k, V, hV, hk, rfl, hown, hb⟩ := hrel
    subst hV
    have HO : Hid (Lw wr w2.heap.size V (leadI ((n : Int) + 1) rs k)) := hown
    have HB : Hid (Below w2.heap.size w2 wr) := hb
    clear hown hb HOA0 HB0
    by_cases hlt : k < n
    · have g1 := HC2.out wr HB.out k hlt
      have HD : Hid (leadI ((n : Int) + 1) rs k ++ [⟨(n : Int) + 1 + 1 + (k : Int), rs.getD k 0⟩] = leadI ((n : Int) + 1) rs (k + 1)) := leadI_next _ _ _ _ (by omega)
      have HLN : Hid ((leadI ((n : Int) + 1) rs k).length ≤ 1000000) := by show _ ≤ _; rw [leadI_len]; omega
      generalize rs.getD k 0 = y at *
      generalize leadI ((n : Int) + 1) rs k = ps at *
      have HG : Hid ((wr.alloc (.cells #[.int .i64 ((n : Int) + 1 + 1 + (k : Int)), .int .u32 y] 53)).cell? ⟨wr.heap.size, 0, none⟩ = some (.int .i64 ((n : Int) + 1 + 1 + (k : Int))) ∧ (wr.alloc (.cells #[.int .i64 ((n : Int) + 1 + 1 + (k : Int)), .int .u32 y] 53)).cell? ⟨wr.heap.size, 1, none⟩ = some (.int .u32 y)) := pair_cell wr _ y
      have HOA : Hid (Lw (wr.alloc (.cells #[.int .i64 ((n : Int) + 1 + 1 + (k : Int)), .int .u32 y] 53)) w2.heap.size V ps) := HO.out.alloc _
      have HSZ : Hid (w2.heap.size ≤ (wr.alloc (.cells #[.int .i64 ((n : Int) + 1 + 1 + (k : Int)), .int .u32 y] 53)).heap.size) := alloc_le HB.out.size _
      go_wp2_with (first
        | (at_builtin; refine wp_write rfl _ _ rfl w2.heap.size wr.heap.size _ ps ⟨(n : Int) + 1 + 1 + (k : Int), y⟩ rfl rfl HOA.out HG.out HLN.out HSZ.out ?_)
        | go_in)
      intro v' w4 hL4 hg4
      have HL4 : Hid (Lw w4 w2.heap.size v' (leadI ((n : Int) + 1) rs (k + 1))) := by have := HD.out; rw [this] at hL4; exact hL4
      have HB4 : Hid (Below w2.heap.size w2 w4) := own_bel HOA.out hg4 (HB.out.alloc HB.out.size _) (Nat.le_refl _) HSZ.out
      clear hL4 hg4 HOA HO HB HG HSZ HD
      go_wp2_with fail
      go_roundw
      case rel => exact ⟨k + 1, _, rfl, by omega, by go_num, HL4.out, HB4.out⟩
      case measure => simp [intOf]; omega
    · obtain rfl : n = k := by omega
      have HLN : Hid ((leadI ((n : Int) + 1) rs n).length ≤ 1000000) := by show _ ≤ _; rw [leadI_len]; omega
      have HG : Hid ((wr.alloc (.cells #[.int .i64 ((n : Int) + 1), .int .u32 (1)] 53)).cell? ⟨wr.heap.size, 0, none⟩ = some (.int .i64 ((n : Int) + 1)) ∧ (wr.alloc (.cells #[.int .i64 ((n : Int) + 1), .int .u32 (1)] 53)).cell? ⟨wr.heap.size, 1, none⟩ = some (.int .u32 (1))) := pair_cell wr _ _
      have HOA : Hid (Lw (wr.alloc (.cells #[.int .i64 ((n : Int) + 1), .int .u32 (1)] 53)) w2.heap.size V (leadI ((n : Int) + 1) rs n)) := HO.out.alloc _
      have HSZ : Hid (w2.heap.size ≤ (wr.alloc (.cells #[.int .i64 ((n : Int) + 1), .int .u32 (1)] 53)).heap.size) := alloc_le HB.out.size _
      go_wp2_with (first
        | (at_builtin; refine wp_write rfl _ _ rfl w2.heap.size wr.heap.size _ (leadI ((n : Int) + 1) rs n) ⟨(n : Int) + 1, 1⟩ rfl rfl HOA.out HG.out HLN.out HSZ.out ?_)
        | go_in)
      intro v' w4 hL4 hg4
      have HL4 : Hid (Lw w4 w2.heap.size v' (leadI ((n : Int) + 1) rs n ++ [⟨(n : Int) + 1, 1⟩])) := hL4
      have HB4 : Hid (Below w2.heap.size w2 w4) := own_bel HOA.out hg4 (HB.out.alloc HB.out.size _) (Nat.le_refl _) HSZ.out
      clear hL4 hg4 HOA HO HB HG HSZ
      go_wp2_with fail
      go_ret2
      exact GaveL.mk HL4.out HB4.out
set_option maxHeartbeats 1000000 in
theorem sstored0b (a r : Option Addr) (m c1 n c2 : Nat) (xs rs : List Int) (w : World) (h : RowU w a m xs) (hr : RowU w r n rs) (h1 : 1 ≤ n) (h2 : n ≤ 64) (hm : m = 2 * n + 2) (hs : which xs n = 0)
    (z : Int) (hz : xs.getD (0) 0 = z) (hz1 : 1 ≤ z) (hz3 : z ≤ 3) (hq : (z + 1 == 4) = false) :
    Calls Tryz.prog 51 #[.slice a m c1, .slice r n c2] w fun e w' => GaveL w (leadI ((n : Int) + 1) rs n ++ [⟨(n : Int) + 1, z + 1⟩]) 0 e w' := by
  have HF : Hid (∀ W, Calls Tryz.prog 68 #[.int .i64 (m : Int), .int .i64 (n : Int)] W fun e w' => e = .returned (.bool true) ∧ w' = W) := fun W => fits_yes m n W h1 h2 hm
  have HC : Hid (Calls Tryz.prog 69 #[.slice a m c1, .int .i64 (n : Int)] w fun e w' => e = .returned (.int .i64 0) ∧ w' = w) := by
    have := counts_any a m c1 n xs w h h1 h2 hm
    rw [hs] at this; exact this
  obtain ⟨b, o, rfl, lb, hc⟩ := h.at (by omega)
  obtain ⟨b2, o2, rfl, lb2, hc2⟩ := hr.at (by omega)
  have g0 : w.cell? ⟨b, o, none⟩ = some (.int .u32 z) := by rw [← hz]; exact hc (0) (by omega)
  have HC2 : Hid (∀ wr, Below w.heap.size w wr → ∀ k, k < n → wr.cell? ⟨b2, o2 + k, none⟩ = some (.int .u32 (rs.getD k 0))) := fun wr hb k hk => (hb.cell (p := ⟨b2, o2 + k, none⟩) lb2).trans (hc2 k hk)
  have HOA0 : Hid (Lw (w.alloc (.cells #[.int .i64 ((n : Int) + 1), .int .u32 0] 53)) w.heap.size (.slice (some ⟨w.heap.size, 0, none⟩) 1 1) (leadI ((n : Int) + 1) rs 0)) := Lw.one w _ _ _ (Nat.le_refl _)
  have HB0 : Hid (Below w.heap.size w (w.alloc (.cells #[.int .i64 ((n : Int) + 1), .int .u32 0] 53))) := (Below.refl _ _).alloc (Nat.le_refl _) _
  have hm1 : n + 1 < m := by omega
  have hm0 : 0 < m := by omega
  have hm2 : m ≤ 130 := by omega
  clear h hr hm hs lb hc lb2 hc2 hz
  go_enter Tryz.func51, Tryz.ntmps51
  go_wp2_with fail
  refine (HF.out _).mono ?_
  rintro e w1 ⟨rfl, rfl⟩
  go_wp2_with fail
  refine HC.out.mono ?_
  rintro e w2 ⟨rfl, rfl⟩
  go_wp2_with fail
  clear g0
  go_loopw [10, 11] (fun v i wr => ∃ (k : Nat) (V : Value), V = v ∧ k ≤ n ∧ i = .int .i64 (k : Int) ∧ Lw wr w2.heap.size V (leadI ((n : Int) + 1) rs k) ∧ Below w2.heap.size w2 wr) (fun _ i _ => n - (intOf i).toNat)
  case atStart => exact ⟨0, _, rfl, Nat.zero_le _, rfl, HOA0.out, HB0.out⟩
  case round =>
    obtain ⟨k, V, hV, hk, rfl, hown, hb⟩ := hrel
    subst hV
    have HO : Hid (Lw wr w2.heap.size V (leadI ((n : Int) + 1) rs k)) := hown
    have HB : Hid (Below w2.heap.size w2 wr) := hb
    clear hown hb HOA0 HB0
    by_cases hlt : k < n
    · have g1 := HC2.out wr HB.out k hlt
      have HD : Hid (leadI ((n : Int) + 1) rs k ++ [⟨(n : Int) + 1 + 1 + (k : Int), rs.getD k 0⟩] = leadI ((n : Int) + 1) rs (k + 1)) := leadI_next _ _ _ _ (by omega)
      have HLN : Hid ((leadI ((n : Int) + 1) rs k).length ≤ 1000000) := by show _ ≤ _; rw [leadI_len]; omega
      generalize rs.getD k 0 = y at *
      generalize leadI ((n : Int) + 1) rs k = ps at *
      have HG : Hid ((wr.alloc (.cells #[.int .i64 ((n : Int) + 1 + 1 + (k : Int)), .int .u32 y] 53)).cell? ⟨wr.heap.size, 0, none⟩ = some (.int .i64 ((n : Int) + 1 + 1 + (k : Int))) ∧ (wr.alloc (.cells #[.int .i64 ((n : Int) + 1 + 1 + (k : Int)), .int .u32 y] 53)).cell? ⟨wr.heap.size, 1, none⟩ = some (.int .u32 y)) := pair_cell wr _ y
      have HOA : Hid (Lw (wr.alloc (.cells #[.int .i64 ((n : Int) + 1 + 1 + (k : Int)), .int .u32 y] 53)) w2.heap.size V ps) := HO.out.alloc _
      have HSZ : Hid (w2.heap.size ≤ (wr.alloc (.cells #[.int .i64 ((n : Int) + 1 + 1 + (k : Int)), .int .u32 y] 53)).heap.size) := alloc_le HB.out.size _
      go_wp2_with (first
        | (at_builtin; refine wp_write rfl _ _ rfl w2.heap.size wr.heap.size _ ps ⟨(n : Int) + 1 + 1 + (k : Int), y⟩ rfl rfl HOA.out HG.out HLN.out HSZ.out ?_)
        | go_in)
      intro v' w4 hL4 hg4
      have HL4 : Hid (Lw w4 w2.heap.size v' (leadI ((n : Int) + 1) rs (k + 1))) := by have := HD.out; rw [this] at hL4; exact hL4
      have HB4 : Hid (Below w2.heap.size w2 w4) := own_bel HOA.out hg4 (HB.out.alloc HB.out.size _) (Nat.le_refl _) HSZ.out
      clear hL4 hg4 HOA HO HB HG HSZ HD
      go_wp2_with fail
      go_roundw
      case rel => exact ⟨k + 1, _, rfl, by omega, by go_num, HL4.out, HB4.out⟩
      case measure => simp [intOf]; omega
    · obtain rfl : n = k := by omega
      have HLN : Hid ((leadI ((n : Int) + 1) rs n).length ≤ 1000000) := by show _ ≤ _; rw [leadI_len]; omega
      have HG : Hid ((wr.alloc (.cells #[.int .i64 ((n : Int) + 1), .int .u32 (z + 1)] 53)).cell? ⟨wr.heap.size, 0, none⟩ = some (.int .i64 ((n : Int) + 1)) ∧ (wr.alloc (.cells #[.int .i64 ((n : Int) + 1), .int .u32 (z + 1)] 53)).cell? ⟨wr.heap.size, 1, none⟩ = some (.int .u32 (z + 1))) := pair_cell wr _ _
      have HOA : Hid (Lw (wr.alloc (.cells #[.int .i64 ((n : Int) + 1), .int .u32 (z + 1)] 53)) w2.heap.size V (leadI ((n : Int) + 1) rs n)) := HO.out.alloc _
      have HSZ : Hid (w2.heap.size ≤ (wr.alloc (.cells #[.int .i64 ((n : Int) + 1), .int .u32 (z + 1)] 53)).heap.size) := alloc_le HB.out.size _
      go_wp2_with (first
        | (at_builtin; refine wp_write rfl _ _ rfl w2.heap.size wr.heap.size _ (leadI ((n : Int) + 1) rs n) ⟨(n : Int) + 1, z + 1⟩ rfl rfl HOA.out HG.out HLN.out HSZ.out ?_)
        | go_in)
      intro v' w4 hL4 hg4
      have HL4 : Hid (Lw w4 w2.heap.size v' (leadI ((n : Int) + 1) rs n ++ [⟨(n : Int) + 1, z + 1⟩])) := hL4
      have HB4 : Hid (Below w2.heap.size w2 w4) := own_bel HOA.out hg4 (HB.out.alloc HB.out.size _) (Nat.le_refl _) HSZ.out
      clear hL4 hg4 HOA HO HB HG HSZ
      go_wp2_with fail
      go_ret2
      exact GaveL.mk HL4.out HB4.out
set_option maxHeartbeats 1000000 in
theorem sstored1a (a r : Option Addr) (m c1 n c2 : Nat) (xs rs : List Int) (w : World) (h : RowU w a m xs) (hr : RowU w r n rs) (h1 : 1 ≤ n) (h2 : n ≤ 64) (hm : m = 2 * n + 2) (hs : which xs n = 1)
    (z : Int) (hz : xs.getD (n + 1) 0 = z) (hz1 : 1 ≤ z) (hz3 : z ≤ 3) (hq : (z + 1 == 4) = true) :
    Calls Tryz.prog 51 #[.slice a m c1, .slice r n c2] w fun e w' => GaveL w (leadI (0) rs n ++ [⟨0, 1⟩]) 0 e w' := by
  have HF : Hid (∀ W, Calls Tryz.prog 68 #[.int .i64 (m : Int), .int .i64 (n : Int)] W fun e w' => e = .returned (.bool true) ∧ w' = W) := fun W => fits_yes m n W h1 h2 hm
  have HC : Hid (Calls Tryz.prog 69 #[.slice a m c1, .int .i64 (n : Int)] w fun e w' => e = .returned (.int .i64 1) ∧ w' = w) := by
    have := counts_any a m c1 n xs w h h1 h2 hm
    rw [hs] at this; exact this
  obtain ⟨b, o, rfl, lb, hc⟩ := h.at (by omega)
  obtain ⟨b2, o2, rfl, lb2, hc2⟩ := hr.at (by omega)
  have g0 : w.cell? ⟨b, o + (n + 1), none⟩ = some (.int .u32 z) := by rw [← hz]; exact hc (n + 1) (by omega)
  have HC2 : Hid (∀ wr, Below w.heap.size w wr → ∀ k, k < n → wr.cell? ⟨b2, o2 + k, none⟩ = some (.int .u32 (rs.getD k 0))) := fun wr hb k hk => (hb.cell (p := ⟨b2, o2 + k, none⟩) lb2).trans (hc2 k hk)
  have HOA0 : Hid (Lw (w.alloc (.cells #[.int .i64 (0), .int .u32 0] 53)) w.heap.size (.slice (some ⟨w.heap.size, 0, none⟩) 1 1) (leadI (0) rs 0)) := Lw.one w _ _ _ (Nat.le_refl _)
  have HB0 : Hid (Below w.heap.size w (w.alloc (.cells #[.int .i64 (0), .int .u32 0] 53))) := (Below.refl _ _).alloc (Nat.le_refl _) _
  have hm1 : n + 1 < m := by omega
  have hm0 : 0 < m := by omega
  have hm2 : m ≤ 130 := by omega
  clear h hr hm hs lb hc lb2 hc2 hz
  go_enter Tryz.func51, Tryz.ntmps51
  go_wp2_with fail
  refine (HF.out _).mono ?_
  rintro e w1 ⟨rfl, rfl⟩
  go_wp2_with fail
  refine HC.out.mono ?_
  rintro e w2 ⟨rfl, rfl⟩
  go_wp2_with fail
  clear g0
  go_loopw [10, 11] (fun v i wr => ∃ (k : Nat) (V : Value), V = v ∧ k ≤ n ∧ i = .int .i64 (k : Int) ∧ Lw wr w2.heap.size V (leadI (0) rs k) ∧ Below w2.heap.size w2 wr) (fun _ i _ => n - (intOf i).toNat)
  case atStart => exact ⟨0, _, rfl, Nat.zero_le _, rfl, HOA0.out, HB0.out⟩
  case round =>
    obtain ⟨k, V, hV, hk, rfl, hown, hb⟩ := hrel
    subst hV
    have HO : Hid (Lw wr w2.heap.size V (leadI (0) rs k)) := hown
    have HB : Hid (Below w2.heap.size w2 wr) := hb
    clear hown hb HOA0 HB0
    by_cases hlt : k < n
    · have g1 := HC2.out wr HB.out k hlt
      have HD : Hid (leadI (0) rs k ++ [⟨1 + (k : Int), rs.getD k 0⟩] = leadI (0) rs (k + 1)) := leadI_next _ _ _ _ (by omega)
      have HLN : Hid ((leadI (0) rs k).length ≤ 1000000) := by show _ ≤ _; rw [leadI_len]; omega
      generalize rs.getD k 0 = y at *
      generalize leadI (0) rs k = ps at *
      have HG : Hid ((wr.alloc (.cells #[.int .i64 (1 + (k : Int)), .int .u32 y] 53)).cell? ⟨wr.heap.size, 0, none⟩ = some (.int .i64 (1 + (k : Int))) ∧ (wr.alloc (.cells #[.int .i64 (1 + (k : Int)), .int .u32 y] 53)).cell? ⟨wr.heap.size, 1, none⟩ = some (.int .u32 y)) := pair_cell wr _ y
      have HOA : Hid (Lw (wr.alloc (.cells #[.int .i64 (1 + (k : Int)), .int .u32 y] 53)) w2.heap.size V ps) := HO.out.alloc _
      have HSZ : Hid (w2.heap.size ≤ (wr.alloc (.cells #[.int .i64 (1 + (k : Int)), .int .u32 y] 53)).heap.size) := alloc_le HB.out.size _
      go_wp2_with (first
        | (at_builtin; refine wp_write rfl _ _ rfl w2.heap.size wr.heap.size _ ps ⟨1 + (k : Int), y⟩ rfl rfl HOA.out HG.out HLN.out HSZ.out ?_)
        | go_in)
      intro v' w4 hL4 hg4
      have HL4 : Hid (Lw w4 w2.heap.size v' (leadI (0) rs (k + 1))) := by have := HD.out; rw [this] at hL4; exact hL4
      have HB4 : Hid (Below w2.heap.size w2 w4) := own_bel HOA.out hg4 (HB.out.alloc HB.out.size _) (Nat.le_refl _) HSZ.out
      clear hL4 hg4 HOA HO HB HG HSZ HD
      go_wp2_with fail
      go_roundw
      case rel => exact ⟨k + 1, _, rfl, by omega, by go_num, HL4.out, HB4.out⟩
      case measure => simp [intOf]; omega
    · obtain rfl : n = k := by omega
      have HLN : Hid ((leadI (0) rs n).length ≤ 1000000) := by show _ ≤ _; rw [leadI_len]; omega
      have HG : Hid ((wr.alloc (.cells #[.int .i64 (0), .int .u32 (1)] 53)).cell? ⟨wr.heap.size, 0, none⟩ = some (.int .i64 (0)) ∧ (wr.alloc (.cells #[.int .i64 (0), .int .u32 (1)] 53)).cell? ⟨wr.heap.size, 1, none⟩ = some (.int .u32 (1))) := pair_cell wr _ _
      have HOA : Hid (Lw (wr.alloc (.cells #[.int .i64 (0), .int .u32 (1)] 53)) w2.heap.size V (leadI (0) rs n)) := HO.out.alloc _
      have HSZ : Hid (w2.heap.size ≤ (wr.alloc (.cells #[.int .i64 (0), .int .u32 (1)] 53)).heap.size) := alloc_le HB.out.size _
      go_wp2_with (first
        | (at_builtin; refine wp_write rfl _ _ rfl w2.heap.size wr.heap.size _ (leadI (0) rs n) ⟨0, 1⟩ rfl rfl HOA.out HG.out HLN.out HSZ.out ?_)
        | go_in)
      intro v' w4 hL4 hg4
      have HL4 : Hid (Lw w4 w2.heap.size v' (leadI (0) rs n ++ [⟨0, 1⟩])) := hL4
      have HB4 : Hid (Below w2.heap.size w2 w4) := own_bel HOA.out hg4 (HB.out.alloc HB.out.size _) (Nat.le_refl _) HSZ.out
      clear hL4 hg4 HOA HO HB HG HSZ
      go_wp2_with fail
      go_ret2
      exact GaveL.mk HL4.out HB4.out
set_option maxHeartbeats 1000000 in
theorem sstored1b (a r : Option Addr) (m c1 n c2 : Nat) (xs rs : List Int) (w : World) (h : RowU w a m xs) (hr : RowU w r n rs) (h1 : 1 ≤ n) (h2 : n ≤ 64) (hm : m = 2 * n + 2) (hs : which xs n = 1)
    (z : Int) (hz : xs.getD (n + 1) 0 = z) (hz1 : 1 ≤ z) (hz3 : z ≤ 3) (hq : (z + 1 == 4) = false) :
    Calls Tryz.prog 51 #[.slice a m c1, .slice r n c2] w fun e w' => GaveL w (leadI (0) rs n ++ [⟨0, z + 1⟩]) 0 e w' := by
  have HF : Hid (∀ W, Calls Tryz.prog 68 #[.int .i64 (m : Int), .int .i64 (n : Int)] W fun e w' => e = .returned (.bool true) ∧ w' = W) := fun W => fits_yes m n W h1 h2 hm
  have HC : Hid (Calls Tryz.prog 69 #[.slice a m c1, .int .i64 (n : Int)] w fun e w' => e = .returned (.int .i64 1) ∧ w' = w) := by
    have := counts_any a m c1 n xs w h h1 h2 hm
    rw [hs] at this; exact this
  obtain ⟨b, o, rfl, lb, hc⟩ := h.at (by omega)
  obtain ⟨b2, o2, rfl, lb2, hc2⟩ := hr.at (by omega)
  have g0 : w.cell? ⟨b, o + (n + 1), none⟩ = some (.int .u32 z) := by rw [← hz]; exact hc (n + 1) (by omega)
  have HC2 : Hid (∀ wr, Below w.heap.size w wr → ∀ k, k < n → wr.cell? ⟨b2, o2 + k, none⟩ = some (.int .u32 (rs.getD k 0))) := fun wr hb k hk => (hb.cell (p := ⟨b2, o2 + k, none⟩) lb2).trans (hc2 k hk)
  have HOA0 : Hid (Lw (w.alloc (.cells #[.int .i64 (0), .int .u32 0] 53)) w.heap.size (.slice (some ⟨w.heap.size, 0, none⟩) 1 1) (leadI (0) rs 0)) := Lw.one w _ _ _ (Nat.le_refl _)
  have HB0 : Hid (Below w.heap.size w (w.alloc (.cells #[.int .i64 (0), .int .u32 0] 53))) := (Below.refl _ _).alloc (Nat.le_refl _) _
  have hm1 : n + 1 < m := by omega
  have hm0 : 0 < m := by omega
  have hm2 : m ≤ 130 := by omega
  clear h hr hm hs lb hc lb2 hc2 hz
  go_enter Tryz.func51, Tryz.ntmps51
  go_wp2_with fail
  refine (HF.out _).mono ?_
  rintro e w1 ⟨rfl, rfl⟩
  go_wp2_with fail
  refine HC.out.mono ?_
  rintro e w2 ⟨rfl, rfl⟩
  go_wp2_with fail
  clear g0
  go_loopw [10, 11] (fun v i wr => ∃ (k : Nat) (V : Value), V = v ∧ k ≤ n ∧ i = .int .i64 (k : Int) ∧ Lw wr w2.heap.size V (leadI (0) rs k) ∧ Below w2.heap.size w2 wr) (fun _ i _ => n - (intOf i).toNat)
  case atStart => exact ⟨0, _, rfl, Nat.zero_le _, rfl, HOA0.out, HB0.out⟩
  case round =>
    obtain ⟨k, V, hV, hk, rfl, hown, hb⟩ := hrel
    subst hV
    have HO : Hid (Lw wr w2.heap.size V (leadI (0) rs k)) := hown
    have HB : Hid (Below w2.heap.size w2 wr) := hb
    clear hown hb HOA0 HB0
    by_cases hlt : k < n
    · have g1 := HC2.out wr HB.out k hlt
      have HD : Hid (leadI (0) rs k ++ [⟨1 + (k : Int), rs.getD k 0⟩] = leadI (0) rs (k + 1)) := leadI_next _ _ _ _ (by omega)
      have HLN : Hid ((leadI (0) rs k).length ≤ 1000000) := by show _ ≤ _; rw [leadI_len]; omega
      generalize rs.getD k 0 = y at *
      generalize leadI (0) rs k = ps at *
      have HG : Hid ((wr.alloc (.cells #[.int .i64 (1 + (k : Int)), .int .u32 y] 53)).cell? ⟨wr.heap.size, 0, none⟩ = some (.int .i64 (1 + (k : Int))) ∧ (wr.alloc (.cells #[.int .i64 (1 + (k : Int)), .int .u32 y] 53)).cell? ⟨wr.heap.size, 1, none⟩ = some (.int .u32 y)) := pair_cell wr _ y
      have HOA : Hid (Lw (wr.alloc (.cells #[.int .i64 (1 + (k : Int)), .int .u32 y] 53)) w2.heap.size V ps) := HO.out.alloc _
      have HSZ : Hid (w2.heap.size ≤ (wr.alloc (.cells #[.int .i64 (1 + (k : Int)), .int .u32 y] 53)).heap.size) := alloc_le HB.out.size _
      go_wp2_with (first
        | (at_builtin; refine wp_write rfl _ _ rfl w2.heap.size wr.heap.size _ ps ⟨1 + (k : Int), y⟩ rfl rfl HOA.out HG.out HLN.out HSZ.out ?_)
        | go_in)
      intro v' w4 hL4 hg4
      have HL4 : Hid (Lw w4 w2.heap.size v' (leadI (0) rs (k + 1))) := by have := HD.out; rw [this] at hL4; exact hL4
      have HB4 : Hid (Below w2.heap.size w2 w4) := own_bel HOA.out hg4 (HB.out.alloc HB.out.size _) (Nat.le_refl _) HSZ.out
      clear hL4 hg4 HOA HO HB HG HSZ HD
      go_wp2_with fail
      go_roundw
      case rel => exact ⟨k + 1, _, rfl, by omega, by go_num, HL4.out, HB4.out⟩
      case measure => simp [intOf]; omega
    · obtain rfl : n = k := by omega
      have HLN : Hid ((leadI (0) rs n).length ≤ 1000000) := by show _ ≤ _; rw [leadI_len]; omega
      have HG : Hid ((wr.alloc (.cells #[.int .i64 (0), .int .u32 (z + 1)] 53)).cell? ⟨wr.heap.size, 0, none⟩ = some (.int .i64 (0)) ∧ (wr.alloc (.cells #[.int .i64 (0), .int .u32 (z + 1)] 53)).cell? ⟨wr.heap.size, 1, none⟩ = some (.int .u32 (z + 1))) := pair_cell wr _ _
      have HOA : Hid (Lw (wr.alloc (.cells #[.int .i64 (0), .int .u32 (z + 1)] 53)) w2.heap.size V (leadI (0) rs n)) := HO.out.alloc _
      have HSZ : Hid (w2.heap.size ≤ (wr.alloc (.cells #[.int .i64 (0), .int .u32 (z + 1)] 53)).heap.size) := alloc_le HB.out.size _
      go_wp2_with (first
        | (at_builtin; refine wp_write rfl _ _ rfl w2.heap.size wr.heap.size _ (leadI (0) rs n) ⟨0, z + 1⟩ rfl rfl HOA.out HG.out HLN.out HSZ.out ?_)
        | go_in)
      intro v' w4 hL4 hg4
      have HL4 : Hid (Lw w4 w2.heap.size v' (leadI (0) rs n ++ [⟨0, z + 1⟩])) := hL4
      have HB4 : Hid (Below w2.heap.size w2 w4) := own_bel HOA.out hg4 (HB.out.alloc HB.out.size _) (Nat.le_refl _) HSZ.out
      clear hL4 hg4 HOA HO HB HG HSZ
      go_wp2_with fail
      go_ret2
      exact GaveL.mk HL4.out HB4.out

theorem sloaded_yes (a : Option Addr) (m c1 n s : Nat) (xs : List Int) (w : World) (h : RowU w a m xs) (h1 : 1 ≤ n) (h2 : n ≤ 64) (hm : m = 2 * n + 2) (hs : which xs n = s) (hs1 : s ≤ 1) :
    Calls Tryz.prog 32 #[.slice a m c1, .int .i64 (n : Int)] w fun e w' => GaveR w (rcd xs n s) 0 e w' := by
  have h3 : s = 0 ∨ s = 1 := by omega
  rcases h3 with rfl | rfl
  · rw [← part_rcd, show beg n 0 = 0 by simp [beg]]
    exact sloaded0 a m c1 n xs w h h1 h2 hm hs
  · rw [← part_rcd, show beg n 1 = n + 1 by simp [beg]]
    exact sloaded1 a m c1 n xs w h h1 h2 hm hs
theorem sstored_yes (a r : Option Addr) (m c1 n c2 s : Nat) (xs rs : List Int) (w : World) (h : RowU w a m xs) (hr : RowU w r n rs) (h1 : 1 ≤ n) (h2 : n ≤ 64) (hm : m = 2 * n + 2) (hs : which xs n = s) (hs1 : s ≤ 1) :
    Calls Tryz.prog 51 #[.slice a m c1, .slice r n c2] w fun e w' => GaveL w (sto xs rs n) 0 e w' := by
  have hg : good (xs.getD (beg n s) 0) = true := by
    have := (Holds.good (c := xs) (n := n) (r := rcd xs n (which xs n)) ⟨by rw [← hm]; exact h.1, by omega, rfl⟩)
    rw [hs] at this; exact this
  have HQ : sto xs rs n = lead (beg n (1 - s)) rs n ++ [⟨((beg n (1 - s) : Nat) : Int), behind (xs.getD (beg n s) 0)⟩] := by rw [sto, hs]; rfl
  rw [HQ, lead_eq]
  rw [good_iff] at hg
  have h3 : s = 0 ∨ s = 1 := by omega
  by_cases h4 : xs.getD (beg n s) 0 = 3
  · have hq : (xs.getD (beg n s) 0 + 1 == 4) = true := by rw [h4]; rfl
    have hb : behind (xs.getD (beg n s) 0) = 1 := by rw [h4]; rfl
    rw [hb]
    rcases h3 with rfl | rfl
    · rw [show beg n 0 = 0 by simp [beg]] at hg hq
      rw [show ((beg n (1 - 0) : Nat) : Int) = (n : Int) + 1 by simp [beg]]
      exact sstored0a a r m c1 n c2 xs rs w h hr h1 h2 hm hs _ rfl hg.1 hg.2 hq
    · rw [show beg n 1 = n + 1 by simp [beg]] at hg hq
      rw [show ((beg n (1 - 1) : Nat) : Int) = 0 by simp [beg]]
      exact sstored1a a r m c1 n c2 xs rs w h hr h1 h2 hm hs _ rfl hg.1 hg.2 hq
  · have hq : (xs.getD (beg n s) 0 + 1 == 4) = false := by simp only [beq_eq_false_iff_ne, ne_eq]; omega
    have hb : behind (xs.getD (beg n s) 0) = xs.getD (beg n s) 0 + 1 := by rw [behind, if_neg h4]
    rw [hb]
    rcases h3 with rfl | rfl
    · rw [show beg n 0 = 0 by simp [beg]] at hg hq ⊢
      rw [show ((beg n (1 - 0) : Nat) : Int) = (n : Int) + 1 by simp [beg]]
      exact sstored0b a r m c1 n c2 xs rs w h hr h1 h2 hm hs _ rfl hg.1 hg.2 hq
    · rw [show beg n 1 = n + 1 by simp [beg]] at hg hq ⊢
      rw [show ((beg n (1 - 1) : Nat) : Int) = 0 by simp [beg]]
      exact sstored1b a r m c1 n c2 xs rs w h hr h1 h2 hm hs _ rfl hg.1 hg.2 hq
theorem sloaded_blank (a : Option Addr) (m c1 n : Nat) (xs : List Int) (w : World) (h : RowU w a m xs) (h1 : 1 ≤ n) (h2 : n ≤ 64) (hm : m = 2 * n + 2) (hs : which xs n = 2) :
    Calls Tryz.prog 32 #[.slice a m c1, .int .i64 (n : Int)] w fun e w' => GaveR w [] 17 e w' := by
  have HF : Hid (∀ W, Calls Tryz.prog 68 #[.int .i64 (m : Int), .int .i64 (n : Int)] W fun e w' => e = .returned (.bool true) ∧ w' = W) := fun W => fits_yes m n W h1 h2 hm
  have HC : Hid (∀ W, W = w → Calls Tryz.prog 69 #[.slice a m c1, .int .i64 (n : Int)] W fun e w' => e = .returned (.int .i64 2) ∧ w' = W) := by
    rintro W rfl
    have := counts_any a m c1 n xs W h h1 h2 hm
    rw [hs] at this; exact this
  clear h h1 h2 hm hs
  go_enter Tryz.func32, Tryz.ntmps32
  go_wp2_with fail
  refine (HF.out _).mono ?_
  rintro e w1 ⟨rfl, rfl⟩
  go_wp2_with fail
  refine (HC.out _ rfl).mono ?_
  rintro e w2 ⟨rfl, rfl⟩
  go_wp2_with fail
  go_ret2
  exact ⟨none, 0, rfl, RowU.nil _ _, fun _ => rfl, Below.refl _ _⟩
theorem sloaded_size (a : Option Addr) (m c1 : Nat) (n : Int) (w : World) (h : n < 1 ∨ 64 < n ∨ (m : Int) ≠ 2 * n + 2) :
    Calls Tryz.prog 32 #[.slice a m c1, .int .i64 n] w fun e w' => GaveR w [] 1 e w' := by
  have HF : Hid (∀ W, Calls Tryz.prog 68 #[.int .i64 (m : Int), .int .i64 n] W fun e w' => e = .returned (.bool false) ∧ w' = W) := fun W => fits_no m n W h
  clear h
  go_enter Tryz.func32, Tryz.ntmps32
  go_wp2_with fail
  refine (HF.out _).mono ?_
  rintro e w1 ⟨rfl, rfl⟩
  go_wp2_with fail
  go_ret2
  exact ⟨none, 0, rfl, RowU.nil _ _, fun _ => rfl, Below.refl _ _⟩
theorem sstored_blank (a r : Option Addr) (m c1 n c2 : Nat) (xs : List Int) (w : World) (h : RowU w a m xs) (h1 : 1 ≤ n) (h2 : n ≤ 64) (hm : m = 2 * n + 2) (hs : which xs n = 2) :
    Calls Tryz.prog 51 #[.slice a m c1, .slice r n c2] w fun e w' => GaveL w [] 17 e w' := by
  have HF : Hid (∀ W, Calls Tryz.prog 68 #[.int .i64 (m : Int), .int .i64 (n : Int)] W fun e w' => e = .returned (.bool true) ∧ w' = W) := fun W => fits_yes m n W h1 h2 hm
  have HC : Hid (∀ W, W = w → Calls Tryz.prog 69 #[.slice a m c1, .int .i64 (n : Int)] W fun e w' => e = .returned (.int .i64 2) ∧ w' = W) := by
    rintro W rfl
    have := counts_any a m c1 n xs W h h1 h2 hm
    rw [hs] at this; exact this
  clear h h1 h2 hm hs
  go_enter Tryz.func51, Tryz.ntmps51
  go_wp2_with fail
  refine (HF.out _).mono ?_
  rintro e w1 ⟨rfl, rfl⟩
  go_wp2_with fail
  refine (HC.out _ rfl).mono ?_
  rintro e w2 ⟨rfl, rfl⟩
  go_wp2_with fail
  go_ret2
  exact GaveL.mk (Lw.zero _ _) (Below.refl _ _)
theorem sstored_size (a r : Option Addr) (m c1 n c2 : Nat) (w : World) (h : n < 1 ∨ 64 < n ∨ m ≠ 2 * n + 2) :
    Calls Tryz.prog 51 #[.slice a m c1, .slice r n c2] w fun e w' => GaveL w [] 1 e w' := by
  have HF : Hid (∀ W, Calls Tryz.prog 68 #[.int .i64 (m : Int), .int .i64 (n : Int)] W fun e w' => e = .returned (.bool false) ∧ w' = W) := fun W => fits_no m n W (by omega)
  clear h
  go_enter Tryz.func51, Tryz.ntmps51
  go_wp2_with fail
  refine (HF.out _).mono ?_
  rintro e w1 ⟨rfl, rfl⟩
  go_wp2_with fail
  go_ret2
  exact GaveL.mk (Lw.zero _ _) (Below.refl _ _)

end Go.Proofs.YtgipkpkjoicehaaGreatDoor.slot
