/- Slots: the writes that store a record. -/
import Derived.Test.YtgipkpkjoicehaaGreatDoorSlL
namespace Go.Proofs.YtgipkpkjoicehaaGreatDoor.slot
open Go.RowKit Go.Proofs.YtgipkpkjoicehaaGreatDoor.cell
set_option maxRecDepth 100000
set_option linter.unusedVariables false

theorem made_size (z : Value) (n : Nat) : (madeCells z.cells n).size = n := by simp [madeCells]
/-- Room for n writes. -/
theorem make_wr (n : Nat) (h : n ≤ 100000) (w : World) : (Instr.makeSlice 28 (.int .i64 0) (.int .i64 (n : Int))).run Tryz.prog w = .ok (.slice (some ⟨w.heap.size, 0, none⟩) 0 n) (w.alloc (.cells (madeCells (Value.agg #[.int .i64 0, .int .u32 0]).cells (n * 2)) 53)) := by
  obtain ⟨i0, hi, hz0, hz1, hz2⟩ := info_parts info_wr
  have := run_make (P := Tryz.prog) w 28 53 i0 (.agg #[.int .i64 0, .int .u32 0]) Tryz.underlying28 hi hz0 .i64 .i64 0 n (by omega) (by omega) (by rw [hz2]; omega) (by omega)
  rw [hz1] at this
  simp only [Int.toNat_natCast] at this
  exact this
theorem Lw.room (w : World) (base n : Nat) (cs : Array Value) (hb : base ≤ w.heap.size) (hn : n ≤ 100000) (hs : cs.size = n * 2) : Lw (w.alloc (.cells cs 53)) base (.slice (some ⟨w.heap.size, 0, none⟩) 0 n) [] :=
  ⟨rfl, .inr ⟨w.heap.size, n, cs, rfl, hb, heap_alloc_new w _, Nat.zero_le _, by unfold maxLen; omega, hs, by simp [cellsW]⟩⟩
/-- The first nought, and k words of a record. -/
def lead (o : Nat) (rs : List Int) (k : Nat) : List Wr := [⟨(o : Int), 0⟩] ++ body o rs k
theorem lead_next (o k : Nat) (rs : List Int) : lead o rs k ++ [⟨(o : Int) + 1 + (k : Int), rs.getD k 0⟩] = lead o rs (k + 1) := by
  rw [lead, lead, body, List.append_assoc]
  congr 3
theorem lead_len (o k : Nat) (rs : List Int) : (lead o rs k).length = k + 1 := by simp [lead, body_len]
theorem lead_zero (o : Nat) (rs : List Int) : lead o rs 0 = [⟨(o : Int), 0⟩] := rfl

set_option maxHeartbeats 2000000 in
theorem store_yes (a r : Option Addr) (m c1 n c2 s : Nat) (xs rs : List Int) (w : World) (h : RowU w a m xs) (hr : RowU w r n rs) (h1 : 1 ≤ n) (h2 : n ≤ 64) (hm : m = 2 * n + 2) (hs : which xs n = s) (hs1 : s ≤ 1) :
    Calls Tryz.prog 31 #[.slice a m c1, .slice r n c2] w fun e w' => GaveL w (sto xs rs n) 0 e w' := by
  have HP : Hid (Calls Tryz.prog 52 #[.slice a m c1, .int .i64 (n : Int)] w fun e w' => Pl w ((beg n s : Nat) : Int) ((beg n (1 - s) : Nat) : Int) 0 e w') := places_of a m c1 n s xs w h h1 h2 hm hs hs1
  have hb1 := beg_lt (n := n) hs1
  have hb2 := beg_lt (n := n) (s := 1 - s) (by omega)
  have HQ : Hid (sto xs rs n = lead (beg n (1 - s)) rs n ++ [⟨((beg n (1 - s) : Nat) : Int), behind (xs.getD (beg n s) 0)⟩]) := by show _ = _; rw [sto, hs]; rfl
  have hg : good (xs.getD (beg n s) 0) = true := by
    have := (Holds.good (c := xs) (n := n) (r := rcd xs n (which xs n)) ⟨by rw [← hm]; exact h.1, by omega, rfl⟩)
    rw [hs] at this; exact this
  have HBH : Hid (∀ W, Calls Tryz.prog 67 #[.int .u32 (xs.getD (beg n s) 0)] W fun e w' => e = .returned (.int .u32 (behind (xs.getD (beg n s) 0))) ∧ w' = W) := fun W => sbehind_any _ W hg
  obtain ⟨b, o, rfl, lb, hc⟩ := h.at (by omega)
  obtain ⟨b2, o2, rfl, lb2, hc2⟩ := hr.at (by omega)
  have hcm : beg n s < m := by omega
  have hco : beg n (1 - s) ≤ 66 := by omega
  have HC : Hid (∀ wr, Below w.heap.size w wr → wr.cell? ⟨b, o + beg n s, none⟩ = some (.int .u32 (xs.getD (beg n s) 0))) := fun wr hb => (hb.cell (p := ⟨b, o + beg n s, none⟩) lb).trans (hc _ hcm)
  have HC2 : Hid (∀ wr, Below w.heap.size w wr → ∀ k, k < n → wr.cell? ⟨b2, o2 + k, none⟩ = some (.int .u32 (rs.getD k 0))) := fun wr hb k hk => (hb.cell (p := ⟨b2, o2 + k, none⟩) lb2).trans (hc2 k hk)
  have hmk : ∀ W : World, (Instr.makeSlice 28 (.int .i64 0) (.int .i64 ((n : Int) + 2))).run Tryz.prog W = .ok (.slice (some ⟨W.heap.size, 0, none⟩) 0 (n + 2)) (W.alloc (.cells (madeCells (Value.agg #[.int .i64 0, .int .u32 0]).cells ((n + 2) * 2)) 53)) := fun W => by
    rw [show ((n : Int) + 2) = ((n + 2 : Nat) : Int) by omega]
    exact make_wr (n + 2) (by omega) W
  have HCS : Hid ((madeCells (Value.agg #[.int .i64 0, .int .u32 0]).cells ((n + 2) * 2)).size = (n + 2) * 2) := made_size _ _
  have hm2 : m ≤ 130 := by omega
  clear h hr hs hs1 hb1 hb2 hc hc2 lb lb2 hg hm
  generalize sto xs rs n = ST at *
  generalize xs.getD (beg n s) 0 = z at *
  generalize behind z = bz at *
  generalize beg n s = C at *
  generalize beg n (1 - s) = O at *
  generalize madeCells (Value.agg #[.int .i64 0, .int .u32 0]).cells ((n + 2) * 2) = cs at *
  go_enter Tryz.func31, Tryz.ntmps31
  go_wp2_with fail
  refine HP.out.mono ?_
  rintro e w1 ⟨rfl, hb1⟩
  have HB1 : Hid (Below w.heap.size w w1) := hb1
  have HOA : Hid (Lw ((w1.alloc (.cells cs 53)).alloc (.cells #[.int .i64 (O : Int), .int .u32 0] 53)) w.heap.size (.slice (some ⟨w1.heap.size, 0, none⟩) 0 (n + 2)) []) := (Lw.room w1 _ _ cs hb1.size (by omega) HCS.out).alloc _
  have HG := pair_cell (w1.alloc (.cells cs 53)) (O : Int) 0
  have HSZ : Hid (w.heap.size ≤ ((w1.alloc (.cells cs 53)).alloc (.cells #[.int .i64 (O : Int), .int .u32 0] 53)).heap.size) := alloc_le (alloc_le hb1.size _) _
  have HBA : Hid (Below w.heap.size w ((w1.alloc (.cells cs 53)).alloc (.cells #[.int .i64 (O : Int), .int .u32 0] 53))) := (hb1.alloc hb1.size _).alloc (alloc_le hb1.size _) _
  have HGG : Hid (((w1.alloc (.cells cs 53)).alloc (.cells #[.int .i64 (O : Int), .int .u32 0] 53)).cell? ⟨w1.heap.size + 1, 0, none⟩ = some (.int .i64 (O : Int)) ∧ ((w1.alloc (.cells cs 53)).alloc (.cells #[.int .i64 (O : Int), .int .u32 0] 53)).cell? ⟨w1.heap.size + 1, 1, none⟩ = some (.int .u32 0)) := by
    have e : (w1.alloc (.cells cs 53)).heap.size = w1.heap.size + 1 := by simp
    rw [e] at HG; exact HG
  clear HG hb1 HCS
  go_wp2_with (first
    | (at_builtin; refine wp_write rfl _ _ rfl w.heap.size (w1.heap.size + 1) _ [] ⟨(O : Int), 0⟩ rfl rfl HOA.out HGG.out (by decide) HSZ.out ?_)
    | go_in)
  intro v2 w2 hL2 hg2
  have HL2 : Hid (Lw w2 w.heap.size v2 (lead O rs 0)) := hL2
  have HB2 : Hid (Below w.heap.size w w2) := own_bel HOA.out hg2 HBA.out (Nat.le_refl _) HSZ.out
  clear hL2 hg2 HOA HBA HGG HSZ hmk HB1
  go_wp2_with fail
  go_loopw [9, 34] (fun v i wr => ∃ (k : Nat) (V : Value), V = v ∧ k ≤ n ∧ i = .int .i64 (k : Int) ∧ Lw wr w.heap.size V (lead O rs k) ∧ Below w.heap.size w wr) (fun _ i _ => n - (intOf i).toNat)
  case atStart => exact ⟨0, _, rfl, Nat.zero_le _, rfl, HL2.out, HB2.out⟩
  case round =>
    obtain ⟨k, V, hV, hk, rfl, hown, hb⟩ := hrel
    subst hV
    have HO : Hid (Lw wr w.heap.size V (lead O rs k)) := hown
    have HB : Hid (Below w.heap.size w wr) := hb
    clear hown hb HL2 HB2
    by_cases hlt : k < n
    · have g1 := HC2.out wr HB.out k hlt
      have HD : Hid (lead O rs k ++ [⟨(O : Int) + 1 + (k : Int), rs.getD k 0⟩] = lead O rs (k + 1)) := lead_next O k rs
      have HLN : Hid ((lead O rs k).length ≤ 1000000) := by show _ ≤ _; rw [lead_len]; omega
      generalize rs.getD k 0 = y at *
      have HG : Hid ((wr.alloc (.cells #[.int .i64 ((O : Int) + 1 + (k : Int)), .int .u32 y] 53)).cell? ⟨wr.heap.size, 0, none⟩ = some (.int .i64 ((O : Int) + 1 + (k : Int))) ∧ (wr.alloc (.cells #[.int .i64 ((O : Int) + 1 + (k : Int)), .int .u32 y] 53)).cell? ⟨wr.heap.size, 1, none⟩ = some (.int .u32 y)) := pair_cell wr _ y
      have HOA : Hid (Lw (wr.alloc (.cells #[.int .i64 ((O : Int) + 1 + (k : Int)), .int .u32 y] 53)) w.heap.size V (lead O rs k)) := HO.out.alloc _
      have HSZ : Hid (w.heap.size ≤ (wr.alloc (.cells #[.int .i64 ((O : Int) + 1 + (k : Int)), .int .u32 y] 53)).heap.size) := alloc_le HB.out.size _
      go_wp2_with (first
        | (at_builtin; refine wp_write rfl _ _ rfl w.heap.size wr.heap.size _ (lead O rs k) ⟨(O : Int) + 1 + (k : Int), y⟩ rfl rfl HOA.out HG.out HLN.out HSZ.out ?_)
        | go_in)
      intro v' w4 hL4 hg4
      have HL4 : Hid (Lw w4 w.heap.size v' (lead O rs (k + 1))) := by have := HD.out; rw [this] at hL4; exact hL4
      have HB4 : Hid (Below w.heap.size w w4) := own_bel HOA.out hg4 (HB.out.alloc HB.out.size _) (Nat.le_refl _) HSZ.out
      clear hL4 hg4 HOA HO HB HG HSZ HD
      go_wp2_with fail
      go_roundw
      case rel => exact ⟨k + 1, _, rfl, by omega, by go_num, HL4.out, HB4.out⟩
      case measure => simp [intOf]; omega
    · obtain rfl : k = n := by omega
      have g1 := HC.out wr HB.out
      have HLN : Hid ((lead O rs k).length ≤ 1000000) := by show _ ≤ _; rw [lead_len]; omega
      go_wp2_with fail
      refine (HBH.out _).mono ?_
      rintro e w5 ⟨rfl, rfl⟩
      have HG : Hid ((w5.alloc (.cells #[.int .i64 (O : Int), .int .u32 bz] 53)).cell? ⟨w5.heap.size, 0, none⟩ = some (.int .i64 (O : Int)) ∧ (w5.alloc (.cells #[.int .i64 (O : Int), .int .u32 bz] 53)).cell? ⟨w5.heap.size, 1, none⟩ = some (.int .u32 bz)) := pair_cell w5 _ bz
      have HOA : Hid (Lw (w5.alloc (.cells #[.int .i64 (O : Int), .int .u32 bz] 53)) w.heap.size V (lead O rs k)) := HO.out.alloc _
      have HSZ : Hid (w.heap.size ≤ (w5.alloc (.cells #[.int .i64 (O : Int), .int .u32 bz] 53)).heap.size) := alloc_le HB.out.size _
      go_wp2_with (first
        | (at_builtin; refine wp_write rfl _ _ rfl w.heap.size w5.heap.size _ (lead O rs k) ⟨(O : Int), bz⟩ rfl rfl HOA.out HG.out HLN.out HSZ.out ?_)
        | go_in)
      intro v' w4 hL4 hg4
      have HL4 : Hid (Lw w4 w.heap.size v' ST) := by have := HQ.out; rw [← this] at hL4; exact hL4
      have HB4 : Hid (Below w.heap.size w w4) := own_bel HOA.out hg4 (HB.out.alloc HB.out.size _) (Nat.le_refl _) HSZ.out
      clear hL4 hg4 HOA HO HB HG HSZ HQ
      go_wp2_with fail
      go_ret2
      exact GaveL.mk HL4.out HB4.out
theorem store_blank (a r : Option Addr) (m c1 n c2 : Nat) (xs : List Int) (w : World) (h : RowU w a m xs) (h1 : 1 ≤ n) (h2 : n ≤ 64) (hm : m = 2 * n + 2) (hs : which xs n = 2) :
    Calls Tryz.prog 31 #[.slice a m c1, .slice r n c2] w fun e w' => GaveL w [] 17 e w' := by
  have HP : Hid (Calls Tryz.prog 52 #[.slice a m c1, .int .i64 (n : Int)] w fun e w' => Pl w 0 0 17 e w') := (places_any a m c1 n xs w h h1 h2 hm).mono fun e w' hp => hp.2.2 hs
  clear h h1 h2 hm hs
  go_enter Tryz.func31, Tryz.ntmps31
  go_wp2_with fail
  refine HP.out.mono ?_
  rintro e w1 ⟨rfl, hb1⟩
  have HB1 : Hid (Below w.heap.size w w1) := hb1
  clear hb1
  go_wp2_with fail
  go_ret2
  exact GaveL.mk (Lw.zero _ _) HB1.out
theorem store_size (a r : Option Addr) (m c1 n c2 : Nat) (w : World) (h : n < 1 ∨ 64 < n ∨ m ≠ 2 * n + 2) :
    Calls Tryz.prog 31 #[.slice a m c1, .slice r n c2] w fun e w' => GaveL w [] 1 e w' := by
  have HP : Hid (Calls Tryz.prog 52 #[.slice a m c1, .int .i64 (n : Int)] w fun e w' => Pl w 0 0 1 e w') := places_size a m c1 n w (by omega)
  clear h
  go_enter Tryz.func31, Tryz.ntmps31
  go_wp2_with fail
  refine HP.out.mono ?_
  rintro e w1 ⟨rfl, hb1⟩
  have HB1 : Hid (Below w.heap.size w w1) := hb1
  clear hb1
  go_wp2_with fail
  go_ret2
  exact GaveL.mk (Lw.zero _ _) HB1.out

end Go.Proofs.YtgipkpkjoicehaaGreatDoor.slot
