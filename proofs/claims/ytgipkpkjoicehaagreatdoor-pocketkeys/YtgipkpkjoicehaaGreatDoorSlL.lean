/- Slots: the record is loaded. -/
import Derived.Test.YtgipkpkjoicehaaGreatDoorSlP
import Derived.Test.YtgipkpkjoicehaaGreatDoorClGvU
namespace Go.Proofs.YtgipkpkjoicehaaGreatDoor.slot
open Go.RowKit Go.Proofs.YtgipkpkjoicehaaGreatDoor.cell
set_option maxRecDepth 100000
set_option linter.unusedVariables false

set_option maxHeartbeats 400000 in
theorem clone_any (x : Addr) (len cap : Nat) (zs : List Int) (w : World) (hr : RowU w (some x) len zs) (hl : len ≤ 100000) :
    Calls Tryz.prog 53 #[.slice (some x) len cap] w fun e w' => GaveU w zs e w' := by
  obtain ⟨i0, hi, hz0, hz1, hz2⟩ := info_parts info_u32
  obtain ⟨hz, hr⟩ := hr
  have hown : (w.alloc (.cells #[] 51)).ownsRow w.heap.size 51 1 (.slice (some ⟨w.heap.size, 0, none⟩) 0 0) 0 [] := World.ownsRow_lit w #[] 0 (Nat.le_refl _) (by unfold maxLen; omega) rfl
  have HO : Hid ((w.alloc (.cells #[] 51)).ownsRow w.heap.size 51 1 (.slice (some ⟨w.heap.size, 0, none⟩) 0 0) 0 []) := hown
  have HSZ : Hid (w.heap.size ≤ (w.alloc (.cells #[] 51)).heap.size) := alloc_le (Nat.le_refl _) _
  clear hown
  have heq : ∀ W : World, (binOp BinOp.eql 22 (.slice (some x) len cap) (.slice none 0 0)).run Tryz.prog W = .ok (.bool false) W := fun W => by kernel_rfl
  go_enter Tryz.func53, Tryz.ntmps53
  go_wp2_with (first
    | (at_builtin; refine wpList_append_own _ rfl _ _ 22 rfl w.heap.size 51 i0 (.int .u32 0) 1 4 Tryz.underlying22 hi hz0 hz1 hz2 rfl (by decide) _ _ _ rfl HO.out x len cap (zs.map (.int .u32)) rfl ?c0 ?c1 ?c2 ?c3 ?c4 HSZ.out ?_)
    | go_in)
  case c0 => simp [hz]
  case c1 =>
    intro j u hu
    rcases hr with h | ⟨b, off, h, hc⟩
    · rw [List.getElem?_eq_none (by simp; omega)] at hu; cases hu
    · obtain rfl := Option.some.inj h
      by_cases hj : j < zs.length
      · simp [List.getElem?_eq_getElem hj] at hu
        subst hu
        have := hc j (by omega)
        rw [Addr.add_lit, World.cell?_alloc_lt w _ _ (World.block_lt_of_cell? w _ this)]
        simpa [List.getD, List.getElem?_eq_getElem hj] using this
      · rw [List.getElem?_eq_none (by simp; omega)] at hu; cases hu
  case c2 => intro u hu; obtain ⟨z, _, rfl⟩ := List.mem_map.1 hu; rfl
  case c3 => unfold maxLen; omega
  case c4 => omega
  intro v' w' hown hg _
  have HW : Hid (Ws w' w.heap.size v' zs) := by show w'.ownsRow _ _ _ _ _ _; rw [hz]; simpa using hown
  have HG : Hid (Below w.heap.size w w') := own_bel HO.out hg ((Below.refl _ _).alloc (Nat.le_refl _) _) (Nat.le_refl _) HSZ.out
  clear hown hg
  go_wp2
  go_ret
  exact GaveU.mk HW.out HG.out

theorem places_of (a : Option Addr) (m c1 n s : Nat) (xs : List Int) (w : World) (h : RowU w a m xs) (h1 : 1 ≤ n) (h2 : n ≤ 64) (hm : m = 2 * n + 2) (hs : which xs n = s) (hs1 : s ≤ 1) :
    Calls Tryz.prog 52 #[.slice a m c1, .int .i64 (n : Int)] w fun e w' => Pl w ((beg n s : Nat) : Int) ((beg n (1 - s) : Nat) : Int) 0 e w' := by
  refine (places_any a m c1 n xs w h h1 h2 hm).mono fun e w' hp => ?_
  have h3 : s = 0 ∨ s = 1 := by omega
  rcases h3 with rfl | rfl
  · have := hp.1 hs
    simpa [beg] using this
  · have := hp.2.1 hs
    simpa [beg] using this
theorem RowU.mid {w : World} {b o m : Nat} {xs : List Int} (h : RowU w (some ⟨b, o, none⟩) m xs) (n s : Nat) (hm : beg n s + 1 + n ≤ m) : RowU w (some ⟨b, o + (beg n s + 1), none⟩) n (rcd xs n s) := by
  refine ⟨rcd_len _ _ _, .inr ⟨b, o + (beg n s + 1), rfl, fun i hi => ?_⟩⟩
  rcases h.2 with h0 | ⟨b', o', he, hc⟩
  · omega
  · obtain ⟨rfl, rfl, _⟩ := Addr.mk.inj (Option.some.inj he)
    rw [rcd_at _ _ _ _ hi, ← hc (beg n s + 1 + i) (by omega), ← Nat.add_assoc o, ← Nat.add_assoc o]
    simp only [Nat.add_assoc]
set_option maxHeartbeats 1000000 in
theorem load_yes (a : Option Addr) (m c1 n s : Nat) (xs : List Int) (w : World) (h : RowU w a m xs) (hc : m ≤ c1) (h1 : 1 ≤ n) (h2 : n ≤ 64) (hm : m = 2 * n + 2) (hs : which xs n = s) (hs1 : s ≤ 1) :
    Calls Tryz.prog 20 #[.slice a m c1, .int .i64 (n : Int)] w fun e w' => GaveR w (rcd xs n s) 0 e w' := by
  have HP : Hid (Calls Tryz.prog 52 #[.slice a m c1, .int .i64 (n : Int)] w fun e w' => Pl w ((beg n s : Nat) : Int) ((beg n (1 - s) : Nat) : Int) 0 e w') := places_of a m c1 n s xs w h h1 h2 hm hs hs1
  have hb := beg_lt (n := n) hs1
  obtain ⟨b, o, rfl, _, _⟩ := h.at (by omega)
  have HC : Hid (∀ W cc, Below w.heap.size w W → Calls Tryz.prog 53 #[.slice (some ⟨b, o + (beg n s + 1), none⟩) n cc] W fun e w' => GaveU W (rcd xs n s) e w') := fun W cc hb' => clone_any _ n cc _ W (RowU.mid (h.below hb') n s (by omega)) (by omega)
  have HL : Hid ((rcd xs n s).length = n) := rcd_len _ _ _
  have hb1 : beg n s + 1 + n ≤ m := by omega
  have hb2 : beg n s + 1 < c1 := by omega
  have hm2 : m ≤ 130 := by omega
  clear h hm hs hs1 hb
  generalize rcd xs n s = rs at *
  generalize beg n s = C at *
  generalize beg n (1 - s) = O at *
  go_enter Tryz.func20, Tryz.ntmps20
  go_wp2_with fail
  refine HP.out.mono ?_
  rintro e w1 ⟨rfl, hb1⟩
  have HB1 : Hid (Below w.heap.size w w1) := hb1
  clear hb1
  go_wp2_with fail
  refine (HC.out _ _ HB1.out).mono ?_
  rintro e w2 ⟨v, rfl, hv, hb2⟩
  have HB2 : Hid (Below w.heap.size w w2) := bel_step HB1.out hb2
  obtain ⟨x, cx, rfl, rx, hx1, hx2⟩ := hv.row
  have hl := HL.out
  rw [hl] at rx ⊢
  have HX : Hid (RowU w2 x n rs ∧ (x = none → cx = 0)) := ⟨rx, hx1⟩
  clear hv rx hx1 hx2 hb2 hl
  go_wp2_with fail
  go_ret2
  exact GaveR.mk HX.out.1 HX.out.2 HB2.out
theorem load_blank (a : Option Addr) (m c1 n : Nat) (xs : List Int) (w : World) (h : RowU w a m xs) (h1 : 1 ≤ n) (h2 : n ≤ 64) (hm : m = 2 * n + 2) (hs : which xs n = 2) :
    Calls Tryz.prog 20 #[.slice a m c1, .int .i64 (n : Int)] w fun e w' => GaveR w [] 17 e w' := by
  have HP : Hid (Calls Tryz.prog 52 #[.slice a m c1, .int .i64 (n : Int)] w fun e w' => Pl w 0 0 17 e w') := (places_any a m c1 n xs w h h1 h2 hm).mono fun e w' hp => hp.2.2 hs
  clear h h1 h2 hm hs
  go_enter Tryz.func20, Tryz.ntmps20
  go_wp2_with fail
  refine HP.out.mono ?_
  rintro e w1 ⟨rfl, hb1⟩
  have HB1 : Hid (Below w.heap.size w w1) := hb1
  clear hb1
  go_wp2_with fail
  go_ret2
  exact ⟨none, 0, rfl, RowU.nil _ _, fun _ => rfl, HB1.out⟩
theorem load_size (a : Option Addr) (m c1 : Nat) (n : Int) (w : World) (h : n < 1 ∨ 64 < n ∨ (m : Int) ≠ 2 * n + 2) :
    Calls Tryz.prog 20 #[.slice a m c1, .int .i64 n] w fun e w' => GaveR w [] 1 e w' := by
  have HP : Hid (Calls Tryz.prog 52 #[.slice a m c1, .int .i64 n] w fun e w' => Pl w 0 0 1 e w') := places_size a m c1 n w h
  clear h
  go_enter Tryz.func20, Tryz.ntmps20
  go_wp2_with fail
  refine HP.out.mono ?_
  rintro e w1 ⟨rfl, hb1⟩
  have HB1 : Hid (Below w.heap.size w w1) := hb1
  clear hb1
  go_wp2_with fail
  go_ret2
  exact ⟨none, 0, rfl, RowU.nil _ _, fun _ => rfl, HB1.out⟩

end Go.Proofs.YtgipkpkjoicehaaGreatDoor.slot
