import Derived.Test.YtgipkpkjoicehabDoorJPocketForged1
import Derived.Test.YtgipkpkjoicehabDoorMpR
import Derived.Test.YtgipkpkjoicehabDoorLet
import Derived.Test.YtgipkpkjoicehabDoorMtD
import Derived.Laws.StructEq
import Derived.Test.YtgipkpkjoicehabDoorMpW
import Derived.Test.YtgipkpkjoicehabDoorProg
import Derived.WalkKit
import Derived.Below
import Derived.OpenShut
import Derived.Laws.CopyOwn
import Derived.Deep.RegionHeld
import Derived.Test.YtgipkpkjoicehabDoorMjI
import Derived.Test.YtgipkpkjoicehabDoorMpM
import Derived.SliceStrings
import Derived.Test.YtgipkpkjoicehabDoorCallFirst
import Derived.Test.YtgipkpkjoicehabDoorOpAt
import Derived.LaidLaws

/- Slots: the record is loaded. -/
namespace Go.Proofs.YtgipkpkjoicehabDoor.slot
open Go.RowKit Go.Proofs.YtgipkpkjoicehabDoor.cell
set_option maxRecDepth 100000
set_option linter.unusedVariables false

set_option maxHeartbeats 400000 in
theorem clone_any (x : Addr) (len cap : Nat) (zs : List Int) (w : World) (hr : RowU w (some x) len zs) (hl : len ≤ 100000) :
    Calls Tryd.prog 34 #[.slice (some x) len cap] w fun e w' => GaveU w zs e w' := by
  obtain ⟨i0, hi, hz0, hz1, hz2⟩ := info_parts info_u32
  obtain ⟨hz, hr⟩ := hr
  have hown : (w.alloc (.cells #[] 60)).ownsRow w.heap.size 60 1 (.slice (some ⟨w.heap.size, 0, none⟩) 0 0) 0 [] := World.ownsRow_lit w #[] 0 (Nat.le_refl _) (by unfold maxLen; omega) rfl
  have HO : Hid ((w.alloc (.cells #[] 60)).ownsRow w.heap.size 60 1 (.slice (some ⟨w.heap.size, 0, none⟩) 0 0) 0 []) := hown
  have HSZ : Hid (w.heap.size ≤ (w.alloc (.cells #[] 60)).heap.size) := alloc_le (Nat.le_refl _) _
  clear hown
  have heq : ∀ W : World, (binOp BinOp.eql 22 (.slice (some x) len cap) (.slice none 0 0)).run Tryd.prog W = .ok (.bool false) W := fun W => by kernel_rfl
  go_enter Tryd.func34, Tryd.ntmps34
  go_wp2_with (first
    | (at_builtin; refine wpList_append_own _ rfl _ _ 22 rfl w.heap.size 60 i0 (.int .u32 0) 1 4 Tryd.underlying22 hi hz0 hz1 hz2 rfl (by decide) _ _ _ rfl HO.out x len cap (zs.map (.int .u32)) rfl ?c0 ?c1 ?c2 ?c3 ?c4 HSZ.out ?_)
    | go_in)
  case c0 => simp [hz]
  case c1 =>
    intro j u hu
    rcases hr with h | ⟨b, off, h, hc⟩
    · rw [List.getElem?_eq_none (by simp; omega)] at hu; cases hu
    · obtain rfl := Option.some.inj h
      by_cases hj : j < zs.length
      · simp [List.getElem?_eq_getElem hj] at hu
        subst hu
        have := hc j (by omega)
        rw [Addr.add_lit, World.cell?_alloc_lt w _ _ (World.block_lt_of_cell? w _ this)]
        simpa [List.getD, List.getElem?_eq_getElem hj] using this
      · rw [List.getElem?_eq_none (by simp; omega)] at hu; cases hu
  case c2 => intro u hu; obtain ⟨z, _, rfl⟩ := List.mem_map.1 hu; rfl
  case c3 => unfold maxLen; omega
  case c4 => omega
  intro v' w' hown hg _
  have HW : Hid (Ws w' w.heap.size v' zs) := by show w'.ownsRow _ _ _ _ _ _; rw [hz]; simpa using hown
  have HG : Hid (Below w.heap.size w w') := own_bel HO.out hg ((Below.refl _ _).alloc (Nat.le_refl _) _) (Nat.le_refl _) HSZ.out
  clear hown hg
  go_wp2
  go_ret
  exact GaveU.mk HW.out HG.out

theorem places_of (a : Option Addr) (m c1 n s : Nat) (xs : List Int) (w : World) (h : RowU w a m xs) (h1 : 1 ≤ n) (h2 : n ≤ 64) (hm : m = 2 * n + 2) (hs : which xs n = s) (hs1 : s ≤ 1) :
    Calls Tryd.prog 33 #[.slice a m c1, .int .i64 (n : Int)] w fun e w' => Pl w ((beg n s : Nat) : Int) ((beg n (1 - s) : Nat) : Int) 0 e w' := by
  refine (places_any a m c1 n xs w h h1 h2 hm).mono fun e w' hp => ?_
  have h3 : s = 0 ∨ s = 1 := by omega
  rcases h3 with rfl | rfl
  · have := hp.1 hs
    simpa [beg] using this
  · have := hp.2.1 hs
    simpa [beg] using this
theorem RowU.mid {w : World} {b o m : Nat} {xs : List Int} (h : RowU w (some ⟨b, o, none⟩) m xs) (n s : Nat) (hm : beg n s + 1 + n ≤ m) : RowU w (some ⟨b, o + (beg n s + 1), none⟩) n (rcd xs n s) := by
  refine ⟨rcd_len _ _ _, .inr ⟨b, o + (beg n s + 1), rfl, fun i hi => ?_⟩⟩
  rcases h.2 with h0 | ⟨b', o', he, hc⟩
  · omega
  · obtain ⟨rfl, rfl, _⟩ := Addr.mk.inj (Option.some.inj he)
    rw [rcd_at _ _ _ _ hi, ← hc (beg n s + 1 + i) (by omega), ← Nat.add_assoc o, ← Nat.add_assoc o]
    simp only [Nat.add_assoc]
set_option maxHeartbeats 1000000 in
theorem load_yes (a : Option Addr) (m c1 n s : Nat) (xs : List Int) (w : World) (h : RowU w a m xs) (hc : m ≤ c1) (h1 : 1 ≤ n) (h2 : n ≤ 64) (hm : m = 2 * n + 2) (hs : which xs n = s) (hs1 : s ≤ 1) :
    Calls Tryd.prog 14 #[.slice a m c1, .int .i64 (n : Int)] w fun e w' => GaveR w (rcd xs n s) 0 e w' := by
  have HP : Hid (Calls Tryd.prog 33 #[.slice a m c1, .int .i64 (n : Int)] w fun e w' => Pl w ((beg n s : Nat) : Int) ((beg n (1 - s) : Nat) : Int) 0 e w') := places_of a m c1 n s xs w h h1 h2 hm hs hs1
  have hb := beg_lt (n := n) hs1
  obtain ⟨b, o, rfl, _, _⟩ := h.at (by omega)
  have HC : Hid (∀ W cc, Below w.heap.size w W → Calls Tryd.prog 34 #[.slice (some ⟨b, o + (beg n s + 1), none⟩) n cc] W fun e w' => GaveU W (rcd xs n s) e w') := fun W cc hb' => clone_any _ n cc _ W (RowU.mid (h.below hb') n s (by omega)) (by omega)
  have HL : Hid ((rcd xs n s).length = n) := rcd_len _ _ _
  have hb1 : beg n s + 1 + n ≤ m := by omega
  have hb2 : beg n s + 1 < c1 := by omega
  have hm2 : m ≤ 130 := by omega
  clear h hm hs hs1 hb
  generalize rcd xs n s = rs at *
  generalize beg n s = C at *
  generalize beg n (1 - s) = O at *
  go_enter Tryd.func14, Tryd.ntmps14
  go_wp2_with fail
  refine HP.out.mono ?_
  rintro e w1 ⟨rfl, hb1⟩
  have HB1 : Hid (Below w.heap.size w w1) := hb1
  clear hb1
  go_wp2_with fail
  refine (HC.out _ _ HB1.out).mono ?_
  rintro e w2 ⟨v, rfl, hv, hb2⟩
  have HB2 : Hid (Below w.heap.size w w2) := bel_step HB1.out hb2
  obtain ⟨x, cx, rfl, rx, hx1, hx2⟩ := hv.row
  have hl := HL.out
  rw [hl] at rx ⊢
  have HX : Hid (RowU w2 x n rs ∧ (x = none → cx = 0)) := ⟨rx, hx1⟩
  clear hv rx hx1 hx2 hb2 hl
  go_wp2_with fail
  go_ret2
  exact GaveR.mk HX.out.1 HX.out.2 HB2.out
theorem load_blank (a : Option Addr) (m c1 n : Nat) (xs : List Int) (w : World) (h : RowU w a m xs) (h1 : 1 ≤ n) (h2 : n ≤ 64) (hm : m = 2 * n + 2) (hs : which xs n = 2) :
    Calls Tryd.prog 14 #[.slice a m c1, .int .i64 (n : Int)] w fun e w' => GaveR w [] 17 e w' := by
  have HP : Hid (Calls Tryd.prog 33 #[.slice a m c1, .int .i64 (n : Int)] w fun e w' => Pl w 0 0 17 e w') := (places_any a m c1 n xs w h h1 h2 hm).mono fun e w' hp => hp.2.2 hs
  clear h h1 h2 hm hs
  go_enter Tryd.func14, Tryd.ntmps14
  go_wp2_with fail
  refine HP.out.mono ?_
  rintro e w1 ⟨rfl, hb1⟩
  have HB1 : Hid (Below w.heap.size w w1) := hb1
  clear hb1
  go_wp2_with fail
  go_ret2
  exact ⟨none, 0, rfl, RowU.nil _ _, fun _ => rfl, HB1.out⟩
theorem load_size (a : Option Addr) (m c1 : Nat) (n : Int) (w : World) (h : n < 1 ∨ 64 < n ∨ (m : Int) ≠ 2 * n + 2) :
    Calls Tryd.prog 14 #[.slice a m c1, .int .i64 n] w fun e w' => GaveR w [] 1 e w' := by
  have HP : Hid (Calls Tryd.prog 33 #[.slice a m c1, .int .i64 n] w fun e w' => Pl w 0 0 1 e w') := places_size a m c1 n w h
  clear h
  go_enter Tryd.func14, Tryd.ntmps14
  go_wp2_with fail
  refine HP.out.mono ?_
  rintro e w1 ⟨rfl, hb1⟩
  have HB1 : Hid (Below w.heap.size w w1) := hb1
  clear hb1
  go_wp2_with fail
  go_ret2
  exact ⟨none, 0, rfl, RowU.nil _ _, fun _ => rfl, HB1.out⟩

end Go.Proofs.YtgipkpkjoicehabDoor.slot

/- The program boots a pocket. -/
namespace Go.Proofs.YtgipkpkjoicehabDoor.pkt
open Go.RowKit Go.Proofs.YtgipkpkjoicehabDoor.met Go.Proofs.YtgipkpkjoicehabDoor.slot Go.Proofs.YtgipkpkjoicehabDoor.cell
set_option maxRecDepth 100000
set_option linter.unusedVariables false
set_option linter.unusedSimpArgs false

set_option maxHeartbeats 1000000 in
theorem pboot_no (a : Option Addr) (n cap : Nat) (f : Int) (w : World) (hf : f ≠ 0) (hL : ∀ W, Below w.heap.size w W → Calls Tryd.prog 14 #[.slice a n cap, .int .i64 5] W fun e w' => GaveR W [] f e w') :
    Calls Tryd.prog 7 #[.slice a n cap] w fun e w' => e = .returned (.tuple #[.agg #[.int .i64 0, .int .i64 0, .int .i64 0, .int .i64 0, .int .u64 0, .int .i64 0, .int .i64 0], .int .i64 f]) ∧ Below w.heap.size w w' := by
  have HL : Hid (∀ W, Below w.heap.size w W → Calls Tryd.prog 14 #[.slice a n cap, .int .i64 5] W fun e w' => GaveR W [] f e w') := hL
  have hd : (f != 0) = true := by simpa using hf
  clear hL hf
  have H0r : Hid (Blk (w.alloc (.cells #[.int .i64 0, .int .i64 0, .int .i64 0, .int .i64 0, .int .u64 0, .int .i64 0, .int .i64 0] 36)) (w.heap.size) #[.int .i64 0, .int .i64 0, .int .i64 0, .int .i64 0, .int .u64 0, .int .i64 0, .int .i64 0] 36) := Blk.new w _ _
  have H0B : Hid (Below w.heap.size w (w.alloc (.cells #[.int .i64 0, .int .i64 0, .int .i64 0, .int .i64 0, .int .u64 0, .int .i64 0, .int .i64 0] 36))) := (Below.refl w.heap.size w).alloc (by simp) _
  go_enter Tryd.func7, Tryd.ntmps7
  go_wp2_with fail
  refine (HL.out _ H0B.out).mono ?_
  rintro e w1 ⟨x1, c1, rfl, hr1, _, hb1⟩
  have H1r : Hid (Blk w1 (w.heap.size) #[.int .i64 0, .int .i64 0, .int .i64 0, .int .i64 0, .int .u64 0, .int .i64 0, .int .i64 0] 36) := H0r.out.next hb1
  have H1B : Hid (Below w.heap.size w w1) := bel_step H0B.out hb1
  clear H0r H0B hb1 HL
  go_wp2_with (first | (refine wp_letAll rfl 36 _ _ rfl (w.heap.size) rfl #[.int .i64 0, .int .i64 0, .int .i64 0, .int .i64 0, .int .u64 0, .int .i64 0, .int .i64 0] rfl (by kernel_rfl) (by simp [Value.oneCell']) #[.int .i64 0, .int .i64 0, .int .i64 0, .int .i64 0, .int .u64 0, .int .i64 0, .int .i64 0] 36 H1r.out rfl ?_) | fail)
  intro WF hU
  have H2r : Hid (Blk WF (w.heap.size) #[.int .i64 0, .int .i64 0, .int .i64 0, .int .i64 0, .int .u64 0, .int .i64 0, .int .i64 0] 36) := hU.blk
  have H2B : Hid (Below w.heap.size w WF) := hU.bel _ _ (by omega) H1B.out
  clear hU H1r H1B  
  have HBF : Hid (Below w.heap.size w WF) := H2B.out
  have Rr0 : Hid (WF.cell? ⟨w.heap.size, 0, none⟩ = some (.int .i64 0)) := H2r.out.cell 0
  have Rr1 : Hid (WF.cell? ⟨w.heap.size, 1, none⟩ = some (.int .i64 0)) := H2r.out.cell 1
  have Rr2 : Hid (WF.cell? ⟨w.heap.size, 2, none⟩ = some (.int .i64 0)) := H2r.out.cell 2
  have Rr3 : Hid (WF.cell? ⟨w.heap.size, 3, none⟩ = some (.int .i64 0)) := H2r.out.cell 3
  have Rr4 : Hid (WF.cell? ⟨w.heap.size, 4, none⟩ = some (.int .u64 0)) := H2r.out.cell 4
  have Rr5 : Hid (WF.cell? ⟨w.heap.size, 5, none⟩ = some (.int .i64 0)) := H2r.out.cell 5
  have Rr6 : Hid (WF.cell? ⟨w.heap.size, 6, none⟩ = some (.int .i64 0)) := H2r.out.cell 6
  go_wp2_with fail
  exact bodyPost_ret (v := .tuple #[.agg #[.int .i64 0, .int .i64 0, .int .i64 0, .int .i64 0, .int .u64 0, .int .i64 0, .int .i64 0], .int .i64 f]) (by simp [results, Tryd.results7, Rr0.out, Rr1.out, Rr2.out, Rr3.out, Rr4.out, Rr5.out, Rr6.out, go_sem]) rfl ⟨rfl, HBF.out⟩
set_option maxHeartbeats 1000000 in
theorem pboot_yes (a : Option Addr) (n cap : Nat) (rs : List Int) (w : World) (hn : rs.length = 5) (hL : ∀ W, Below w.heap.size w W → Calls Tryd.prog 14 #[.slice a n cap, .int .i64 5] W fun e w' => GaveR W rs 0 e w') (hR : ∀ W r c, RowU W r 5 rs → Calls Tryd.prog 15 #[.slice r 5 c] W fun e w' => ReadPost W rs e w') :
    Calls Tryd.prog 7 #[.slice a n cap] w fun e w' => ReadPost w rs e w' := by
  have HL : Hid (∀ W, Below w.heap.size w W → Calls Tryd.prog 14 #[.slice a n cap, .int .i64 5] W fun e w' => GaveR W rs 0 e w') := hL
  have HR : Hid (∀ W r c, RowU W r 5 rs → Calls Tryd.prog 15 #[.slice r 5 c] W fun e w' => ReadPost W rs e w') := hR
  have HN : Hid (rs.length = 5) := hn
  clear hL hR hn
  have H0r : Hid (Blk (w.alloc (.cells #[.int .i64 0, .int .i64 0, .int .i64 0, .int .i64 0, .int .u64 0, .int .i64 0, .int .i64 0] 36)) (w.heap.size) #[.int .i64 0, .int .i64 0, .int .i64 0, .int .i64 0, .int .u64 0, .int .i64 0, .int .i64 0] 36) := Blk.new w _ _
  have H0B : Hid (Below w.heap.size w (w.alloc (.cells #[.int .i64 0, .int .i64 0, .int .i64 0, .int .i64 0, .int .u64 0, .int .i64 0, .int .i64 0] 36))) := (Below.refl w.heap.size w).alloc (by simp) _
  go_enter Tryd.func7, Tryd.ntmps7
  go_wp2_with fail
  refine (HL.out _ H0B.out).mono ?_
  rintro e w1 ⟨x1, c1, rfl, hr1, _, hb1⟩
  have H1r : Hid (Blk w1 (w.heap.size) #[.int .i64 0, .int .i64 0, .int .i64 0, .int .i64 0, .int .u64 0, .int .i64 0, .int .i64 0] 36) := H0r.out.next hb1
  have H1B : Hid (Below w.heap.size w w1) := bel_step H0B.out hb1
  have HX : Hid (RowU w1 x1 5 rs) := by have := HN.out; rw [this] at hr1; exact hr1
  have hn := HN.out
  rw [hn]
  clear H0r H0B hb1 hr1 hn HL HN
  go_wp2_with fail
  refine (HR.out _ _ _ HX.out).mono ?_
  rintro e w2 ⟨m2, f2, rfl, hi2, hb2⟩
  have H2r : Hid (Blk w2 (w.heap.size) #[.int .i64 0, .int .i64 0, .int .i64 0, .int .i64 0, .int .u64 0, .int .i64 0, .int .i64 0] 36) := H1r.out.next hb2
  have H2B : Hid (Below w.heap.size w w2) := bel_step H1B.out hb2
  have HI : Hid (ReadIs rs m2 f2) := hi2
  obtain ⟨me2, rev2, cr2, h2, b2, bad2, lock2⟩ := m2
  unfold Mt.v Mt.cells
  simp only []
  clear H1r H1B hb2 hi2 HR HX
  go_wp2_with (first | (refine wp_letAll rfl 36 _ _ rfl (w.heap.size) rfl #[.int .i64 me2, .int .i64 rev2, .int .i64 cr2, .int .i64 h2, .int .u64 (b2 : Int), .int .i64 bad2, .int .i64 lock2] rfl (by kernel_rfl) (by simp [Value.oneCell']) #[.int .i64 0, .int .i64 0, .int .i64 0, .int .i64 0, .int .u64 0, .int .i64 0, .int .i64 0] 36 H2r.out rfl ?_) | fail)
  intro WF hU
  have H3r : Hid (Blk WF (w.heap.size) #[.int .i64 me2, .int .i64 rev2, .int .i64 cr2, .int .i64 h2, .int .u64 (b2 : Int), .int .i64 bad2, .int .i64 lock2] 36) := hU.blk
  have H3B : Hid (Below w.heap.size w WF) := hU.bel _ _ (by omega) H2B.out
  clear hU H2r H2B  
  have HBF : Hid (Below w.heap.size w WF) := H3B.out
  have Rr0 : Hid (WF.cell? ⟨w.heap.size, 0, none⟩ = some (.int .i64 me2)) := H3r.out.cell 0
  have Rr1 : Hid (WF.cell? ⟨w.heap.size, 1, none⟩ = some (.int .i64 rev2)) := H3r.out.cell 1
  have Rr2 : Hid (WF.cell? ⟨w.heap.size, 2, none⟩ = some (.int .i64 cr2)) := H3r.out.cell 2
  have Rr3 : Hid (WF.cell? ⟨w.heap.size, 3, none⟩ = some (.int .i64 h2)) := H3r.out.cell 3
  have Rr4 : Hid (WF.cell? ⟨w.heap.size, 4, none⟩ = some (.int .u64 (b2 : Int))) := H3r.out.cell 4
  have Rr5 : Hid (WF.cell? ⟨w.heap.size, 5, none⟩ = some (.int .i64 bad2)) := H3r.out.cell 5
  have Rr6 : Hid (WF.cell? ⟨w.heap.size, 6, none⟩ = some (.int .i64 lock2)) := H3r.out.cell 6
  go_wp2_with fail
  exact bodyPost_ret (v := .tuple #[.agg #[.int .i64 me2, .int .i64 rev2, .int .i64 cr2, .int .i64 h2, .int .u64 (b2 : Int), .int .i64 bad2, .int .i64 lock2], .int .i64 f2]) (by simp [results, Tryd.results7, Rr0.out, Rr1.out, Rr2.out, Rr3.out, Rr4.out, Rr5.out, Rr6.out, go_sem]) rfl ⟨⟨me2, rev2, cr2, h2, b2, bad2, lock2⟩, f2, rfl, HI.out, HBF.out⟩
theorem pboot (a : Option Addr) (n cap : Nat) (xs : List Int) (w : World) (h : RowU w a n xs) (hc : n ≤ cap) (hw : ∀ x ∈ rcd xs 5 (which xs 5), 0 ≤ x ∧ x < 4294967296) :
    Calls Tryd.prog 7 #[.slice a n cap] w fun e w' => BootPost w xs e w' := by
  have hl := h.1
  by_cases h12 : n = 12
  · subst h12
    by_cases h2 : which xs 5 = 2
    · refine (pboot_no a 12 cap 17 w (by decide) (fun W hB => load_blank a 12 cap 5 xs W (h.below hB) (by decide) (by decide) rfl h2)).mono ?_
      rintro e w' ⟨rfl, hb⟩
      exact ⟨mt0, 17, rfl, .inr (.inl ⟨hl, h2, rfl, rfl⟩), hb⟩
    · have h1 : which xs 5 ≤ 1 := by have := which_le xs 5; omega
      refine (pboot_yes a 12 cap (rcd xs 5 (which xs 5)) w (rcd_len _ _ _) (fun W hB => load_yes a 12 cap 5 _ xs W (h.below hB) hc (by decide) (by decide) rfl rfl h1) (fun W r c hr => pread r 5 c _ W hr hw)).mono ?_
      rintro e w' ⟨m, f, rfl, hi, hb⟩
      exact ⟨m, f, rfl, .inr (.inr ⟨hl, h1, hi⟩), hb⟩
  · refine (pboot_no a n cap 1 w (by decide) (fun W hB => load_size a n cap 5 W (.inr (.inr (by omega))))).mono ?_
    rintro e w' ⟨rfl, hb⟩
    exact ⟨mt0, 1, rfl, .inl ⟨by omega, rfl, rfl⟩, hb⟩

end Go.Proofs.YtgipkpkjoicehabDoor.pkt

/- The load of a whole block, under a test that came out so. -/
namespace Go.Proofs.YtgipkpkjoicehabDoor
open Go.RowKit

theorem wp_wholeG {P : Program} {ops : Array Oper} {rest : List Oper} {o : Oper} {a : Act} {w : World} {Q : Exit → Act → World → Prop} (hw : Region.wanted o (yielded ops a.tmps) = true) (ty : TypeId) (x : Operand) (ho : o.op = .load ty x)
    (g : Nat) (hx : a.eval x = .pointer (some ⟨g, 0, none⟩)) (t : TypeId) (cs : Array Value) (d : TypeDesc) (hB : Blk w g cs t)
    (hu : P.underlying ty = some d) (hd : d.isRow = true) (hi : (P.info? ty).map (·.size) = some cs.size)
    (h : wpList P ops Q rest (a.put o.dst (.agg cs)) w) : wpList P ops Q (o :: rest) a w :=
  wpList_step fun K hK => by
    rw [if_pos hw]
    exact wp_load_mid (P := P) (op := o) (a := a) (w := w) (K := K) (Q := Q) ty x ho g 0 hx cs.toList d (fun j v hv => by rw [Nat.zero_add, hB.cell j]; simpa using hv) hu hd (by simpa using hi) (by simpa using hK _ _ h)

end Go.Proofs.YtgipkpkjoicehabDoor

/- Meters, compared. -/
namespace Go.Proofs.YtgipkpkjoicehabDoor.met
open Go.RowKit
set_option maxRecDepth 100000
set_option linter.unusedSimpArgs false

theorem meI (d : Nat) (a b : Int) (w : World) : (Op.equalIn (d + 1) 3 (.int .i64 a) (.int .i64 b)).run Tryd.prog w = .ok (a == b) w := run_equalIn_int w d _ _ _ a b Tryd.underlying3
theorem meU (d : Nat) (a b : Int) (w : World) : (Op.equalIn (d + 1) 32 (.int .u64 a) (.int .u64 b)).run Tryd.prog w = .ok (a == b) w := run_equalIn_int w d _ _ _ a b Tryd.underlying32
theorem mw0 (s c : Int) (w : World) : (part 3 #[.int .i64 s, .int .u64 c] 0).run Tryd.prog w = .ok (.int .i64 s) w := by kernel_rfl
theorem mw1 (s c : Int) (w : World) : (part 32 #[.int .i64 s, .int .u64 c] 1).run Tryd.prog w = .ok (.int .u64 c) w := by kernel_rfl
theorem mq0 (a b c d e f g : Int) (w : World) : (part 3 #[.int .i64 a, .int .i64 b, .int .i64 c, .int .i64 d, .int .u64 e, .int .i64 f, .int .i64 g] 0).run Tryd.prog w = .ok (.int .i64 a) w := by kernel_rfl
theorem mq1 (a b c d e f g : Int) (w : World) : (part 3 #[.int .i64 a, .int .i64 b, .int .i64 c, .int .i64 d, .int .u64 e, .int .i64 f, .int .i64 g] 1).run Tryd.prog w = .ok (.int .i64 b) w := by kernel_rfl
theorem mq2 (a b c d e f g : Int) (w : World) : (part 3 #[.int .i64 a, .int .i64 b, .int .i64 c, .int .i64 d, .int .u64 e, .int .i64 f, .int .i64 g] 2).run Tryd.prog w = .ok (.int .i64 c) w := by kernel_rfl
theorem mq3 (a b c d e f g : Int) (w : World) : (part 34 #[.int .i64 a, .int .i64 b, .int .i64 c, .int .i64 d, .int .u64 e, .int .i64 f, .int .i64 g] 3).run Tryd.prog w = .ok (.agg #[.int .i64 d, .int .u64 e]) w := by kernel_rfl
theorem mq5 (a b c d e f g : Int) (w : World) : (part 3 #[.int .i64 a, .int .i64 b, .int .i64 c, .int .i64 d, .int .u64 e, .int .i64 f, .int .i64 g] 5).run Tryd.prog w = .ok (.int .i64 f) w := by kernel_rfl
theorem mq6 (a b c d e f g : Int) (w : World) : (part 3 #[.int .i64 a, .int .i64 b, .int .i64 c, .int .i64 d, .int .u64 e, .int .i64 f, .int .i64 g] 6).run Tryd.prog w = .ok (.int .i64 g) w := by kernel_rfl
theorem eqWd (d : Nat) (s b : Int) (w : World) : (Op.equalIn (d + 1 + 1) 34 (.agg #[.int .i64 s, .int .u64 b]) (.agg #[.int .i64 s, .int .u64 b])).run Tryd.prog w = .ok true w := by
  rw [run_equalIn_agg w (d + 1) 34 _ _ (by kernel_rfl) (by kernel_rfl)]
  simp only [Program.fieldsOf, Tryd.underlying34, Op.eqFields, Sem.run_bind, Sem.run_ite]
  simp [mw0, mw1, meI, meU]
theorem eqMt (a b c d e f g : Int) (w : World) :
    (Op.equalIn 10000 36 (.agg #[.int .i64 a, .int .i64 b, .int .i64 c, .int .i64 d, .int .u64 e, .int .i64 f, .int .i64 g]) (.agg #[.int .i64 a, .int .i64 b, .int .i64 c, .int .i64 d, .int .u64 e, .int .i64 f, .int .i64 g])).run Tryd.prog w = .ok true w := by
  rw [show (10000 : Nat) = 9999 + 1 from rfl, run_equalIn_agg w 9999 36 _ _ (by kernel_rfl) (by kernel_rfl)]
  simp only [Program.fieldsOf, Tryd.underlying36, Op.eqFields, Sem.run_bind, Sem.run_ite]
  simp [mq0, mq1, mq2, mq3, mq5, mq6, show (9999 : Nat) = 9997 + 1 + 1 from rfl, meI, eqWd]

end Go.Proofs.YtgipkpkjoicehabDoor.met

/- Two meters that are not one, compared. -/
namespace Go.Proofs.YtgipkpkjoicehabDoor.met
open Go.RowKit
set_option maxRecDepth 100000
set_option linter.unusedSimpArgs false

theorem eqWd2 (d : Nat) (s b s' b' : Int) (w : World) : (Op.equalIn (d + 1 + 1) 34 (.agg #[.int .i64 s, .int .u64 b]) (.agg #[.int .i64 s', .int .u64 b'])).run Tryd.prog w = .ok (s == s' && b == b') w := by
  rw [run_equalIn_agg w (d + 1) 34 _ _ (by kernel_rfl) (by kernel_rfl)]
  simp only [Program.fieldsOf, Tryd.underlying34, Op.eqFields, Sem.run_bind, Sem.run_ite]
  by_cases h1 : s = s' <;> by_cases h2 : b = b' <;> simp [mw0, mw1, meI, meU, h1, h2]
theorem neMt (a b c d e f g a' b' c' d' e' f' g' : Int) (w : World) (h : ¬ (a = a' ∧ b = b' ∧ c = c' ∧ d = d' ∧ e = e' ∧ f = f' ∧ g = g')) :
    (Op.equalIn 10000 36 (.agg #[.int .i64 a, .int .i64 b, .int .i64 c, .int .i64 d, .int .u64 e, .int .i64 f, .int .i64 g]) (.agg #[.int .i64 a', .int .i64 b', .int .i64 c', .int .i64 d', .int .u64 e', .int .i64 f', .int .i64 g'])).run Tryd.prog w = .ok false w := by
  rw [show (10000 : Nat) = 9999 + 1 from rfl, run_equalIn_agg w 9999 36 _ _ (by kernel_rfl) (by kernel_rfl)]
  simp only [Program.fieldsOf, Tryd.underlying36, Op.eqFields, Sem.run_bind, Sem.run_ite]
  by_cases h1 : a = a'
  · by_cases h2 : b = b'
    · by_cases h3 : c = c'
      · by_cases h4 : d = d'
        · by_cases h5 : e = e'
          · by_cases h6 : f = f'
            · by_cases h7 : g = g'
              · exact absurd ⟨h1, h2, h3, h4, h5, h6, h7⟩ h
              · simp [mq0, mq1, mq2, mq3, mq5, mq6, show (9999 : Nat) = 9997 + 1 + 1 from rfl, meI, eqWd2, h1, h2, h3, h4, h5, h6, h7]
            · simp [mq0, mq1, mq2, mq3, mq5, mq6, show (9999 : Nat) = 9997 + 1 + 1 from rfl, meI, eqWd2, h1, h2, h3, h4, h5, h6]
          · simp [mq0, mq1, mq2, mq3, mq5, mq6, show (9999 : Nat) = 9997 + 1 + 1 from rfl, meI, eqWd2, h1, h2, h3, h4, h5]
        · simp [mq0, mq1, mq2, mq3, mq5, mq6, show (9999 : Nat) = 9997 + 1 + 1 from rfl, meI, eqWd2, h1, h2, h3, h4]
      · simp [mq0, mq1, mq2, mq3, mq5, mq6, show (9999 : Nat) = 9997 + 1 + 1 from rfl, meI, eqWd2, h1, h2, h3]
    · simp [mq0, mq1, mq2, mq3, mq5, mq6, show (9999 : Nat) = 9997 + 1 + 1 from rfl, meI, eqWd2, h1, h2]
  · simp [mq0, mq1, mq2, mq3, mq5, mq6, show (9999 : Nat) = 9997 + 1 + 1 from rfl, meI, eqWd2, h1]
/-- Meters compared: whatever they are. -/
theorem eqMt_one (m m' : Mt) (w : World) (h : m = m') : (Op.equalIn 10000 36 (.agg m.cells) (.agg m'.cells)).run Tryd.prog w = .ok true w := by
  subst h
  exact eqMt _ _ _ _ _ _ _ w
theorem eqMt_two (m m' : Mt) (w : World) (h : m ≠ m') : (Op.equalIn 10000 36 (.agg m.cells) (.agg m'.cells)).run Tryd.prog w = .ok false w := by
  obtain ⟨a, b, c, d, e, f, g⟩ := m
  obtain ⟨a', b', c', d', e', f', g'⟩ := m'
  refine neMt _ _ _ _ _ _ _ _ _ _ _ _ _ _ w ?_
  rintro ⟨h1, h2, h3, h4, h5, h6, h7⟩
  simp only [] at h1 h2 h3 h4 h5 h6 h7
  have h5' : e = e' := by omega
  subst h1 h2 h3 h4 h5' h6 h7
  exact h rfl

end Go.Proofs.YtgipkpkjoicehabDoor.met

/- Slots: the writes that store a record. -/
namespace Go.Proofs.YtgipkpkjoicehabDoor.slot
open Go.RowKit Go.Proofs.YtgipkpkjoicehabDoor.cell
set_option maxRecDepth 100000
set_option linter.unusedVariables false

theorem made_size (z : Value) (n : Nat) : (madeCells z.cells n).size = n := by simp [madeCells]
/-- Room for n writes. -/
theorem make_wr (n : Nat) (h : n ≤ 100000) (w : World) : (Instr.makeSlice 40 (.int .i64 0) (.int .i64 (n : Int))).run Tryd.prog w = .ok (.slice (some ⟨w.heap.size, 0, none⟩) 0 n) (w.alloc (.cells (madeCells (Value.agg #[.int .i64 0, .int .u32 0]).cells (n * 2)) 62)) := by
  obtain ⟨i0, hi, hz0, hz1, hz2⟩ := info_parts info_wr
  have := run_make (P := Tryd.prog) w 40 62 i0 (.agg #[.int .i64 0, .int .u32 0]) Tryd.underlying40 hi hz0 .i64 .i64 0 n (by omega) (by omega) (by rw [hz2]; omega) (by omega)
  rw [hz1] at this
  simp only [Int.toNat_natCast] at this
  exact this
theorem Lw.room (w : World) (base n : Nat) (cs : Array Value) (hb : base ≤ w.heap.size) (hn : n ≤ 100000) (hs : cs.size = n * 2) : Lw (w.alloc (.cells cs 62)) base (.slice (some ⟨w.heap.size, 0, none⟩) 0 n) [] :=
  ⟨rfl, .inr ⟨w.heap.size, n, cs, rfl, hb, heap_alloc_new w _, Nat.zero_le _, by unfold maxLen; omega, hs, by simp [cellsW]⟩⟩
/-- The first nought, and k words of a record. -/
def lead (o : Nat) (rs : List Int) (k : Nat) : List Wr := [⟨(o : Int), 0⟩] ++ body o rs k
theorem lead_next (o k : Nat) (rs : List Int) : lead o rs k ++ [⟨(o : Int) + 1 + (k : Int), rs.getD k 0⟩] = lead o rs (k + 1) := by
  rw [lead, lead, body, List.append_assoc]
  congr 3
theorem lead_len (o k : Nat) (rs : List Int) : (lead o rs k).length = k + 1 := by simp [lead, body_len]
theorem lead_zero (o : Nat) (rs : List Int) : lead o rs 0 = [⟨(o : Int), 0⟩] := rfl

set_option maxHeartbeats 2000000 in
theorem store_yes (a r : Option Addr) (m c1 n c2 s : Nat) (xs rs : List Int) (w : World) (h : RowU w a m xs) (hr : RowU w r n rs) (h1 : 1 ≤ n) (h2 : n ≤ 64) (hm : m = 2 * n + 2) (hs : which xs n = s) (hs1 : s ≤ 1) :
    Calls Tryd.prog 37 #[.slice a m c1, .slice r n c2] w fun e w' => GaveL w (sto xs rs n) 0 e w' := by
  have HP : Hid (Calls Tryd.prog 33 #[.slice a m c1, .int .i64 (n : Int)] w fun e w' => Pl w ((beg n s : Nat) : Int) ((beg n (1 - s) : Nat) : Int) 0 e w') := places_of a m c1 n s xs w h h1 h2 hm hs hs1
  have hb1 := beg_lt (n := n) hs1
  have hb2 := beg_lt (n := n) (s := 1 - s) (by omega)
  have HQ : Hid (sto xs rs n = lead (beg n (1 - s)) rs n ++ [⟨((beg n (1 - s) : Nat) : Int), behind (xs.getD (beg n s) 0)⟩]) := by show _ = _; rw [sto, hs]; rfl
  have hg : good (xs.getD (beg n s) 0) = true := by
    have := (Holds.good (c := xs) (n := n) (r := rcd xs n (which xs n)) ⟨by rw [← hm]; exact h.1, by omega, rfl⟩)
    rw [hs] at this; exact this
  have HBH : Hid (∀ W, Calls Tryd.prog 61 #[.int .u32 (xs.getD (beg n s) 0)] W fun e w' => e = .returned (.int .u32 (behind (xs.getD (beg n s) 0))) ∧ w' = W) := fun W => sbehind_any _ W hg
  obtain ⟨b, o, rfl, lb, hc⟩ := h.at (by omega)
  obtain ⟨b2, o2, rfl, lb2, hc2⟩ := hr.at (by omega)
  have hcm : beg n s < m := by omega
  have hco : beg n (1 - s) ≤ 66 := by omega
  have HC : Hid (∀ wr, Below w.heap.size w wr → wr.cell? ⟨b, o + beg n s, none⟩ = some (.int .u32 (xs.getD (beg n s) 0))) := fun wr hb => (hb.cell (p := ⟨b, o + beg n s, none⟩) lb).trans (hc _ hcm)
  have HC2 : Hid (∀ wr, Below w.heap.size w wr → ∀ k, k < n → wr.cell? ⟨b2, o2 + k, none⟩ = some (.int .u32 (rs.getD k 0))) := fun wr hb k hk => (hb.cell (p := ⟨b2, o2 + k, none⟩) lb2).trans (hc2 k hk)
  have hmk : ∀ W : World, (Instr.makeSlice 40 (.int .i64 0) (.int .i64 ((n : Int) + 2))).run Tryd.prog W = .ok (.slice (some ⟨W.heap.size, 0, none⟩) 0 (n + 2)) (W.alloc (.cells (madeCells (Value.agg #[.int .i64 0, .int .u32 0]).cells ((n + 2) * 2)) 62)) := fun W => by
    rw [show ((n : Int) + 2) = ((n + 2 : Nat) : Int) by omega]
    exact make_wr (n + 2) (by omega) W
  have HCS : Hid ((madeCells (Value.agg #[.int .i64 0, .int .u32 0]).cells ((n + 2) * 2)).size = (n + 2) * 2) := made_size _ _
  have hm2 : m ≤ 130 := by omega
  clear h hr hs hs1 hb1 hb2 hc hc2 lb lb2 hg hm
  generalize sto xs rs n = ST at *
  generalize xs.getD (beg n s) 0 = z at *
  generalize behind z = bz at *
  generalize beg n s = C at *
  generalize beg n (1 - s) = O at *
  generalize madeCells (Value.agg #[.int .i64 0, .int .u32 0]).cells ((n + 2) * 2) = cs at *
  go_enter Tryd.func37, Tryd.ntmps37
  go_wp2_with fail
  refine HP.out.mono ?_
  rintro e w1 ⟨rfl, hb1⟩
  have HB1 : Hid (Below w.heap.size w w1) := hb1
  have HOA : Hid (Lw ((w1.alloc (.cells cs 62)).alloc (.cells #[.int .i64 (O : Int), .int .u32 0] 62)) w.heap.size (.slice (some ⟨w1.heap.size, 0, none⟩) 0 (n + 2)) []) := (Lw.room w1 _ _ cs hb1.size (by omega) HCS.out).alloc _
  have HG := pair_cell (w1.alloc (.cells cs 62)) (O : Int) 0
  have HSZ : Hid (w.heap.size ≤ ((w1.alloc (.cells cs 62)).alloc (.cells #[.int .i64 (O : Int), .int .u32 0] 62)).heap.size) := alloc_le (alloc_le hb1.size _) _
  have HBA : Hid (Below w.heap.size w ((w1.alloc (.cells cs 62)).alloc (.cells #[.int .i64 (O : Int), .int .u32 0] 62))) := (hb1.alloc hb1.size _).alloc (alloc_le hb1.size _) _
  have HGG : Hid (((w1.alloc (.cells cs 62)).alloc (.cells #[.int .i64 (O : Int), .int .u32 0] 62)).cell? ⟨w1.heap.size + 1, 0, none⟩ = some (.int .i64 (O : Int)) ∧ ((w1.alloc (.cells cs 62)).alloc (.cells #[.int .i64 (O : Int), .int .u32 0] 62)).cell? ⟨w1.heap.size + 1, 1, none⟩ = some (.int .u32 0)) := by
    have e : (w1.alloc (.cells cs 62)).heap.size = w1.heap.size + 1 := by simp
    rw [e] at HG; exact HG
  clear HG hb1 HCS
  go_wp2_with (first
    | (at_builtin; refine wp_write rfl _ _ rfl w.heap.size (w1.heap.size + 1) _ [] ⟨(O : Int), 0⟩ rfl rfl HOA.out HGG.out (by decide) HSZ.out ?_)
    | go_in)
  intro v2 w2 hL2 hg2
  have HL2 : Hid (Lw w2 w.heap.size v2 (lead O rs 0)) := hL2
  have HB2 : Hid (Below w.heap.size w w2) := own_bel HOA.out hg2 HBA.out (Nat.le_refl _) HSZ.out
  clear hL2 hg2 HOA HBA HGG HSZ hmk HB1
  go_wp2_with fail
  go_loopw [9, 34] (fun v i wr => ∃ (k : Nat) (V : Value), V = v ∧ k ≤ n ∧ i = .int .i64 (k : Int) ∧ Lw wr w.heap.size V (lead O rs k) ∧ Below w.heap.size w wr) (fun _ i _ => n - (intOf i).toNat)
  case atStart => exact ⟨0, _, rfl, Nat.zero_le _, rfl, HL2.out, HB2.out⟩
  case round =>
    obtain ⟨k, V, hV, hk, rfl, hown, hb⟩ := hrel
    subst hV
    have HO : Hid (Lw wr w.heap.size V (lead O rs k)) := hown
    have HB : Hid (Below w.heap.size w wr) := hb
    clear hown hb HL2 HB2
    by_cases hlt : k < n
    · have g1 := HC2.out wr HB.out k hlt
      have HD : Hid (lead O rs k ++ [⟨(O : Int) + 1 + (k : Int), rs.getD k 0⟩] = lead O rs (k + 1)) := lead_next O k rs
      have HLN : Hid ((lead O rs k).length ≤ 1000000) := by show _ ≤ _; rw [lead_len]; omega
      generalize rs.getD k 0 = y at *
      have HG : Hid ((wr.alloc (.cells #[.int .i64 ((O : Int) + 1 + (k : Int)), .int .u32 y] 62)).cell? ⟨wr.heap.size, 0, none⟩ = some (.int .i64 ((O : Int) + 1 + (k : Int))) ∧ (wr.alloc (.cells #[.int .i64 ((O : Int) + 1 + (k : Int)), .int .u32 y] 62)).cell? ⟨wr.heap.size, 1, none⟩ = some (.int .u32 y)) := pair_cell wr _ y
      have HOA : Hid (Lw (wr.alloc (.cells #[.int .i64 ((O : Int) + 1 + (k : Int)), .int .u32 y] 62)) w.heap.size V (lead O rs k)) := HO.out.alloc _
      have HSZ : Hid (w.heap.size ≤ (wr.alloc (.cells #[.int .i64 ((O : Int) + 1 + (k : Int)), .int .u32 y] 62)).heap.size) := alloc_le HB.out.size _
      go_wp2_with (first
        | (at_builtin; refine wp_write rfl _ _ rfl w.heap.size wr.heap.size _ (lead O rs k) ⟨(O : Int) + 1 + (k : Int), y⟩ rfl rfl HOA.out HG.out HLN.out HSZ.out ?_)
        | go_in)
      intro v' w4 hL4 hg4
      have HL4 : Hid (Lw w4 w.heap.size v' (lead O rs (k + 1))) := by have := HD.out; rw [this] at hL4; exact hL4
      have HB4 : Hid (Below w.heap.size w w4) := own_bel HOA.out hg4 (HB.out.alloc HB.out.size _) (Nat.le_refl _) HSZ.out
      clear hL4 hg4 HOA HO HB HG HSZ HD
      go_wp2_with fail
      go_roundw
      case rel => exact ⟨k + 1, _, rfl, by omega, by go_num, HL4.out, HB4.out⟩
      case measure => simp [intOf]; omega
    · obtain rfl : k = n := by omega
      have g1 := HC.out wr HB.out
      have HLN : Hid ((lead O rs k).length ≤ 1000000) := by show _ ≤ _; rw [lead_len]; omega
      go_wp2_with fail
      refine (HBH.out _).mono ?_
      rintro e w5 ⟨rfl, rfl⟩
      have HG : Hid ((w5.alloc (.cells #[.int .i64 (O : Int), .int .u32 bz] 62)).cell? ⟨w5.heap.size, 0, none⟩ = some (.int .i64 (O : Int)) ∧ (w5.alloc (.cells #[.int .i64 (O : Int), .int .u32 bz] 62)).cell? ⟨w5.heap.size, 1, none⟩ = some (.int .u32 bz)) := pair_cell w5 _ bz
      have HOA : Hid (Lw (w5.alloc (.cells #[.int .i64 (O : Int), .int .u32 bz] 62)) w.heap.size V (lead O rs k)) := HO.out.alloc _
      have HSZ : Hid (w.heap.size ≤ (w5.alloc (.cells #[.int .i64 (O : Int), .int .u32 bz] 62)).heap.size) := alloc_le HB.out.size _
      go_wp2_with (first
        | (at_builtin; refine wp_write rfl _ _ rfl w.heap.size w5.heap.size _ (lead O rs k) ⟨(O : Int), bz⟩ rfl rfl HOA.out HG.out HLN.out HSZ.out ?_)
        | go_in)
      intro v' w4 hL4 hg4
      have HL4 : Hid (Lw w4 w.heap.size v' ST) := by have := HQ.out; rw [← this] at hL4; exact hL4
      have HB4 : Hid (Below w.heap.size w w4) := own_bel HOA.out hg4 (HB.out.alloc HB.out.size _) (Nat.le_refl _) HSZ.out
      clear hL4 hg4 HOA HO HB HG HSZ HQ
      go_wp2_with fail
      go_ret2
      exact GaveL.mk HL4.out HB4.out
theorem store_blank (a r : Option Addr) (m c1 n c2 : Nat) (xs : List Int) (w : World) (h : RowU w a m xs) (h1 : 1 ≤ n) (h2 : n ≤ 64) (hm : m = 2 * n + 2) (hs : which xs n = 2) :
    Calls Tryd.prog 37 #[.slice a m c1, .slice r n c2] w fun e w' => GaveL w [] 17 e w' := by
  have HP : Hid (Calls Tryd.prog 33 #[.slice a m c1, .int .i64 (n : Int)] w fun e w' => Pl w 0 0 17 e w') := (places_any a m c1 n xs w h h1 h2 hm).mono fun e w' hp => hp.2.2 hs
  clear h h1 h2 hm hs
  go_enter Tryd.func37, Tryd.ntmps37
  go_wp2_with fail
  refine HP.out.mono ?_
  rintro e w1 ⟨rfl, hb1⟩
  have HB1 : Hid (Below w.heap.size w w1) := hb1
  clear hb1
  go_wp2_with fail
  go_ret2
  exact GaveL.mk (Lw.zero _ _) HB1.out
theorem store_size (a r : Option Addr) (m c1 n c2 : Nat) (w : World) (h : n < 1 ∨ 64 < n ∨ m ≠ 2 * n + 2) :
    Calls Tryd.prog 37 #[.slice a m c1, .slice r n c2] w fun e w' => GaveL w [] 1 e w' := by
  have HP : Hid (Calls Tryd.prog 33 #[.slice a m c1, .int .i64 (n : Int)] w fun e w' => Pl w 0 0 1 e w') := places_size a m c1 n w (by omega)
  clear h
  go_enter Tryd.func37, Tryd.ntmps37
  go_wp2_with fail
  refine HP.out.mono ?_
  rintro e w1 ⟨rfl, hb1⟩
  have HB1 : Hid (Below w.heap.size w w1) := hb1
  clear hb1
  go_wp2_with fail
  go_ret2
  exact GaveL.mk (Lw.zero _ _) HB1.out

end Go.Proofs.YtgipkpkjoicehabDoor.slot

/- The writes of a step. -/
namespace Go.Proofs.YtgipkpkjoicehabDoor.pkt
open Go.RowKit Go.Proofs.YtgipkpkjoicehabDoor.met Go.Proofs.YtgipkpkjoicehabDoor.slot Go.Proofs.YtgipkpkjoicehabDoor.cell
set_option maxRecDepth 100000
set_option linter.unusedVariables false
set_option linter.unusedSimpArgs false

set_option maxHeartbeats 1000000 in
theorem pwrites_one (a : Option Addr) (cap : Nat) (xs : List Int) (m m' : Mt) (w : World) (h : RowU w a 12 xs) (hwh : which xs 5 ≤ 1) (hm : Mw m') (he : m' = m) :
    Calls Tryd.prog 17 #[.slice a 12 cap, m.v, m'.v] w fun e w' => WritesPost w xs m m' e w' := by
  have HQ : Hid (∀ W : World, (Op.equalIn 10000 36 (.agg m'.cells) (.agg m.cells)).run Tryd.prog W = .ok true W) := fun W => eqMt_one m' m W he
  have HE : Hid (m' = m) := he
  clear h hwh hm he
  obtain ⟨me, rev, cr, h, b, bad, lock⟩ := m
  obtain ⟨me1, rev1, cr1, h1, b1, bad1, lock1⟩ := m'
  unfold Mt.v Mt.cells at *
  simp only [] at *
  have hq := HQ.out
  clear HQ
  have H0m : Hid (Blk ((w.alloc (.cells #[.int .i64 me, .int .i64 rev, .int .i64 cr, .int .i64 h, .int .u64 (b : Int), .int .i64 bad, .int .i64 lock] 36)).alloc (.cells #[.int .i64 me1, .int .i64 rev1, .int .i64 cr1, .int .i64 h1, .int .u64 (b1 : Int), .int .i64 bad1, .int .i64 lock1] 36)) (w.heap.size) #[.int .i64 me, .int .i64 rev, .int .i64 cr, .int .i64 h, .int .u64 (b : Int), .int .i64 bad, .int .i64 lock] 36) := (Blk.new w _ _).alloc _
  have H0n : Hid (Blk ((w.alloc (.cells #[.int .i64 me, .int .i64 rev, .int .i64 cr, .int .i64 h, .int .u64 (b : Int), .int .i64 bad, .int .i64 lock] 36)).alloc (.cells #[.int .i64 me1, .int .i64 rev1, .int .i64 cr1, .int .i64 h1, .int .u64 (b1 : Int), .int .i64 bad1, .int .i64 lock1] 36)) (w.heap.size + 1) #[.int .i64 me1, .int .i64 rev1, .int .i64 cr1, .int .i64 h1, .int .u64 (b1 : Int), .int .i64 bad1, .int .i64 lock1] 36) := Blk.new1 w _ _ _
  have H0B : Hid (Below w.heap.size w ((w.alloc (.cells #[.int .i64 me, .int .i64 rev, .int .i64 cr, .int .i64 h, .int .u64 (b : Int), .int .i64 bad, .int .i64 lock] 36)).alloc (.cells #[.int .i64 me1, .int .i64 rev1, .int .i64 cr1, .int .i64 h1, .int .u64 (b1 : Int), .int .i64 bad1, .int .i64 lock1] 36))) := ((Below.refl w.heap.size w).alloc (by simp) _).alloc (by simp) _
  go_enter Tryd.func17, Tryd.ntmps17
  go_wp2_with (first
    | (refine wp_whole rfl 36 _ rfl (w.heap.size) rfl 36 #[.int .i64 me, .int .i64 rev, .int .i64 cr, .int .i64 h, .int .u64 (b : Int), .int .i64 bad, .int .i64 lock] _ H0m.out Tryd.underlying36 rfl (by kernel_rfl) ?_)
    | (refine wp_wholeG (by rfl) 36 _ rfl (w.heap.size) rfl 36 #[.int .i64 me, .int .i64 rev, .int .i64 cr, .int .i64 h, .int .u64 (b : Int), .int .i64 bad, .int .i64 lock] _ H0m.out Tryd.underlying36 rfl (by kernel_rfl) ?_)
    | (refine wp_whole rfl 36 _ rfl (w.heap.size + 1) rfl 36 #[.int .i64 me1, .int .i64 rev1, .int .i64 cr1, .int .i64 h1, .int .u64 (b1 : Int), .int .i64 bad1, .int .i64 lock1] _ H0n.out Tryd.underlying36 rfl (by kernel_rfl) ?_)
    | (refine wp_wholeG (by rfl) 36 _ rfl (w.heap.size + 1) rfl 36 #[.int .i64 me1, .int .i64 rev1, .int .i64 cr1, .int .i64 h1, .int .u64 (b1 : Int), .int .i64 bad1, .int .i64 lock1] _ H0n.out Tryd.underlying36 rfl (by kernel_rfl) ?_)
    | fail)
  go_ret
  exact ⟨none, 0, 0, [], rfl, Wg.none _, .inl ⟨HE.out, rfl⟩, H0B.out⟩
set_option maxHeartbeats 1000000 in
theorem pwrites_two (a : Option Addr) (cap : Nat) (xs : List Int) (m m' : Mt) (w : World) (h : RowU w a 12 xs) (hwh : which xs 5 ≤ 1) (hm : Mw m') (he : m' ≠ m) :
    Calls Tryd.prog 17 #[.slice a 12 cap, m.v, m'.v] w fun e w' => WritesPost w xs m m' e w' := by
  have HQ : Hid (∀ W : World, (Op.equalIn 10000 36 (.agg m'.cells) (.agg m.cells)).run Tryd.prog W = .ok false W) := fun W => eqMt_two m' m W he
  have HE : Hid (m' ≠ m) := he
  have HWD : Hid (∀ W, Calls Tryd.prog 23 #[m'.v] W fun e w' => met.WordsPost W m' e w') := fun W => pwords m' W hm.b
  have HST : Hid (∀ W r c2, Below w.heap.size w W → RowU W r 5 (wds m') → Calls Tryd.prog 37 #[.slice a 12 cap, .slice r 5 c2] W fun e w' => GaveL W (sto xs (wds m') 5) 0 e w') := fun W r c2 hB hr => store_yes a r 12 cap 5 c2 _ xs (wds m') W (h.below hB) hr (by decide) (by decide) rfl rfl hwh
  have HOK : Hid (Mt.may m') := hm.may
  clear h hwh hm he
  obtain ⟨me, rev, cr, h, b, bad, lock⟩ := m
  obtain ⟨me1, rev1, cr1, h1, b1, bad1, lock1⟩ := m'
  unfold Mt.v Mt.cells at *
  simp only [] at *
  have hq := HQ.out
  clear HQ
  have H0m : Hid (Blk ((w.alloc (.cells #[.int .i64 me, .int .i64 rev, .int .i64 cr, .int .i64 h, .int .u64 (b : Int), .int .i64 bad, .int .i64 lock] 36)).alloc (.cells #[.int .i64 me1, .int .i64 rev1, .int .i64 cr1, .int .i64 h1, .int .u64 (b1 : Int), .int .i64 bad1, .int .i64 lock1] 36)) (w.heap.size) #[.int .i64 me, .int .i64 rev, .int .i64 cr, .int .i64 h, .int .u64 (b : Int), .int .i64 bad, .int .i64 lock] 36) := (Blk.new w _ _).alloc _
  have H0n : Hid (Blk ((w.alloc (.cells #[.int .i64 me, .int .i64 rev, .int .i64 cr, .int .i64 h, .int .u64 (b : Int), .int .i64 bad, .int .i64 lock] 36)).alloc (.cells #[.int .i64 me1, .int .i64 rev1, .int .i64 cr1, .int .i64 h1, .int .u64 (b1 : Int), .int .i64 bad1, .int .i64 lock1] 36)) (w.heap.size + 1) #[.int .i64 me1, .int .i64 rev1, .int .i64 cr1, .int .i64 h1, .int .u64 (b1 : Int), .int .i64 bad1, .int .i64 lock1] 36) := Blk.new1 w _ _ _
  have H0B : Hid (Below w.heap.size w ((w.alloc (.cells #[.int .i64 me, .int .i64 rev, .int .i64 cr, .int .i64 h, .int .u64 (b : Int), .int .i64 bad, .int .i64 lock] 36)).alloc (.cells #[.int .i64 me1, .int .i64 rev1, .int .i64 cr1, .int .i64 h1, .int .u64 (b1 : Int), .int .i64 bad1, .int .i64 lock1] 36))) := ((Below.refl w.heap.size w).alloc (by simp) _).alloc (by simp) _
  go_enter Tryd.func17, Tryd.ntmps17
  go_wp2_with (first
    | (refine wp_whole rfl 36 _ rfl (w.heap.size) rfl 36 #[.int .i64 me, .int .i64 rev, .int .i64 cr, .int .i64 h, .int .u64 (b : Int), .int .i64 bad, .int .i64 lock] _ H0m.out Tryd.underlying36 rfl (by kernel_rfl) ?_)
    | (refine wp_wholeG (by rfl) 36 _ rfl (w.heap.size) rfl 36 #[.int .i64 me, .int .i64 rev, .int .i64 cr, .int .i64 h, .int .u64 (b : Int), .int .i64 bad, .int .i64 lock] _ H0m.out Tryd.underlying36 rfl (by kernel_rfl) ?_)
    | (refine wp_whole rfl 36 _ rfl (w.heap.size + 1) rfl 36 #[.int .i64 me1, .int .i64 rev1, .int .i64 cr1, .int .i64 h1, .int .u64 (b1 : Int), .int .i64 bad1, .int .i64 lock1] _ H0n.out Tryd.underlying36 rfl (by kernel_rfl) ?_)
    | (refine wp_wholeG (by rfl) 36 _ rfl (w.heap.size + 1) rfl 36 #[.int .i64 me1, .int .i64 rev1, .int .i64 cr1, .int .i64 h1, .int .u64 (b1 : Int), .int .i64 bad1, .int .i64 lock1] _ H0n.out Tryd.underlying36 rfl (by kernel_rfl) ?_)
    | fail)
  refine (HWD.out _).mono ?_
  rintro e w1 ⟨x1, n1, c1, zs, f1, rfl, hr1, _, _, hi1, hb1⟩
  have H1m : Hid (Blk w1 (w.heap.size) #[.int .i64 me, .int .i64 rev, .int .i64 cr, .int .i64 h, .int .u64 (b : Int), .int .i64 bad, .int .i64 lock] 36) := H0m.out.next hb1
  have H1n : Hid (Blk w1 (w.heap.size + 1) #[.int .i64 me1, .int .i64 rev1, .int .i64 cr1, .int .i64 h1, .int .u64 (b1 : Int), .int .i64 bad1, .int .i64 lock1] 36) := H0n.out.next hb1
  have H1B : Hid (Below w.heap.size w w1) := bel_step H0B.out hb1
  obtain ⟨rfl, rfl⟩ := hi1.one (WordsIs.ok HOK.out)
  obtain rfl : n1 = 5 := hr1.1.symm.trans rfl
  have HX : Hid (RowU w1 x1 5 (wds ⟨me1, rev1, cr1, h1, b1, bad1, lock1⟩)) := hr1
  clear H0m H0n H0B hb1 hr1 hi1 HWD hq
  go_wp2_with fail
  refine (HST.out _ _ _ H1B.out HX.out).mono ?_
  rintro e w2 ⟨v2, rfl, hv2, hb2⟩
  have H2m : Hid (Blk w2 (w.heap.size) #[.int .i64 me, .int .i64 rev, .int .i64 cr, .int .i64 h, .int .u64 (b : Int), .int .i64 bad, .int .i64 lock] 36) := H1m.out.next hb2
  have H2n : Hid (Blk w2 (w.heap.size + 1) #[.int .i64 me1, .int .i64 rev1, .int .i64 cr1, .int .i64 h1, .int .u64 (b1 : Int), .int .i64 bad1, .int .i64 lock1] 36) := H1n.out.next hb2
  have H2B : Hid (Below w.heap.size w w2) := bel_step H1B.out hb2
  obtain ⟨x2, c2, rfl, hr2, hn2, hc2, _⟩ := hv2.row
  have HL2 : Hid ((sto xs (wds ⟨me1, rev1, cr1, h1, b1, bad1, lock1⟩) 5).length = 7) := sto_len _ _ _
  have hl2 := HL2.out
  rw [hl2] at hr2 hc2
  rw [hl2]
  have HW2 : Hid (Wg w2 x2 7 c2 (sto xs (wds ⟨me1, rev1, cr1, h1, b1, bad1, lock1⟩) 5)) := ⟨hr2, hn2, hc2, by decide⟩
  clear H1m H1n H1B hb2 hv2 hr2 hn2 hc2 hl2 HL2 HST HX
  go_wp2_with fail
  go_ret
  exact ⟨x2, 7, c2, _, rfl, HW2.out, .inr ⟨HE.out, rfl⟩, H2B.out⟩
open Classical in
theorem pwrites (a : Option Addr) (cap : Nat) (xs : List Int) (m m' : Mt) (w : World) (h : RowU w a 12 xs) (hwh : which xs 5 ≤ 1) (hm : Mw m') :
    Calls Tryd.prog 17 #[.slice a 12 cap, m.v, m'.v] w fun e w' => WritesPost w xs m m' e w' := by
  by_cases he : m' = m
  · exact pwrites_one a cap xs m m' w h hwh hm he
  · exact pwrites_two a cap xs m m' w h hwh hm he

end Go.Proofs.YtgipkpkjoicehabDoor.pkt

/- Digits are keyed into a pocket. -/
namespace Go.Proofs.YtgipkpkjoicehabDoor.pkt
open Go.RowKit Go.Proofs.YtgipkpkjoicehabDoor.met Go.Proofs.YtgipkpkjoicehabDoor.slot Go.Proofs.YtgipkpkjoicehabDoor.cell Go.Proofs.YtgipkpkjoicehabDoor.ora Go.Proofs.YtgipkpkjoicehabDoor.token
set_option maxRecDepth 100000
set_option linter.unusedVariables false
set_option linter.unusedSimpArgs false

set_option maxHeartbeats 2000000 in
theorem pkeyed (a : Option Addr) (n cap : Nat) (xs : List Int) (ao : Option Addr) (no co : Nat) (l : List Pr) (tx : ByteArray) (w : World) (ht : TTab w) (h : RowU w a n xs) (hc : n ≤ cap) (hw : ∀ x ∈ rcd xs 5 (which xs 5), 0 ≤ x ∧ x < 4294967296) (hp : RowP w ao no l) :
    Calls Tryd.prog 11 #[.slice a n cap, .agg #[.slice ao no co], .string tx] w fun e w' => KeyedPost w xs l tx e w' := by
  have HBT : Hid (∀ W, Below w.heap.size w W → Calls Tryd.prog 7 #[.slice a n cap] W fun e w' => BootPost W xs e w') := fun W hB => pboot a n cap xs W (h.below hB) hc hw
  have HPA : Hid (∀ W, Below w.heap.size w W → Calls Tryd.prog 25 #[.string tx] W fun e w' => e = .returned (.tuple #[parseV tx.data.toList, .int .i64 (parseE tx.data.toList)]) ∧ Below W.heap.size W w') := fun W hB => parse_any tx W (ht.below hB)
  have HKY : Hid (∀ W (m : Mt) c i am t, Below w.heap.size w W → Mw m → Calls Tryd.prog 26 #[m.v, .agg #[.slice ao no co], .agg #[.int .i64 c, .int .i64 i, .int .i64 am, .int .i64 t]] W fun e w' => KeyPost W m l c i am t e w') := fun W m c i am t hB hm => pkey m ao no co l c i am t W (ht.below hB) hm.b (hp.below hB)
  have HSU : Hid (∀ m, BootIs xs m 0 → Mw m ∧ n = 12 ∧ which xs 5 ≤ 1) := fun m hb => by
    obtain ⟨h1, h2⟩ := BootIs.sure hw hb
    exact ⟨h2, h.1.symm.trans h1.len, h1.one⟩
  have HRW : Hid (∀ W, Below w.heap.size w W → RowU W a n xs) := fun W hB => h.below hB
  have HTK : Hid (parseE tx.data.toList = 0 → parseV tx.data.toList = (tk tx.data.toList).v ∧ (tk tx.data.toList).ok) := tk_of
  have HNT : Hid (parseE tx.data.toList ≠ 0 → parseV tx.data.toList = noTok) := parse_else
  generalize hS : tx.data.toList = S at *
  have HS : Hid (tx.data.toList = S) := hS
  have HPE : Hid (∃ pe, parseE S = pe) := ⟨_, rfl⟩
  clear h hc hw hp ht hS
  have H0o : Hid (Blk (w.alloc (.cells #[.slice ao no co] 25)) (w.heap.size) #[.slice ao no co] 25) := Blk.new w _ _
  have H0B : Hid (Below w.heap.size w (w.alloc (.cells #[.slice ao no co] 25))) := (Below.refl w.heap.size w).alloc (by simp) _
  go_enter Tryd.func11, Tryd.ntmps11
  go_wp2_with fail
  refine (HBT.out _ H0B.out).mono ?_
  rintro e w1 ⟨m1, f1, rfl, hi1, hb1⟩
  have H1o : Hid (Blk w1 (w.heap.size) #[.slice ao no co] 25) := H0o.out.next hb1
  have H1B : Hid (Below w.heap.size w w1) := bel_step H0B.out hb1
  have HI1 : Hid (BootIs xs m1 f1) := hi1
  clear hi1 HBT
  by_cases hf : f1 = 0
  · subst hf
    obtain ⟨hmw, rfl, hwh⟩ := HSU.out _ HI1.out
    have HMW : Hid (Mw m1) := hmw
    have HK1 : Hid (∀ W c i am t, Below w.heap.size w W → Calls Tryd.prog 26 #[m1.v, .agg #[.slice ao no co], .agg #[.int .i64 c, .int .i64 i, .int .i64 am, .int .i64 t]] W fun e w' => KeyPost W m1 l c i am t e w') := fun W c i am t hB => HKY.out W m1 c i am t hB hmw
    have HWR : Hid (∀ W m2, Below w.heap.size w W → Mw m2 → Calls Tryd.prog 17 #[.slice a 12 cap, m1.v, m2.v] W fun e w' => WritesPost W xs m1 m2 e w') := fun W m2 hB hm2 => pwrites a cap xs m1 m2 W (HRW.out W hB) hwh hm2
    clear hmw hwh HSU HRW HKY
    obtain ⟨me1, rev1, cr1, h1, b1, bad1, lock1⟩ := m1
    unfold Mt.v Mt.cells at *
    simp only [] at HK1 HWR ⊢
    have H2o : Hid (Blk (w1.alloc (.cells #[.int .i64 me1, .int .i64 rev1, .int .i64 cr1, .int .i64 h1, .int .u64 (b1 : Int), .int .i64 bad1, .int .i64 lock1] 36)) (w.heap.size) #[.slice ao no co] 25) := (H1o.out).alloc _
    have H2m : Hid (Blk (w1.alloc (.cells #[.int .i64 me1, .int .i64 rev1, .int .i64 cr1, .int .i64 h1, .int .u64 (b1 : Int), .int .i64 bad1, .int .i64 lock1] 36)) (w1.heap.size) #[.int .i64 me1, .int .i64 rev1, .int .i64 cr1, .int .i64 h1, .int .u64 (b1 : Int), .int .i64 bad1, .int .i64 lock1] 36) := (Blk.new w1 _ _)
    have L2mo : Hid (w.heap.size < w1.heap.size) := Nat.lt_of_lt_of_le H1o.out.lt (by simp)
    have H2B : Hid (Below w.heap.size w (w1.alloc (.cells #[.int .i64 me1, .int .i64 rev1, .int .i64 cr1, .int .i64 h1, .int .u64 (b1 : Int), .int .i64 bad1, .int .i64 lock1] 36))) := (H1B.out).alloc (Nat.le_trans H1B.out.size (by simp)) _
    have L20 : Hid (w.heap.size ≤ w1.heap.size) := H1B.out.size
    clear H0o H0B H1o H1B hb1
    go_wp2_with (first
      | (refine wp_whole rfl 25 _ rfl (w.heap.size) rfl 25 #[.slice ao no co] _ H2o.out Tryd.underlying25 rfl (by kernel_rfl) ?_)
      | (refine wp_wholeG (by rfl) 25 _ rfl (w.heap.size) rfl 25 #[.slice ao no co] _ H2o.out Tryd.underlying25 rfl (by kernel_rfl) ?_)
      | (refine wp_whole rfl 36 _ rfl (w1.heap.size) rfl 36 #[.int .i64 me1, .int .i64 rev1, .int .i64 cr1, .int .i64 h1, .int .u64 (b1 : Int), .int .i64 bad1, .int .i64 lock1] _ H2m.out Tryd.underlying36 rfl (by kernel_rfl) ?_)
      | (refine wp_wholeG (by rfl) 36 _ rfl (w1.heap.size) rfl 36 #[.int .i64 me1, .int .i64 rev1, .int .i64 cr1, .int .i64 h1, .int .u64 (b1 : Int), .int .i64 bad1, .int .i64 lock1] _ H2m.out Tryd.underlying36 rfl (by kernel_rfl) ?_)
      | fail)
    refine (HPA.out _ H2B.out).mono ?_
    rintro e w2 ⟨rfl, hb2⟩
    have H3o : Hid (Blk w2 (w.heap.size) #[.slice ao no co] 25) := H2o.out.next hb2
    have H3m : Hid (Blk w2 (w1.heap.size) #[.int .i64 me1, .int .i64 rev1, .int .i64 cr1, .int .i64 h1, .int .u64 (b1 : Int), .int .i64 bad1, .int .i64 lock1] 36) := H2m.out.next hb2
    have H3B : Hid (Below w.heap.size w w2) := bel_step H2B.out hb2
    clear HPA
    by_cases hp : parseE S = 0
    · obtain ⟨hv, hk⟩ := HTK.out hp
      rw [hv, hp]
      have HP : Hid (parseE S = 0 ∧ (tk S).ok) := ⟨hp, hk⟩
      clear hp hv hk HTK HNT HPE
      have HKS : Hid (tk S = tk S) := rfl
      generalize hk : tk S = k at HP HKS ⊢
      have HKE : Hid (tk S = k) := hk
      clear hk HKS
      unfold Tok.v
      have H4o : Hid (Blk (w2.alloc (.cells #[.int .i64 (k.c : Int), .int .i64 (k.i : Int), .int .i64 (k.a : Int), .int .i64 (k.t : Int)] 50)) (w.heap.size) #[.slice ao no co] 25) := (H3o.out).alloc _
      have H4m : Hid (Blk (w2.alloc (.cells #[.int .i64 (k.c : Int), .int .i64 (k.i : Int), .int .i64 (k.a : Int), .int .i64 (k.t : Int)] 50)) (w1.heap.size) #[.int .i64 me1, .int .i64 rev1, .int .i64 cr1, .int .i64 h1, .int .u64 (b1 : Int), .int .i64 bad1, .int .i64 lock1] 36) := (H3m.out).alloc _
      have H4t : Hid (Blk (w2.alloc (.cells #[.int .i64 (k.c : Int), .int .i64 (k.i : Int), .int .i64 (k.a : Int), .int .i64 (k.t : Int)] 50)) (w2.heap.size) #[.int .i64 (k.c : Int), .int .i64 (k.i : Int), .int .i64 (k.a : Int), .int .i64 (k.t : Int)] 50) := (Blk.new w2 _ _)
      have L4to : Hid (w.heap.size < w2.heap.size) := Nat.lt_of_lt_of_le H3o.out.lt (by simp)
      have L4tm : Hid (w1.heap.size < w2.heap.size) := Nat.lt_of_lt_of_le H3m.out.lt (by simp)
      have H4B : Hid (Below w.heap.size w (w2.alloc (.cells #[.int .i64 (k.c : Int), .int .i64 (k.i : Int), .int .i64 (k.a : Int), .int .i64 (k.t : Int)] 50))) := (H3B.out).alloc (Nat.le_trans H3B.out.size (by simp)) _
      have L40 : Hid (w.heap.size ≤ w2.heap.size) := H3B.out.size
      clear H2o H2m H2B H3o H3m H3B hb2
      have q_o_0 : (w2.alloc (.cells #[.int .i64 (k.c : Int), .int .i64 (k.i : Int), .int .i64 (k.a : Int), .int .i64 (k.t : Int)] 50)).cell? ⟨w.heap.size, 0, none⟩ = some (.slice ao no co) := H4o.out.cell 0
      go_wp2_with (first
        | (refine wp_whole rfl 25 _ rfl (w.heap.size) rfl 25 #[.slice ao no co] _ H4o.out Tryd.underlying25 rfl (by kernel_rfl) ?_)
        | (refine wp_wholeG (by rfl) 25 _ rfl (w.heap.size) rfl 25 #[.slice ao no co] _ H4o.out Tryd.underlying25 rfl (by kernel_rfl) ?_)
        | (refine wp_whole rfl 36 _ rfl (w1.heap.size) rfl 36 #[.int .i64 me1, .int .i64 rev1, .int .i64 cr1, .int .i64 h1, .int .u64 (b1 : Int), .int .i64 bad1, .int .i64 lock1] _ H4m.out Tryd.underlying36 rfl (by kernel_rfl) ?_)
        | (refine wp_wholeG (by rfl) 36 _ rfl (w1.heap.size) rfl 36 #[.int .i64 me1, .int .i64 rev1, .int .i64 cr1, .int .i64 h1, .int .u64 (b1 : Int), .int .i64 bad1, .int .i64 lock1] _ H4m.out Tryd.underlying36 rfl (by kernel_rfl) ?_)
        | (refine wp_whole rfl 50 _ rfl (w2.heap.size) rfl 50 #[.int .i64 (k.c : Int), .int .i64 (k.i : Int), .int .i64 (k.a : Int), .int .i64 (k.t : Int)] _ H4t.out Tryd.underlying50 rfl (by kernel_rfl) ?_)
        | (refine wp_wholeG (by rfl) 50 _ rfl (w2.heap.size) rfl 50 #[.int .i64 (k.c : Int), .int .i64 (k.i : Int), .int .i64 (k.a : Int), .int .i64 (k.t : Int)] _ H4t.out Tryd.underlying50 rfl (by kernel_rfl) ?_)
        | fail)
      clear q_o_0
      refine (HK1.out _ _ _ _ _ H4B.out).mono ?_
      rintro e w3 ⟨m3, x3, f3, rfl, hi3, hb3⟩
      have H5o : Hid (Blk w3 (w.heap.size) #[.slice ao no co] 25) := H4o.out.next hb3
      have H5m : Hid (Blk w3 (w1.heap.size) #[.int .i64 me1, .int .i64 rev1, .int .i64 cr1, .int .i64 h1, .int .u64 (b1 : Int), .int .i64 bad1, .int .i64 lock1] 36) := H4m.out.next hb3
      have H5t : Hid (Blk w3 (w2.heap.size) #[.int .i64 (k.c : Int), .int .i64 (k.i : Int), .int .i64 (k.a : Int), .int .i64 (k.t : Int)] 50) := H4t.out.next hb3
      have H5B : Hid (Below w.heap.size w w3) := bel_step H4B.out hb3
      have HI3 : Hid (KeyIs ⟨me1, rev1, cr1, h1, b1, bad1, lock1⟩ l (k.c : Int) (k.i : Int) (k.a : Int) (k.t : Int) (bodyI (k.c : Int) (k.i : Int) (k.a : Int)) m3 x3 f3) := hi3
      clear hi3 HK1
      by_cases hf : f3 ≠ 0 ∧ f3 ≠ 12
      · have hd0 : (f3 != 0) = true := by simpa using hf.1
        have hd1 : (f3 != 12) = true := by simpa using hf.2
        have HF : Hid (f3 ≠ 0 ∧ f3 ≠ 12) := hf
        clear hf HWR
        obtain ⟨me3, rev3, cr3, h3, b3, bad3, lock3⟩ := m3
        unfold Mt.v Mt.cells
        simp only []
        have H6o : Hid (Blk (w3.alloc (.cells #[.int .i64 me3, .int .i64 rev3, .int .i64 cr3, .int .i64 h3, .int .u64 (b3 : Int), .int .i64 bad3, .int .i64 lock3] 36)) (w.heap.size) #[.slice ao no co] 25) := (H5o.out).alloc _
        have H6m : Hid (Blk (w3.alloc (.cells #[.int .i64 me3, .int .i64 rev3, .int .i64 cr3, .int .i64 h3, .int .u64 (b3 : Int), .int .i64 bad3, .int .i64 lock3] 36)) (w1.heap.size) #[.int .i64 me1, .int .i64 rev1, .int .i64 cr1, .int .i64 h1, .int .u64 (b1 : Int), .int .i64 bad1, .int .i64 lock1] 36) := (H5m.out).alloc _
        have H6t : Hid (Blk (w3.alloc (.cells #[.int .i64 me3, .int .i64 rev3, .int .i64 cr3, .int .i64 h3, .int .u64 (b3 : Int), .int .i64 bad3, .int .i64 lock3] 36)) (w2.heap.size) #[.int .i64 (k.c : Int), .int .i64 (k.i : Int), .int .i64 (k.a : Int), .int .i64 (k.t : Int)] 50) := (H5t.out).alloc _
        have H6n : Hid (Blk (w3.alloc (.cells #[.int .i64 me3, .int .i64 rev3, .int .i64 cr3, .int .i64 h3, .int .u64 (b3 : Int), .int .i64 bad3, .int .i64 lock3] 36)) (w3.heap.size) #[.int .i64 me3, .int .i64 rev3, .int .i64 cr3, .int .i64 h3, .int .u64 (b3 : Int), .int .i64 bad3, .int .i64 lock3] 36) := (Blk.new w3 _ _)
        have L6no : Hid (w.heap.size < w3.heap.size) := Nat.lt_of_lt_of_le H5o.out.lt (by simp)
        have L6nm : Hid (w1.heap.size < w3.heap.size) := Nat.lt_of_lt_of_le H5m.out.lt (by simp)
        have L6nt : Hid (w2.heap.size < w3.heap.size) := Nat.lt_of_lt_of_le H5t.out.lt (by simp)
        have H6B : Hid (Below w.heap.size w (w3.alloc (.cells #[.int .i64 me3, .int .i64 rev3, .int .i64 cr3, .int .i64 h3, .int .u64 (b3 : Int), .int .i64 bad3, .int .i64 lock3] 36))) := (H5B.out).alloc (Nat.le_trans H5B.out.size (by simp)) _
        have L60 : Hid (w.heap.size ≤ w3.heap.size) := H5B.out.size
        clear H4o H4m H4t H4B H5o H5m H5t H5B hb3
        go_wp2_with (first
          | (refine wp_whole rfl 25 _ rfl (w.heap.size) rfl 25 #[.slice ao no co] _ H6o.out Tryd.underlying25 rfl (by kernel_rfl) ?_)
          | (refine wp_wholeG (by rfl) 25 _ rfl (w.heap.size) rfl 25 #[.slice ao no co] _ H6o.out Tryd.underlying25 rfl (by kernel_rfl) ?_)
          | (refine wp_whole rfl 36 _ rfl (w1.heap.size) rfl 36 #[.int .i64 me1, .int .i64 rev1, .int .i64 cr1, .int .i64 h1, .int .u64 (b1 : Int), .int .i64 bad1, .int .i64 lock1] _ H6m.out Tryd.underlying36 rfl (by kernel_rfl) ?_)
          | (refine wp_wholeG (by rfl) 36 _ rfl (w1.heap.size) rfl 36 #[.int .i64 me1, .int .i64 rev1, .int .i64 cr1, .int .i64 h1, .int .u64 (b1 : Int), .int .i64 bad1, .int .i64 lock1] _ H6m.out Tryd.underlying36 rfl (by kernel_rfl) ?_)
          | (refine wp_whole rfl 50 _ rfl (w2.heap.size) rfl 50 #[.int .i64 (k.c : Int), .int .i64 (k.i : Int), .int .i64 (k.a : Int), .int .i64 (k.t : Int)] _ H6t.out Tryd.underlying50 rfl (by kernel_rfl) ?_)
          | (refine wp_wholeG (by rfl) 50 _ rfl (w2.heap.size) rfl 50 #[.int .i64 (k.c : Int), .int .i64 (k.i : Int), .int .i64 (k.a : Int), .int .i64 (k.t : Int)] _ H6t.out Tryd.underlying50 rfl (by kernel_rfl) ?_)
          | (refine wp_whole rfl 36 _ rfl (w3.heap.size) rfl 36 #[.int .i64 me3, .int .i64 rev3, .int .i64 cr3, .int .i64 h3, .int .u64 (b3 : Int), .int .i64 bad3, .int .i64 lock3] _ H6n.out Tryd.underlying36 rfl (by kernel_rfl) ?_)
          | (refine wp_wholeG (by rfl) 36 _ rfl (w3.heap.size) rfl 36 #[.int .i64 me3, .int .i64 rev3, .int .i64 cr3, .int .i64 h3, .int .u64 (b3 : Int), .int .i64 bad3, .int .i64 lock3] _ H6n.out Tryd.underlying36 rfl (by kernel_rfl) ?_)
          | fail)
        go_ret3
        exact ⟨none, 0, 0, [], 0, f3, rfl, Wg.none _, .inr (.inr (.inl ⟨_, _, _, HI1.out, by rw [HS.out]; exact HP.out.1, by rw [HS.out, HKE.out]; exact HI3.out, HF.out, rfl, rfl⟩)), H6B.out⟩
      · have HM3 : Hid (Mw m3) := (key_mw2 HI3.out HMW.out HP.out.2 hf)
        have HW3 : Hid (∀ W, Below w.heap.size w W → Calls Tryd.prog 17 #[.slice a 12 cap, .agg #[.int .i64 me1, .int .i64 rev1, .int .i64 cr1, .int .i64 h1, .int .u64 (b1 : Int), .int .i64 bad1, .int .i64 lock1], m3.v] W fun e w' => WritesPost W xs ⟨me1, rev1, cr1, h1, b1, bad1, lock1⟩ m3 e w') := fun W hB => HWR.out W m3 hB HM3.out
        have HF : Hid (¬ (f3 ≠ 0 ∧ f3 ≠ 12)) := hf
        have hor : f3 = 0 ∨ f3 = 12 := by omega
        clear hf HWR
        obtain ⟨me3, rev3, cr3, h3, b3, bad3, lock3⟩ := m3
        unfold Mt.v Mt.cells at *
        simp only [] at HW3 ⊢
        have H6o : Hid (Blk (w3.alloc (.cells #[.int .i64 me3, .int .i64 rev3, .int .i64 cr3, .int .i64 h3, .int .u64 (b3 : Int), .int .i64 bad3, .int .i64 lock3] 36)) (w.heap.size) #[.slice ao no co] 25) := (H5o.out).alloc _
        have H6m : Hid (Blk (w3.alloc (.cells #[.int .i64 me3, .int .i64 rev3, .int .i64 cr3, .int .i64 h3, .int .u64 (b3 : Int), .int .i64 bad3, .int .i64 lock3] 36)) (w1.heap.size) #[.int .i64 me1, .int .i64 rev1, .int .i64 cr1, .int .i64 h1, .int .u64 (b1 : Int), .int .i64 bad1, .int .i64 lock1] 36) := (H5m.out).alloc _
        have H6t : Hid (Blk (w3.alloc (.cells #[.int .i64 me3, .int .i64 rev3, .int .i64 cr3, .int .i64 h3, .int .u64 (b3 : Int), .int .i64 bad3, .int .i64 lock3] 36)) (w2.heap.size) #[.int .i64 (k.c : Int), .int .i64 (k.i : Int), .int .i64 (k.a : Int), .int .i64 (k.t : Int)] 50) := (H5t.out).alloc _
        have H6n : Hid (Blk (w3.alloc (.cells #[.int .i64 me3, .int .i64 rev3, .int .i64 cr3, .int .i64 h3, .int .u64 (b3 : Int), .int .i64 bad3, .int .i64 lock3] 36)) (w3.heap.size) #[.int .i64 me3, .int .i64 rev3, .int .i64 cr3, .int .i64 h3, .int .u64 (b3 : Int), .int .i64 bad3, .int .i64 lock3] 36) := (Blk.new w3 _ _)
        have L6no : Hid (w.heap.size < w3.heap.size) := Nat.lt_of_lt_of_le H5o.out.lt (by simp)
        have L6nm : Hid (w1.heap.size < w3.heap.size) := Nat.lt_of_lt_of_le H5m.out.lt (by simp)
        have L6nt : Hid (w2.heap.size < w3.heap.size) := Nat.lt_of_lt_of_le H5t.out.lt (by simp)
        have H6B : Hid (Below w.heap.size w (w3.alloc (.cells #[.int .i64 me3, .int .i64 rev3, .int .i64 cr3, .int .i64 h3, .int .u64 (b3 : Int), .int .i64 bad3, .int .i64 lock3] 36))) := (H5B.out).alloc (Nat.le_trans H5B.out.size (by simp)) _
        have L60 : Hid (w.heap.size ≤ w3.heap.size) := H5B.out.size
        clear H4o H4m H4t H4B H5o H5m H5t H5B hb3
        rcases hor with rfl | rfl
        · go_wp2_with (first
            | (refine wp_whole rfl 25 _ rfl (w.heap.size) rfl 25 #[.slice ao no co] _ H6o.out Tryd.underlying25 rfl (by kernel_rfl) ?_)
            | (refine wp_wholeG (by rfl) 25 _ rfl (w.heap.size) rfl 25 #[.slice ao no co] _ H6o.out Tryd.underlying25 rfl (by kernel_rfl) ?_)
            | (refine wp_whole rfl 36 _ rfl (w1.heap.size) rfl 36 #[.int .i64 me1, .int .i64 rev1, .int .i64 cr1, .int .i64 h1, .int .u64 (b1 : Int), .int .i64 bad1, .int .i64 lock1] _ H6m.out Tryd.underlying36 rfl (by kernel_rfl) ?_)
            | (refine wp_wholeG (by rfl) 36 _ rfl (w1.heap.size) rfl 36 #[.int .i64 me1, .int .i64 rev1, .int .i64 cr1, .int .i64 h1, .int .u64 (b1 : Int), .int .i64 bad1, .int .i64 lock1] _ H6m.out Tryd.underlying36 rfl (by kernel_rfl) ?_)
            | (refine wp_whole rfl 50 _ rfl (w2.heap.size) rfl 50 #[.int .i64 (k.c : Int), .int .i64 (k.i : Int), .int .i64 (k.a : Int), .int .i64 (k.t : Int)] _ H6t.out Tryd.underlying50 rfl (by kernel_rfl) ?_)
            | (refine wp_wholeG (by rfl) 50 _ rfl (w2.heap.size) rfl 50 #[.int .i64 (k.c : Int), .int .i64 (k.i : Int), .int .i64 (k.a : Int), .int .i64 (k.t : Int)] _ H6t.out Tryd.underlying50 rfl (by kernel_rfl) ?_)
            | (refine wp_whole rfl 36 _ rfl (w3.heap.size) rfl 36 #[.int .i64 me3, .int .i64 rev3, .int .i64 cr3, .int .i64 h3, .int .u64 (b3 : Int), .int .i64 bad3, .int .i64 lock3] _ H6n.out Tryd.underlying36 rfl (by kernel_rfl) ?_)
            | (refine wp_wholeG (by rfl) 36 _ rfl (w3.heap.size) rfl 36 #[.int .i64 me3, .int .i64 rev3, .int .i64 cr3, .int .i64 h3, .int .u64 (b3 : Int), .int .i64 bad3, .int .i64 lock3] _ H6n.out Tryd.underlying36 rfl (by kernel_rfl) ?_)
            | fail)
          refine (HW3.out _ H6B.out).mono ?_
          rintro e w4 ⟨a4, n4, c4, ls, rfl, hg4, hi4, hb4⟩
          have H7o : Hid (Blk w4 (w.heap.size) #[.slice ao no co] 25) := H6o.out.next hb4
          have H7m : Hid (Blk w4 (w1.heap.size) #[.int .i64 me1, .int .i64 rev1, .int .i64 cr1, .int .i64 h1, .int .u64 (b1 : Int), .int .i64 bad1, .int .i64 lock1] 36) := H6m.out.next hb4
          have H7t : Hid (Blk w4 (w2.heap.size) #[.int .i64 (k.c : Int), .int .i64 (k.i : Int), .int .i64 (k.a : Int), .int .i64 (k.t : Int)] 50) := H6t.out.next hb4
          have H7n : Hid (Blk w4 (w3.heap.size) #[.int .i64 me3, .int .i64 rev3, .int .i64 cr3, .int .i64 h3, .int .u64 (b3 : Int), .int .i64 bad3, .int .i64 lock3] 36) := H6n.out.next hb4
          have H7B : Hid (Below w.heap.size w w4) := bel_step H6B.out hb4
          have HFF : Hid (Wg w4 a4 n4 c4 ls ∧ WrIs xs ⟨me1, rev1, cr1, h1, b1, bad1, lock1⟩ ⟨me3, rev3, cr3, h3, b3, bad3, lock3⟩ ls) := ⟨hg4, hi4⟩
          clear H6o H6m H6t H6n H6B hb4 hg4 hi4 HW3
          go_wp2_with fail
          go_ret3
          exact ⟨a4, n4, c4, ls, x3, _, rfl, HFF.out.1, .inr (.inr (.inr ⟨_, _, HI1.out, by rw [HS.out]; exact HP.out.1, by rw [HS.out, HKE.out]; exact HI3.out, HF.out, HFF.out.2⟩)), H7B.out⟩
        · go_wp2_with (first
            | (refine wp_whole rfl 25 _ rfl (w.heap.size) rfl 25 #[.slice ao no co] _ H6o.out Tryd.underlying25 rfl (by kernel_rfl) ?_)
            | (refine wp_wholeG (by rfl) 25 _ rfl (w.heap.size) rfl 25 #[.slice ao no co] _ H6o.out Tryd.underlying25 rfl (by kernel_rfl) ?_)
            | (refine wp_whole rfl 36 _ rfl (w1.heap.size) rfl 36 #[.int .i64 me1, .int .i64 rev1, .int .i64 cr1, .int .i64 h1, .int .u64 (b1 : Int), .int .i64 bad1, .int .i64 lock1] _ H6m.out Tryd.underlying36 rfl (by kernel_rfl) ?_)
            | (refine wp_wholeG (by rfl) 36 _ rfl (w1.heap.size) rfl 36 #[.int .i64 me1, .int .i64 rev1, .int .i64 cr1, .int .i64 h1, .int .u64 (b1 : Int), .int .i64 bad1, .int .i64 lock1] _ H6m.out Tryd.underlying36 rfl (by kernel_rfl) ?_)
            | (refine wp_whole rfl 50 _ rfl (w2.heap.size) rfl 50 #[.int .i64 (k.c : Int), .int .i64 (k.i : Int), .int .i64 (k.a : Int), .int .i64 (k.t : Int)] _ H6t.out Tryd.underlying50 rfl (by kernel_rfl) ?_)
            | (refine wp_wholeG (by rfl) 50 _ rfl (w2.heap.size) rfl 50 #[.int .i64 (k.c : Int), .int .i64 (k.i : Int), .int .i64 (k.a : Int), .int .i64 (k.t : Int)] _ H6t.out Tryd.underlying50 rfl (by kernel_rfl) ?_)
            | (refine wp_whole rfl 36 _ rfl (w3.heap.size) rfl 36 #[.int .i64 me3, .int .i64 rev3, .int .i64 cr3, .int .i64 h3, .int .u64 (b3 : Int), .int .i64 bad3, .int .i64 lock3] _ H6n.out Tryd.underlying36 rfl (by kernel_rfl) ?_)
            | (refine wp_wholeG (by rfl) 36 _ rfl (w3.heap.size) rfl 36 #[.int .i64 me3, .int .i64 rev3, .int .i64 cr3, .int .i64 h3, .int .u64 (b3 : Int), .int .i64 bad3, .int .i64 lock3] _ H6n.out Tryd.underlying36 rfl (by kernel_rfl) ?_)
            | fail)
          refine (HW3.out _ H6B.out).mono ?_
          rintro e w4 ⟨a4, n4, c4, ls, rfl, hg4, hi4, hb4⟩
          have H7o : Hid (Blk w4 (w.heap.size) #[.slice ao no co] 25) := H6o.out.next hb4
          have H7m : Hid (Blk w4 (w1.heap.size) #[.int .i64 me1, .int .i64 rev1, .int .i64 cr1, .int .i64 h1, .int .u64 (b1 : Int), .int .i64 bad1, .int .i64 lock1] 36) := H6m.out.next hb4
          have H7t : Hid (Blk w4 (w2.heap.size) #[.int .i64 (k.c : Int), .int .i64 (k.i : Int), .int .i64 (k.a : Int), .int .i64 (k.t : Int)] 50) := H6t.out.next hb4
          have H7n : Hid (Blk w4 (w3.heap.size) #[.int .i64 me3, .int .i64 rev3, .int .i64 cr3, .int .i64 h3, .int .u64 (b3 : Int), .int .i64 bad3, .int .i64 lock3] 36) := H6n.out.next hb4
          have H7B : Hid (Below w.heap.size w w4) := bel_step H6B.out hb4
          have HFF : Hid (Wg w4 a4 n4 c4 ls ∧ WrIs xs ⟨me1, rev1, cr1, h1, b1, bad1, lock1⟩ ⟨me3, rev3, cr3, h3, b3, bad3, lock3⟩ ls) := ⟨hg4, hi4⟩
          clear H6o H6m H6t H6n H6B hb4 hg4 hi4 HW3
          go_wp2_with fail
          go_ret3
          exact ⟨a4, n4, c4, ls, x3, _, rfl, HFF.out.1, .inr (.inr (.inr ⟨_, _, HI1.out, by rw [HS.out]; exact HP.out.1, by rw [HS.out, HKE.out]; exact HI3.out, HF.out, HFF.out.2⟩)), H7B.out⟩
    · have hv := HNT.out hp
      rw [hv]
      have hd : (parseE S != 0) = true := by simpa using hp
      have HF : Hid (parseE S ≠ 0) := hp
      have HPQ : Hid (parseE tx.data.toList = parseE S) := by show _ = _; rw [HS.out]
      clear hp hv HTK HNT HK1 HWR
      generalize parseE S = pe at *
      unfold noTok
      have H4o : Hid (Blk (w2.alloc (.cells #[.int .i64 0, .int .i64 0, .int .i64 0, .int .i64 0] 50)) (w.heap.size) #[.slice ao no co] 25) := (H3o.out).alloc _
      have H4m : Hid (Blk (w2.alloc (.cells #[.int .i64 0, .int .i64 0, .int .i64 0, .int .i64 0] 50)) (w1.heap.size) #[.int .i64 me1, .int .i64 rev1, .int .i64 cr1, .int .i64 h1, .int .u64 (b1 : Int), .int .i64 bad1, .int .i64 lock1] 36) := (H3m.out).alloc _
      have H4t : Hid (Blk (w2.alloc (.cells #[.int .i64 0, .int .i64 0, .int .i64 0, .int .i64 0] 50)) (w2.heap.size) #[.int .i64 0, .int .i64 0, .int .i64 0, .int .i64 0] 50) := (Blk.new w2 _ _)
      have L4to : Hid (w.heap.size < w2.heap.size) := Nat.lt_of_lt_of_le H3o.out.lt (by simp)
      have L4tm : Hid (w1.heap.size < w2.heap.size) := Nat.lt_of_lt_of_le H3m.out.lt (by simp)
      have H4B : Hid (Below w.heap.size w (w2.alloc (.cells #[.int .i64 0, .int .i64 0, .int .i64 0, .int .i64 0] 50))) := (H3B.out).alloc (Nat.le_trans H3B.out.size (by simp)) _
      have L40 : Hid (w.heap.size ≤ w2.heap.size) := H3B.out.size
      clear H2o H2m H2B H3o H3m H3B hb2
      go_wp2_with (first
        | (refine wp_whole rfl 25 _ rfl (w.heap.size) rfl 25 #[.slice ao no co] _ H4o.out Tryd.underlying25 rfl (by kernel_rfl) ?_)
        | (refine wp_wholeG (by rfl) 25 _ rfl (w.heap.size) rfl 25 #[.slice ao no co] _ H4o.out Tryd.underlying25 rfl (by kernel_rfl) ?_)
        | (refine wp_whole rfl 36 _ rfl (w1.heap.size) rfl 36 #[.int .i64 me1, .int .i64 rev1, .int .i64 cr1, .int .i64 h1, .int .u64 (b1 : Int), .int .i64 bad1, .int .i64 lock1] _ H4m.out Tryd.underlying36 rfl (by kernel_rfl) ?_)
        | (refine wp_wholeG (by rfl) 36 _ rfl (w1.heap.size) rfl 36 #[.int .i64 me1, .int .i64 rev1, .int .i64 cr1, .int .i64 h1, .int .u64 (b1 : Int), .int .i64 bad1, .int .i64 lock1] _ H4m.out Tryd.underlying36 rfl (by kernel_rfl) ?_)
        | (refine wp_whole rfl 50 _ rfl (w2.heap.size) rfl 50 #[.int .i64 0, .int .i64 0, .int .i64 0, .int .i64 0] _ H4t.out Tryd.underlying50 rfl (by kernel_rfl) ?_)
        | (refine wp_wholeG (by rfl) 50 _ rfl (w2.heap.size) rfl 50 #[.int .i64 0, .int .i64 0, .int .i64 0, .int .i64 0] _ H4t.out Tryd.underlying50 rfl (by kernel_rfl) ?_)
        | fail)
      go_ret3
      exact ⟨none, 0, 0, [], 0, _, rfl, Wg.none _, .inr (.inl ⟨_, HI1.out, HPQ.out, HF.out, rfl, rfl⟩), H4B.out⟩
  · have hd : (f1 != 0) = true := by simpa using hf
    have HF : Hid (f1 ≠ 0) := hf
    clear hf HPA HKY HSU HRW HTK HNT
    obtain ⟨me1, rev1, cr1, h1, b1, bad1, lock1⟩ := m1
    unfold Mt.v Mt.cells
    simp only []
    have H2o : Hid (Blk (w1.alloc (.cells #[.int .i64 me1, .int .i64 rev1, .int .i64 cr1, .int .i64 h1, .int .u64 (b1 : Int), .int .i64 bad1, .int .i64 lock1] 36)) (w.heap.size) #[.slice ao no co] 25) := (H1o.out).alloc _
    have H2m : Hid (Blk (w1.alloc (.cells #[.int .i64 me1, .int .i64 rev1, .int .i64 cr1, .int .i64 h1, .int .u64 (b1 : Int), .int .i64 bad1, .int .i64 lock1] 36)) (w1.heap.size) #[.int .i64 me1, .int .i64 rev1, .int .i64 cr1, .int .i64 h1, .int .u64 (b1 : Int), .int .i64 bad1, .int .i64 lock1] 36) := (Blk.new w1 _ _)
    have L2mo : Hid (w.heap.size < w1.heap.size) := Nat.lt_of_lt_of_le H1o.out.lt (by simp)
    have H2B : Hid (Below w.heap.size w (w1.alloc (.cells #[.int .i64 me1, .int .i64 rev1, .int .i64 cr1, .int .i64 h1, .int .u64 (b1 : Int), .int .i64 bad1, .int .i64 lock1] 36))) := (H1B.out).alloc (Nat.le_trans H1B.out.size (by simp)) _
    have L20 : Hid (w.heap.size ≤ w1.heap.size) := H1B.out.size
    clear H0o H0B H1o H1B hb1
    go_wp2_with (first
      | (refine wp_whole rfl 25 _ rfl (w.heap.size) rfl 25 #[.slice ao no co] _ H2o.out Tryd.underlying25 rfl (by kernel_rfl) ?_)
      | (refine wp_wholeG (by rfl) 25 _ rfl (w.heap.size) rfl 25 #[.slice ao no co] _ H2o.out Tryd.underlying25 rfl (by kernel_rfl) ?_)
      | (refine wp_whole rfl 36 _ rfl (w1.heap.size) rfl 36 #[.int .i64 me1, .int .i64 rev1, .int .i64 cr1, .int .i64 h1, .int .u64 (b1 : Int), .int .i64 bad1, .int .i64 lock1] _ H2m.out Tryd.underlying36 rfl (by kernel_rfl) ?_)
      | (refine wp_wholeG (by rfl) 36 _ rfl (w1.heap.size) rfl 36 #[.int .i64 me1, .int .i64 rev1, .int .i64 cr1, .int .i64 h1, .int .u64 (b1 : Int), .int .i64 bad1, .int .i64 lock1] _ H2m.out Tryd.underlying36 rfl (by kernel_rfl) ?_)
      | fail)
    go_ret3
    exact ⟨none, 0, 0, [], 0, f1, rfl, Wg.none _, .inl ⟨_, HI1.out, HF.out, rfl, rfl⟩, H2B.out⟩

end Go.Proofs.YtgipkpkjoicehabDoor.pkt

/- What picked gives back: a number from 0 to many - 1. -/
namespace Go.Proofs.YtgipkpkjoicehabDoor.check
open Go.RowKit

/-- The number that picked makes of n. -/
def pick (n many : Int) : Int := (if n < 0 then -(n + 1) else n) % many
theorem pick_nonneg (n many : Int) (h : 0 < many) : 0 ≤ pick n many := Int.emod_nonneg _ (by omega)
theorem pick_lt (n many : Int) (h : 0 < many) : pick n many < many := Int.emod_lt_of_pos _ h

set_option maxHeartbeats 400000 in
theorem picked_any (n many : Int) (w : World) (hn : (Lit.int .i64 n).wf = true) (hm : 0 < many) (hm' : many ≤ 4000000000000) :
    Calls Tryd.prog 6 #[.int .i64 n, .int .i64 many] w fun e w' => e = .returned (.int .i64 (pick n many)) ∧ w' = w := by
  have hb : -9223372036854775808 ≤ n ∧ n ≤ 9223372036854775807 := bounds_i64 hn
  obtain ⟨hb1, hb2⟩ := hb
  by_cases h : n < 0
  · have e0 : pick n many = (-(n + 1)) % many := by unfold pick; rw [if_pos h]
    rw [e0]
    go_enter Tryd.func6, Tryd.ntmps6
    go_wp2
    go_ret
    exact ⟨by rw [← Int.neg_tmod, Int.tmod_eq_emod_of_nonneg (by omega)]; rfl, rfl⟩
  · have e0 : pick n many = n % many := by unfold pick; rw [if_neg h]
    rw [e0]
    go_enter Tryd.func6, Tryd.ntmps6
    go_wp2
    go_ret
    exact ⟨rfl, rfl⟩

/-- The same, as a natural number. -/
theorem picked_nat (n : Int) (many : Nat) (w : World) (hn : (Lit.int .i64 n).wf = true) (hm : 0 < many) (hm' : many ≤ 4000000000000) :
    Calls Tryd.prog 6 #[.int .i64 n, .int .i64 (many : Int)] w fun e w' => e = .returned (.int .i64 (((pick n many).toNat : Nat) : Int)) ∧ w' = w := by
  have h := picked_any n many w hn (by omega) (by omega)
  have h0 := pick_nonneg n many (by omega)
  rw [show (((pick n many).toNat : Nat) : Int) = pick n many by omega]
  exact h
theorem pick_toNat (n : Int) (many : Nat) (hm : 0 < many) : (pick n many).toNat < many := by
  have h0 := pick_nonneg n many (by omega)
  have h1 := pick_lt n many (by omega)
  omega

end Go.Proofs.YtgipkpkjoicehabDoor.check

/- What nobody sold, keyed into a pocket: plain facts. -/
namespace Go.Proofs.YtgipkpkjoicehabDoor.pkt
open Go.Proofs.YtgipkpkjoicehabDoor.met Go.Proofs.YtgipkpkjoicehabDoor.slot Go.Proofs.YtgipkpkjoicehabDoor.cell Go.Proofs.YtgipkpkjoicehabDoor.ora Go.Proofs.YtgipkpkjoicehabDoor.token

/-- A meter that never took a token. -/
structure Fo (me : Int) (m : Mt) : Prop where
  mw : Mw m
  me : m.me = me
  cr : m.cr = 0
  h : m.h = 0
  b : m.b = 0
theorem Fo.new {me : Int} (h : 0 ≤ me ∧ me ≤ 49) : Fo me (mtNew me) := ⟨new_mw h, rfl, rfl, rfl, rfl⟩
theorem no_here (me rev bo t : Int) : ¬ Here [] me rev bo t := by
  rintro ⟨j, hj, _⟩
  exact absurd hj (Nat.not_lt_zero _)
theorem no_early (me rev bo t : Int) : ¬ Early [] me rev bo t := by
  rintro ⟨j, hj, _⟩
  exact absurd hj (Nat.not_lt_zero _)
theorem Fo.bad {me : Int} {m : Mt} (h : Fo me m) (hk : m.lock ≤ 0) : Fo me (badTry m) := by
  refine ⟨bad_mw h.mw hk, ?_, ?_, ?_, ?_⟩
  · rw [← h.me]; unfold badTry; split <;> rfl
  · rw [← h.cr]; unfold badTry; split <;> rfl
  · rw [← h.h]; unfold badTry; split <;> rfl
  · rw [← h.b]; unfold badTry; split <;> rfl
/-- What keying gives where nothing was sold. -/
theorem forged {me : Int} {xs : List Int} {s : List UInt8} {ls : List Wr} {x e : Int} {m : Mt} (h : KeyedIs xs [] s ls x e) (hb : BootIs xs m 0) (hm : Fo me m) :
    x = 0 ∧ (ls.length = 0 ∨ (ls.length = 7 ∧ e = 12 ∧ ∃ m', Fo me m' ∧ WrIs xs m m' ls)) := by
  rcases h with ⟨n, a0, a1, rfl, rfl⟩ | ⟨n, a0, a2, a1, rfl, rfl⟩ | ⟨n, n1, y, a0, a2, a3, a1, rfl, rfl⟩ | ⟨n, n1, a0, a2, a3, a1, a4⟩
  · exact absurd (a0.one hb).2 a1
  · exact ⟨rfl, .inl rfl⟩
  · exact ⟨rfl, .inl rfl⟩
  · obtain ⟨rfl, _⟩ := a0.one hb
    rcases a3 with ⟨c0, _⟩ | ⟨_, _, rfl, rfl, _⟩ | ⟨_, _, _, rfl, rfl, _⟩ | ⟨_, _, _, _, rfl, rfl, _⟩ | ⟨_, _, _, _, _, h5, _⟩ | ⟨_, _, hlk, _, _, _, rfl, rfl, rfl⟩ | ⟨_, _, _, _, h4, _⟩ | ⟨_, _, _, _, h4, _⟩ | ⟨_, _, _, _, h4, _⟩ | ⟨_, _, _, _, h4, _⟩
    · exact absurd ⟨hm.mw.may, May.nil⟩ c0
    · rcases a4 with ⟨_, rfl⟩ | ⟨h, _⟩
      · exact ⟨rfl, .inl rfl⟩
      · exact absurd rfl h
    · rcases a4 with ⟨_, rfl⟩ | ⟨h, _⟩
      · exact ⟨rfl, .inl rfl⟩
      · exact absurd rfl h
    · rcases a4 with ⟨_, rfl⟩ | ⟨h, _⟩
      · exact ⟨rfl, .inl rfl⟩
      · exact absurd rfl h
    · exact absurd h5 (no_early _ _ _ _)
    · rcases a4.len with ⟨_, h0⟩ | ⟨_, h7⟩
      · exact ⟨rfl, .inl h0⟩
      · exact ⟨rfl, .inr ⟨h7, rfl, _, hm.bad hlk, a4⟩⟩
    · exact absurd h4 (no_here _ _ _ _)
    · exact absurd h4 (no_here _ _ _ _)
    · exact absurd h4 (no_here _ _ _ _)
    · exact absurd h4 (no_here _ _ _ _)

end Go.Proofs.YtgipkpkjoicehabDoor.pkt

/- May there be so many words? -/
namespace Go.Proofs.YtgipkpkjoicehabDoor.cell
open Go.RowKit
set_option maxRecDepth 100000

theorem may_yes (n : Int) (w : World) (h1 : 1 ≤ n) (h2 : n ≤ 2048) :
    Calls Tryd.prog 18 #[.int .i64 n] w fun e w' => e = .returned (.bool true) ∧ w' = w := by
  go_enter Tryd.func18, Tryd.ntmps18
  go_wp2
  go_ret
  exact ⟨rfl, rfl⟩
theorem may_no (n : Int) (w : World) (h : n < 1 ∨ 2048 < n) :
    Calls Tryd.prog 18 #[.int .i64 n] w fun e w' => e = .returned (.bool false) ∧ w' = w := by
  by_cases h0 : n < 1
  · clear h
    go_enter Tryd.func18, Tryd.ntmps18
    go_wp2
    go_ret
    exact ⟨rfl, rfl⟩
  · have h1 : 1 ≤ n := by omega
    have h2 : decide (n ≤ 2048) = false := by simp; omega
    clear h h0
    go_enter Tryd.func18, Tryd.ntmps18
    go_wp2
    go_ret
    exact ⟨rfl, rfl⟩

end Go.Proofs.YtgipkpkjoicehabDoor.cell

/- The words behind writes. -/
namespace Go.Proofs.YtgipkpkjoicehabDoor.cell
open Go.RowKit
set_option maxRecDepth 100000

/-- copy of words over a row of noughts. -/
theorem copy_run (a : Addr) (n cc g : Nat) (zs : List Int) (w : World) (hz : zs.length = n) (hr : Blk w g (arr (List.replicate n 0)) 60) (hc : ∀ i, i < n → w.cell? (a.add i) = some (.int .u32 (zs.getD i 0))) :
    (Builtin.copy_ #[22, 22] 3 #[.slice (some ⟨g, 0, none⟩) n n, .slice (some a) n cc]).run Tryd.prog w = .ok (.int .i64 (n : Int)) (w.setRow g (arr zs)) := by
  have hrun := run_copy_row (P := Tryd.prog) w 22 22 3 60 g 0 n n a n cc (arr (List.replicate n 0)) 60 (zs.map (Value.int .u32)) Tryd.underlying22 (by kernel_rfl) hr (by
      rw [List.length_map, hz]; exact (Nat.min_self n).symm) (by
      intro j u hu
      by_cases hj : j < zs.length
      · simp [List.getElem?_eq_getElem hj] at hu
        subst hu
        have := hc j (by omega)
        simpa [List.getD, List.getElem?_eq_getElem hj] using this
      · rw [List.getElem?_eq_none (by simp; omega)] at hu; cases hu) (by simp [arr, hz]) (by
      intro u hu; obtain ⟨z, _, rfl⟩ := List.mem_map.1 hu; rfl)
  rw [hrun]
  congr 2
  · rw [List.length_map, hz]
  · unfold arr
    simp [hz]
theorem setRow_blk {w : World} {g : Nat} {c0 c1 : Array Value} {t : TypeId} (h : Blk w g c0 t) : Blk (w.setRow g c1) g c1 t := setRow_heap w g _ _ t _ h

/-- Two cells of a block are set. -/
def setW (w : World) (G : Nat) (p d : Int) : World := (w.setCell ⟨G, 0, none⟩ (.int .i64 p)).setCell ⟨G, 1, none⟩ (.int .u32 d)

set_option maxHeartbeats 2000000 in
theorem written_any (a b : Option Addr) (n m c1 c2 : Nat) (xs : List Int) (ls : List Wr) (w : World) (h1 : RowU w a n xs) (h2 : RowW w b m ls) (hn : 1 ≤ n) (hn2 : n ≤ 2048) (hm : m ≤ 4096) (hall : allN n ls = true) :
    Calls Tryd.prog 21 #[.slice a n c1, .slice b m c2] w fun e w' => ∃ g, e = .returned (.slice (some ⟨g, 0, none⟩) n n) ∧ RowU w' (some ⟨g, 0, none⟩) n (wrt xs ls) ∧ Below w.heap.size w w' := by
  have hmk : ∀ W : World, (Instr.makeSlice 22 (.int .i64 (n : Int)) (.int .i64 (n : Int))).run Tryd.prog W = .ok (.slice (some ⟨W.heap.size, 0, none⟩) n n) (W.alloc (.cells (arr (List.replicate n 0)) 60)) := make_u32 n (by omega)
  obtain ⟨b1, o1, rfl, l1, hc1⟩ := h1.at (by omega)
  have hz := h1.1
  have hcp := copy_run ⟨b1, o1, none⟩ n c1 w.heap.size xs (w.alloc (.cells (arr (List.replicate n 0)) 60)) hz (Blk.new _ _ _) (fun i hi => by
    rw [Addr.add_lit, World.cell?_alloc_lt w _ _ l1]; exact hc1 i hi)
  have HG0 : Hid (Blk ((w.alloc (.cells (arr (List.replicate n 0)) 60)).setRow w.heap.size (arr xs)) w.heap.size (arr xs) 60) := setRow_blk (Blk.new _ _ _)
  have HB0 : Hid (Below w.heap.size w ((w.alloc (.cells (arr (List.replicate n 0)) 60)).setRow w.heap.size (arr xs))) := below_setRow ((Below.refl _ _).alloc (Nat.le_refl _) _) (Nat.le_refl _) _
  have HR : Hid (RowW w b m ls) := h2
  have HA : Hid (allN n ls = true) := hall
  have HL : Hid (xs.length = n ∧ ls.length = m) := ⟨hz, h2.1⟩
  clear h1 h2 hc1 hall hz l1
  generalize arr (List.replicate n 0) = zz at *
  go_enter Tryd.func21, Tryd.ntmps21
  go_wp2_with fail
  generalize (w.alloc (Obj.cells zz 60)).setRow w.heap.size (arr xs) = W0 at *
  generalize hgg : w.heap.size = g at *
  have HGG : Hid (w.heap.size = g) := hgg
  clear hgg hcp hmk
  go_loopw [16] (fun i wr => ∃ k : Nat, k ≤ m ∧ i = .int .i64 (k : Int) ∧ Blk wr g (arr (wrt xs (ls.take k))) 60 ∧ Below g w wr) (fun i _ => m - (intOf i).toNat)
  case atStart => exact ⟨0, Nat.zero_le _, rfl, HG0.out, HB0.out⟩
  case round =>
    obtain ⟨k, hk, rfl, hg, hb⟩ := hrel
    have HK : Hid (Blk wr g (arr (wrt xs (ls.take k))) 60) := hg
    have HB : Hid (Below g w wr) := hb
    clear hg hb HG0 HB0
    by_cases hlt : k < m
    · obtain ⟨b2, o2, rfl, l2, hc2⟩ := HR.out.at (by omega)
      rw [HGG.out] at l2
      have f1 : wr.cell? ⟨b2, o2 + k * 2, none⟩ = some (.int .i64 (ls.getD k wr0).p) := (HB.out.cell (p := ⟨b2, o2 + k * 2, none⟩) l2).trans (hc2 k hlt).1
      have f2 : wr.cell? ⟨b2, o2 + k * 2 + 1, none⟩ = some (.int .u32 (ls.getD k wr0).d) := (HB.out.cell (p := ⟨b2, o2 + k * 2 + 1, none⟩) l2).trans (hc2 k hlt).2
      have hin := allN_at HA.out k (by have := HL.out.2; omega)
      have HST : Hid (wrt xs (ls.take (k + 1)) = (wrt xs (ls.take k)).set (ls.getD k wr0).p.toNat (ls.getD k wr0).d) := wrt_step xs ls k (by have := HL.out.2; omega)
      have HLZ : Hid ((wrt xs (ls.take k)).length = n) := by show _ = _; rw [wrt_len]; exact HL.out.1
      clear hc2 l2
      generalize (ls.getD k wr0).p = pz at *
      generalize (ls.getD k wr0).d = d at *
      generalize wrt xs (ls.take k) = zs at *
      obtain ⟨p, rfl⟩ : ∃ p : Nat, pz = p := ⟨pz.toNat, by omega⟩
      obtain ⟨_, hp⟩ := hin
      have hp' : p < n := by omega
      clear hp
      rw [Int.toNat_natCast] at HST
      have hN := Blk.new wr #[.int .i64 (p : Int), .int .u32 d] 62
      have hK := HK.out.alloc (.cells #[.int .i64 (p : Int), .int .u32 d] 62)
      have n0 := hN.cell 0
      have n1 := hN.cell 1
      have k0 := Blk.word hK p (by rw [HLZ.out]; exact hp')
      have k1 := hK.free p
      have HNX : Hid (Blk ((wr.alloc (.cells #[.int .i64 (p : Int), .int .u32 d] 62)).setCell ⟨g, p, none⟩ (.int .u32 d)) g (arr (wrt xs (ls.take (k + 1)))) 60) := by
        have h := hK.set p (.int .u32 d)
        rw [arr_set] at h
        rw [HST.out]; exact h
      have HBX : Hid (Below g w ((wr.alloc (.cells #[.int .i64 (p : Int), .int .u32 d] 62)).setCell ⟨g, p, none⟩ (.int .u32 d))) := by
        have h0 : g ≤ wr.heap.size := by have := HB.out.size; have h3 := HGG.out; omega
        exact bel_set (HB.out.alloc h0 _) g p _ (Nat.le_refl _)
      clear hN hK
      go_wp2_with fail
      go_roundw
      case rel => exact ⟨k + 1, by omega, by go_num, HNX.out, HBX.out⟩
      case measure => simp [intOf]; omega
    · obtain rfl : k = m := by omega
      have HX : Hid (RowU wr (some ⟨g, 0, none⟩) n (wrt xs ls)) := Blk.rowU (by have := HK.out; rw [List.take_of_length_le (by have := HL.out.2; omega)] at this; exact this) (by rw [wrt_len]; exact HL.out.1)
      go_wp2_with fail
      go_ret
      exact ⟨g, rfl, HX.out, by rw [HGG.out]; exact HB.out⟩

end Go.Proofs.YtgipkpkjoicehabDoor.cell

/- The first writes of a list, done. -/
namespace Go.Proofs.YtgipkpkjoicehabDoor.cell
open Go.RowKit
set_option maxRecDepth 100000
set_option linter.unusedVariables false

def fv (B : Nat) : Value := .func (.func 19) #[] #[.pointer (some ⟨B, 0, none⟩)]
theorem astray_any (B n cc : Nat) (ca : Option Addr) (e0 : Wr) (W : World) (hc : W.cell? ⟨B, 0, none⟩ = some (.slice ca n cc)) (hB : B < W.heap.size) (hn : n ≤ 2048) :
    Calls Tryd.prog 19 #[.agg #[.int .i64 e0.p, .int .u32 e0.d], .pointer (some ⟨B, 0, none⟩)] W fun e w' => e = .returned (.bool (!inN n e0)) ∧ Below W.heap.size W w' := by
  obtain ⟨p, d⟩ := e0
  have hc2 : (W.alloc (.cells #[.int .i64 p, .int .u32 d] 62)).cell? ⟨B, 0, none⟩ = some (.slice ca n cc) := by rw [World.cell?_alloc_lt W _ _ hB]; exact hc
  have HB : Hid (Below W.heap.size W (W.alloc (.cells #[.int .i64 p, .int .u32 d] 62))) := (Below.refl _ _).alloc (Nat.le_refl _) _
  clear hc hB
  by_cases h0 : p < 0
  · have e1 : (!inN n ⟨p, d⟩) = true := by simp [inN]; omega
    rw [e1]; clear e1
    go_enter Tryd.func19, Tryd.ntmps19
    go_wp2_with fail
    go_ret
    exact ⟨rfl, HB.out⟩
  · by_cases h1 : p < n
    · have e1 : (!inN n ⟨p, d⟩) = false := by simp [inN]; omega
      have h2 : decide ((n : Int) ≤ p) = false := by simp; omega
      rw [e1]; clear e1
      go_enter Tryd.func19, Tryd.ntmps19
      go_wp2_with fail
      go_ret
      exact ⟨rfl, HB.out⟩
    · have e1 : (!inN n ⟨p, d⟩) = true := by simp [inN]; omega
      have h2 : decide ((n : Int) ≤ p) = true := by simp; omega
      rw [e1]; clear e1
      go_enter Tryd.func19, Tryd.ntmps19
      go_wp2_with fail
      go_ret
      exact ⟨rfl, HB.out⟩

/-- Where the first write goes astray: nowhere, if all are fine. -/
def IxPost (w : World) (n : Nat) (ls : List Wr) (e : Ending) (w' : World) : Prop :=
  ∃ r : Int, e = .returned (.int .i64 r) ∧ (allN n ls = true ∧ r = -1 ∨ allN n ls = false ∧ 0 ≤ r) ∧ Below w.heap.size w w'
set_option maxHeartbeats 2000000 in
theorem index_any (B n cc m c2 : Nat) (ca b : Option Addr) (ls : List Wr) (w : World) (hc : w.cell? ⟨B, 0, none⟩ = some (.slice ca n cc)) (hn : n ≤ 2048) (hr : RowW w b m ls) (hm : m ≤ 4096) :
    Calls Tryd.prog 38 #[.slice b m c2, fv B] w fun e w' => IxPost w n ls e w' := by
  have hB := World.block_lt_of_cell? w _ hc
  have HC : Hid (∀ wr, Below w.heap.size w wr → ∀ e0 : Wr, Calls Tryd.prog 19 #[.agg #[.int .i64 e0.p, .int .u32 e0.d], .pointer (some ⟨B, 0, none⟩)] wr fun e w' => e = .returned (.bool (!inN n e0)) ∧ Below wr.heap.size wr w') := fun wr hb e0 =>
    astray_any B n cc ca e0 wr ((hb.cell (p := ⟨B, 0, none⟩) hB).trans hc) (Nat.lt_of_lt_of_le hB hb.size) hn
  have HR : Hid (RowW w b m ls) := hr
  have HL : Hid (ls.length = m) := hr.1
  clear hc hB hr
  unfold fv
  go_enter Tryd.func38, Tryd.ntmps38
  go_wp2_with fail
  go_loopw [8] (fun i wr => ∃ k : Nat, k ≤ m ∧ i = .int .i64 (k : Int) ∧ allN n (ls.take k) = true ∧ Below w.heap.size w wr) (fun i _ => m - (intOf i).toNat)
  case atStart => exact ⟨0, Nat.zero_le _, rfl, rfl, Below.refl _ _⟩
  case round =>
    obtain ⟨k, hk, rfl, hal, hb⟩ := hrel
    have HA : Hid (allN n (ls.take k) = true) := hal
    have HB : Hid (Below w.heap.size w wr) := hb
    clear hal hb
    by_cases hlt : k < m
    · obtain ⟨b2, o2, rfl, l2, hc2⟩ := HR.out.at (by omega)
      have f1 : wr.cell? ⟨b2, o2 + k * 2, none⟩ = some (.int .i64 (ls.getD k wr0).p) := (HB.out.cell (p := ⟨b2, o2 + k * 2, none⟩) l2).trans (hc2 k hlt).1
      have f2 : wr.cell? ⟨b2, o2 + k * 2 + 1, none⟩ = some (.int .u32 (ls.getD k wr0).d) := (HB.out.cell (p := ⟨b2, o2 + k * 2 + 1, none⟩) l2).trans (hc2 k hlt).2
      have hcall := HC.out wr HB.out (ls.getD k wr0)
      have HST : Hid (allN n (ls.take (k + 1)) = (allN n (ls.take k) && inN n (ls.getD k wr0))) := allN_step n ls k (by have := HL.out; omega)
      have HFL : Hid (inN n (ls.getD k wr0) = false → allN n ls = false) := fun h => allN_of_false (by have := HL.out; omega) h
      clear hc2 l2
      cases hi : inN n (ls.getD k wr0) with
      | true =>
        rw [hi] at hcall HST
        have HSA : Hid (allN n (ls.take (k + 1)) = true) := by show _ = _; rw [HST.out, HA.out]; rfl
        have HCL : Hid (Calls Tryd.prog 19 #[.agg #[.int .i64 (ls.getD k wr0).p, .int .u32 (ls.getD k wr0).d], .pointer (some ⟨B, 0, none⟩)] wr fun e w' => e = .returned (.bool false) ∧ Below wr.heap.size wr w') := hcall
        clear hcall HST HFL hi
        generalize (ls.getD k wr0).p = p at *
        generalize (ls.getD k wr0).d = d at *
        go_wp2_with fail
        refine HCL.out.mono ?_
        rintro e w' ⟨rfl, hb'⟩
        have HB' : Hid (Below w.heap.size w w') := bel_step HB.out hb'
        clear hb' f1 f2
        go_wp2_with fail
        go_roundw
        case rel => exact ⟨k + 1, by omega, by go_num, HSA.out, HB'.out⟩
        case measure => simp [intOf]; omega
      | false =>
        rw [hi] at hcall
        have HFA : Hid (allN n ls = false) := HFL.out hi
        have HCL : Hid (Calls Tryd.prog 19 #[.agg #[.int .i64 (ls.getD k wr0).p, .int .u32 (ls.getD k wr0).d], .pointer (some ⟨B, 0, none⟩)] wr fun e w' => e = .returned (.bool true) ∧ Below wr.heap.size wr w') := hcall
        clear hcall HST HFL hi
        generalize (ls.getD k wr0).p = p at *
        generalize (ls.getD k wr0).d = d at *
        go_wp2_with fail
        refine HCL.out.mono ?_
        rintro e w' ⟨rfl, hb'⟩
        have HB' : Hid (Below w.heap.size w w') := bel_step HB.out hb'
        clear hb' f1 f2
        go_wp2_with fail
        go_ret
        exact ⟨(k : Int), rfl, .inr ⟨HFA.out, by omega⟩, HB'.out⟩
    · obtain rfl : k = m := by omega
      have HFA : Hid (allN n ls = true) := by have := HA.out; rw [List.take_of_length_le (by have := HL.out; omega)] at this; exact this
      go_wp2_with fail
      go_ret
      exact ⟨-1, rfl, .inl ⟨HFA.out, rfl⟩, HB.out⟩

theorem contains_any (B n cc m c2 : Nat) (ca b : Option Addr) (ls : List Wr) (w : World) (hc : w.cell? ⟨B, 0, none⟩ = some (.slice ca n cc)) (hn : n ≤ 2048) (hr : RowW w b m ls) (hm : m ≤ 4096) :
    Calls Tryd.prog 20 #[.slice b m c2, fv B] w fun e w' => e = .returned (.bool (!allN n ls)) ∧ Below w.heap.size w w' := by
  have HI : Hid (Calls Tryd.prog 38 #[.slice b m c2, fv B] w fun e w' => IxPost w n ls e w') := index_any B n cc m c2 ca b ls w hc hn hr hm
  clear hc hr
  generalize fv B = V at *
  go_enter Tryd.func20, Tryd.ntmps20
  go_wp2_with fail
  refine HI.out.mono ?_
  rintro e w' ⟨r, rfl, hr, hb'⟩
  have HB' : Hid (Below w.heap.size w w') := hb'
  clear hb'
  rcases hr with ⟨ha, rfl⟩ | ⟨ha, hr⟩
  · have HA : Hid ((!allN n ls) = false) := by show _ = _; rw [ha]; rfl
    clear ha
    go_wp2_with fail
    go_ret
    exact ⟨by rw [HA.out]; rfl, HB'.out⟩
  · have HA : Hid ((!allN n ls) = true) := by show _ = _; rw [ha]; rfl
    clear ha
    have hd : decide ((0 : Int) ≤ r) = true := by simpa using hr
    go_wp2_with fail
    go_ret
    exact ⟨by rw [HA.out]; rfl, HB'.out⟩

end Go.Proofs.YtgipkpkjoicehabDoor.cell

/- cell.Apply: what it answers. -/
namespace Go.Proofs.YtgipkpkjoicehabDoor.cell
open Go.RowKit
set_option maxRecDepth 100000
set_option linter.unusedVariables false

set_option maxHeartbeats 2000000 in
theorem apply_cap (a b : Option Addr) (n m c1 c2 k : Nat) (xs : List Int) (ls : List Wr) (w : World) (h1 : RowU w a n xs) (h2 : RowW w b m ls) (hn : 1 ≤ n) (hn2 : n ≤ 2048) (hm : m ≤ 4096) (hc : m ≤ c2) (hall : allN n ls = true) (hk : k ≤ m) :
    Calls Tryd.prog 9 #[.slice a n c1, .slice b m c2, .int .i64 (k : Int)] w fun e w' => GaveC w (wrt xs (ls.take k)) 0 e w' := by
  have HM : Hid (∀ W, Calls Tryd.prog 18 #[.int .i64 (n : Int)] W fun e w' => e = .returned (.bool true) ∧ w' = W) := fun W => may_yes _ W (by omega) (by omega)
  have hW := Blk.new w #[.slice a n c1] 22
  have HB : Hid (Below w.heap.size w (w.alloc (.cells #[.slice a n c1] 22))) := (Below.refl _ _).alloc (Nat.le_refl _) _
  have hx := hW.cell 0
  have HX : Hid (∀ W', Below (w.alloc (.cells #[.slice a n c1] 22)).heap.size (w.alloc (.cells #[.slice a n c1] 22)) W' → W'.cell? ⟨w.heap.size, 0, none⟩ = some (.slice a n c1)) := fun W' hb => (hW.next hb).cell 0
  have HC : Hid (Calls Tryd.prog 20 #[.slice b m c2, fv w.heap.size] (w.alloc (.cells #[.slice a n c1] 22)) fun e w' => e = .returned (.bool false) ∧ Below (w.alloc (.cells #[.slice a n c1] 22)).heap.size (w.alloc (.cells #[.slice a n c1] 22)) w') := by
    have h := contains_any w.heap.size n c1 m c2 a b ls (w.alloc (.cells #[.slice a n c1] 22)) hx hn2 (h2.below HB.out) hm
    rw [hall] at h; exact h
  have HW : Hid (∀ W, Below w.heap.size w W → Calls Tryd.prog 21 #[.slice a n c1, .slice b k k] W fun e w' => ∃ g, e = .returned (.slice (some ⟨g, 0, none⟩) n n) ∧ RowU w' (some ⟨g, 0, none⟩) n (wrt xs (ls.take k)) ∧ Below W.heap.size W w') := fun W hb =>
    written_any a b n k c1 k xs (ls.take k) W (h1.below hb) ((h2.below hb).cut hk) hn hn2 (by omega) (allN_take hall k)
  clear h1 h2 hall hW
  unfold fv at HC
  generalize wrt xs (ls.take k) = zs at *
  go_enter Tryd.func9, Tryd.ntmps9
  go_wp2_with fail
  refine (HM.out _).mono ?_
  rintro e w1 ⟨rfl, rfl⟩
  go_wp2_with fail
  refine HC.out.mono ?_
  rintro e w2 ⟨rfl, hb2⟩
  have hx2 := HX.out _ hb2
  have HB2 : Hid (Below w.heap.size w w2) := bel_step HB.out hb2
  have HWD : Hid (Calls Tryd.prog 21 #[.slice a n c1, .slice b k k] w2.drew fun e w' => ∃ g, e = .returned (.slice (some ⟨g, 0, none⟩) n n) ∧ RowU w' (some ⟨g, 0, none⟩) n zs ∧ Below w2.heap.size w2.drew w') := HW.out _ HB2.out.drew
  have KS : Hid (w2.drew.cell? ⟨w.heap.size, 0, none⟩ = some (.slice a n c1)) := hx2
  have hGl : w.heap.size < w2.drew.heap.size := World.block_lt_of_cell? w2 _ hx2
  have HGL : Hid (w.heap.size < w2.heap.size) := hGl
  clear hb2 hx HC HM HX HW hGl
  have hkc : k ≤ c2 := by omega
  cases b with
  | none =>
    go_wp2_with fail
    go_region_held (fun v => v.cell? ⟨w.heap.size, 0, none⟩ = some (.slice a n c1))
      (first | with_reducible exact KS.out | with_reducible exact K1.out)
      (first
        | (go_at_call 21; with_reducible refine HWD.out.mono ?_; rintro e w3 ⟨g, rfl, hr3, hb3⟩
           have K1 : Hid (w3.cell? ⟨w.heap.size, 0, none⟩ = some (.slice a n c1)) := (hb3.cell (p := ⟨w.heap.size, 0, none⟩) HGL.out).trans hx2
           have HF : Hid (RowU w3 (some ⟨g, 0, none⟩) n zs ∧ Below w.heap.size w w3) := ⟨hr3, bel_step HB2.out.drew hb3⟩
           clear hr3 hb3))
    all_goals go_wp2_with fail
    all_goals
      go_ret2
      exact GaveC.mk HF.out.1 (fun h => by cases h) (Nat.le_refl _) HF.out.2
  | some y =>
    go_wp2_with fail
    go_region_held (fun v => v.cell? ⟨w.heap.size, 0, none⟩ = some (.slice a n c1))
      (first | with_reducible exact KS.out | with_reducible exact K1.out)
      (first
        | (go_at_call 21; with_reducible refine HWD.out.mono ?_; rintro e w3 ⟨g, rfl, hr3, hb3⟩
           have K1 : Hid (w3.cell? ⟨w.heap.size, 0, none⟩ = some (.slice a n c1)) := (hb3.cell (p := ⟨w.heap.size, 0, none⟩) HGL.out).trans hx2
           have HF : Hid (RowU w3 (some ⟨g, 0, none⟩) n zs ∧ Below w.heap.size w w3) := ⟨hr3, bel_step HB2.out.drew hb3⟩
           clear hr3 hb3))
    all_goals go_wp2_with fail
    all_goals
      go_ret2
      exact GaveC.mk HF.out.1 (fun h => by cases h) (Nat.le_refl _) HF.out.2

theorem apply_yes (a b : Option Addr) (n m c1 c2 k : Nat) (xs : List Int) (ls : List Wr) (w : World) (h1 : RowU w a n xs) (h2 : RowW w b m ls) (hn : 1 ≤ n) (hn2 : n ≤ 2048) (hm : m ≤ 4096) (hc : m ≤ c2) (hall : allN n ls = true) (hk : k ≤ m) :
    Calls Tryd.prog 9 #[.slice a n c1, .slice b m c2, .int .i64 (k : Int)] w fun e w' => GaveR w (wrt xs (ls.take k)) 0 e w' :=
  (apply_cap a b n m c1 c2 k xs ls w h1 h2 hn hn2 hm hc hall hk).mono fun _ _ h => h.gave

set_option maxHeartbeats 2000000 in
theorem apply_size (a b : Option Addr) (n m c1 c2 : Nat) (k : Int) (w : World) (h : n = 0 ∨ 2048 < n ∨ 4096 < m) :
    Calls Tryd.prog 9 #[.slice a n c1, .slice b m c2, .int .i64 k] w fun e w' => GaveR w [] 1 e w' := by
  have hx := (Blk.new w #[.slice a n c1] 22).cell 0
  have HB : Hid (Below w.heap.size w (w.alloc (.cells #[.slice a n c1] 22))) := (Below.refl _ _).alloc (Nat.le_refl _) _
  by_cases h0 : n = 0 ∨ 2048 < n
  · have HM : Hid (∀ W, Calls Tryd.prog 18 #[.int .i64 (n : Int)] W fun e w' => e = .returned (.bool false) ∧ w' = W) := fun W => may_no _ W (by omega)
    clear h h0
    go_enter Tryd.func9, Tryd.ntmps9
    go_wp2_with fail
    refine (HM.out _).mono ?_
    rintro e w1 ⟨rfl, rfl⟩
    go_wp2_with fail
    go_ret2
    exact ⟨none, 0, rfl, RowU.nil _ _, fun _ => rfl, HB.out⟩
  · have HM : Hid (∀ W, Calls Tryd.prog 18 #[.int .i64 (n : Int)] W fun e w' => e = .returned (.bool true) ∧ w' = W) := fun W => may_yes _ W (by omega) (by omega)
    have h4 : decide ((4096 : Int) < (m : Int)) = true := by simp; omega
    clear h h0
    go_enter Tryd.func9, Tryd.ntmps9
    go_wp2_with fail
    refine (HM.out _).mono ?_
    rintro e w1 ⟨rfl, rfl⟩
    go_wp2_with fail
    go_ret2
    exact ⟨none, 0, rfl, RowU.nil _ _, fun _ => rfl, HB.out⟩

set_option maxHeartbeats 2000000 in
theorem apply_range (a b : Option Addr) (n m c1 c2 : Nat) (k : Int) (ls : List Wr) (w : World) (h2 : RowW w b m ls) (hn : 1 ≤ n) (hn2 : n ≤ 2048) (hm : m ≤ 4096) (hor : allN n ls = false ∨ k < 0 ∨ m < k) :
    Calls Tryd.prog 9 #[.slice a n c1, .slice b m c2, .int .i64 k] w fun e w' => GaveR w [] 2 e w' := by
  have HM : Hid (∀ W, Calls Tryd.prog 18 #[.int .i64 (n : Int)] W fun e w' => e = .returned (.bool true) ∧ w' = W) := fun W => may_yes _ W (by omega) (by omega)
  have hW := Blk.new w #[.slice a n c1] 22
  have HB : Hid (Below w.heap.size w (w.alloc (.cells #[.slice a n c1] 22))) := (Below.refl _ _).alloc (Nat.le_refl _) _
  have hx := hW.cell 0
  have h := contains_any w.heap.size n c1 m c2 a b ls (w.alloc (.cells #[.slice a n c1] 22)) hx hn2 (h2.below HB.out) hm
  unfold fv at h
  have h4 : decide ((4096 : Int) < (m : Int)) = false := by simp; omega
  clear h2 hW
  cases ha : allN n ls with
  | false =>
    rw [ha] at h
    have HC : Hid (Calls Tryd.prog 20 #[.slice b m c2, .func (.func 19) #[] #[.pointer (some ⟨w.heap.size, 0, none⟩)]] (w.alloc (.cells #[.slice a n c1] 22)) fun e w' => e = .returned (.bool true) ∧ Below (w.alloc (.cells #[.slice a n c1] 22)).heap.size (w.alloc (.cells #[.slice a n c1] 22)) w') := h
    clear h ha
    clear hor
    go_enter Tryd.func9, Tryd.ntmps9
    go_wp2_with fail
    refine (HM.out _).mono ?_
    rintro e w1 ⟨rfl, rfl⟩
    go_wp2_with fail
    refine HC.out.mono ?_
    rintro e w2 ⟨rfl, hb2⟩
    have HB2 : Hid (Below w.heap.size w w2) := bel_step HB.out hb2
    clear hb2 hx HC HM
    go_wp2_with fail
    go_ret2
    exact ⟨none, 0, rfl, RowU.nil _ _, fun _ => rfl, HB2.out⟩
  | true =>
    rw [ha] at h
    have HC : Hid (Calls Tryd.prog 20 #[.slice b m c2, .func (.func 19) #[] #[.pointer (some ⟨w.heap.size, 0, none⟩)]] (w.alloc (.cells #[.slice a n c1] 22)) fun e w' => e = .returned (.bool false) ∧ Below (w.alloc (.cells #[.slice a n c1] 22)).heap.size (w.alloc (.cells #[.slice a n c1] 22)) w') := h
    clear h
    rw [ha] at hor
    clear ha
    by_cases h0 : k < 0
    · clear hor
      go_enter Tryd.func9, Tryd.ntmps9
      go_wp2_with fail
      refine (HM.out _).mono ?_
      rintro e w1 ⟨rfl, rfl⟩
      go_wp2_with fail
      refine HC.out.mono ?_
      rintro e w2 ⟨rfl, hb2⟩
      have HB2 : Hid (Below w.heap.size w w2) := bel_step HB.out hb2
      clear hb2 hx HC HM
      go_wp2_with fail
      go_ret2
      exact ⟨none, 0, rfl, RowU.nil _ _, fun _ => rfl, HB2.out⟩
    · have h5 : decide ((m : Int) < k) = true := by rcases hor with h | h | h; cases h; omega; simpa using h
      have h6 : decide (k < 0) = false := by simpa using h0
      clear hor
      go_enter Tryd.func9, Tryd.ntmps9
      go_wp2_with fail
      refine (HM.out _).mono ?_
      rintro e w1 ⟨rfl, rfl⟩
      go_wp2_with fail
      refine HC.out.mono ?_
      rintro e w2 ⟨rfl, hb2⟩
      have HB2 : Hid (Below w.heap.size w w2) := bel_step HB.out hb2
      clear hb2 hx HC HM
      go_wp2_with fail
      go_ret2
      exact ⟨none, 0, rfl, RowU.nil _ _, fun _ => rfl, HB2.out⟩

end Go.Proofs.YtgipkpkjoicehabDoor.cell

/- Slots that hold a meter: what booting, keying and writing do to them. -/
namespace Go.Proofs.YtgipkpkjoicehabDoor.pkt
open Go.RowKit Go.Proofs.YtgipkpkjoicehabDoor.met Go.Proofs.YtgipkpkjoicehabDoor.slot Go.Proofs.YtgipkpkjoicehabDoor.cell Go.Proofs.YtgipkpkjoicehabDoor.ora Go.Proofs.YtgipkpkjoicehabDoor.token
set_option maxRecDepth 100000
set_option linter.unusedVariables false

/-- Slots in memory that hold a meter. -/
structure Hm (w : World) (a : Option Addr) (cap : Nat) (xs : List Int) (m : Mt) : Prop where
  sg : Sg w a 12 cap xs
  holds : Holds xs 5 (wds m)
  mw : Mw m
theorem Hm.below {w w' : World} {a : Option Addr} {cap : Nat} {xs : List Int} {m : Mt} (h : Hm w a cap xs m) (hb : Below w.heap.size w w') : Hm w' a cap xs m := ⟨h.sg.below hb, h.holds, h.mw⟩
theorem Hm.boot {w : World} {a : Option Addr} {cap : Nat} {xs : List Int} {m : Mt} (h : Hm w a cap xs m) : BootIs xs m 0 := boot_holds h.holds h.mw.may
theorem hboot (a : Option Addr) (cap : Nat) (xs : List Int) (m : Mt) (w : World) (h : Hm w a cap xs m) :
    Calls Tryd.prog 7 #[.slice a 12 cap] w fun e w' => e = .returned (.tuple #[m.v, .int .i64 0]) ∧ Below w.heap.size w w' := by
  refine (pboot a 12 cap xs w h.sg.row h.sg.le (holds_word h.holds h.mw)).mono ?_
  rintro e w' ⟨m', f, rfl, hi, hb⟩
  obtain ⟨rfl, rfl⟩ := hi.one h.boot
  exact ⟨rfl, hb⟩
/-- A store elsewhere leaves the slots. -/
theorem Hm.upd {w W : World} {a : Option Addr} {cap : Nat} {xs : List Int} {m : Mt} {g : Nat} {cs cs0 : Array Value} {t t0 : TypeId} (h : Hm w a cap xs m) (hu : Upd w W g cs t) (hB : Blk w g cs0 t0) (hno : ∀ (i : Nat) (z : Int), cs0[i]? ≠ some (Value.int .u32 z)) : Hm W a cap xs m := by
  refine ⟨⟨?_, h.sg.nil, h.sg.le⟩, h.holds, h.mw⟩
  obtain ⟨b, o, rfl, hlt, hc⟩ := h.sg.row.at (by decide)
  have hbg : b ≠ g := fun e => by
    subst e
    have h0 := hc 0 (by decide)
    rw [hB.cell] at h0
    exact hno _ _ h0
  exact ⟨h.sg.row.1, .inr ⟨b, o, rfl, fun i hi => (hu.cell ⟨b, _, none⟩ hbg rfl).trans (hc i hi)⟩⟩
theorem no_slice (a : Option Addr) (n c : Nat) : ∀ (i : Nat) (z : Int), (#[.slice a n c] : Array Value)[i]? ≠ some (.int .u32 z) := by
  intro i z h
  rcases i with _ | i <;> simp at h
theorem no_four (a b c d : Int) : ∀ (i : Nat) (z : Int), (#[.int .i64 a, .int .i64 b, .int .i64 c, .int .i64 d] : Array Value)[i]? ≠ some (.int .u32 z) := by
  intro i z h
  rcases i with _ | _ | _ | _ | i <;> simp at h
/-- Keying gave writes, units and an answer. -/
def HKeyed (w : World) (xs : List Int) (m : Mt) (l : List Pr) (c i a t : Int) (e : Ending) (w' : World) : Prop :=
  ∃ b n cap ls x f m', e = .returned (.tuple #[.slice b n cap, .int .i64 x, .int .i64 f]) ∧ Wg w' b n cap ls ∧ KeyIs m l c i a t (bodyI c i a) m' x f ∧ WrIs xs m m' ls ∧ Below w.heap.size w w'
theorem hkeyed (a : Option Addr) (cap : Nat) (xs : List Int) (m : Mt) (ao : Option Addr) (no co : Nat) (l : List Pr) (k : Tok) (hk : k.ok) (w : World) (ht : TTab w) (h : Hm w a cap xs m) (hp : RowP w ao no l) (hl : May l) :
    Calls Tryd.prog 11 #[.slice a 12 cap, .agg #[.slice ao no co], .string (fmtB (97 * k.num))] w fun e w' => HKeyed w xs m l k.c k.i k.a k.t e w' := by
  refine (pkeyed a 12 cap xs ao no co l (fmtB (97 * k.num)) w ht h.sg.row h.sg.le (holds_word h.holds h.mw) hp).mono ?_
  rintro e w' ⟨b, n, c, ls, x, f, rfl, hg, hi, hb⟩
  rw [fmtB_list] at hi
  obtain ⟨m', h1, h2⟩ := hi.sold hk h.boot h.mw.may hl
  exact ⟨b, n, c, ls, x, f, m', rfl, hg, h1, h2, hb⟩
/-- The first k of a step's writes. -/
theorem happly (a : Option Addr) (cap : Nat) (xs : List Int) (m m' : Mt) (b : Option Addr) (n c k : Nat) (ls : List Wr) (w : World) (h : Hm w a cap xs m) (hw : Wg w b n c ls) (hi : WrIs xs m m' ls) (hm : Mw m') (hk : k ≤ n) :
    Calls Tryd.prog 9 #[.slice a 12 cap, .slice b n c, .int .i64 (k : Int)] w fun e w' => ∃ a' cap' xs', e = .returned (.tuple #[.slice a' 12 cap', .int .i64 0]) ∧ (k = n → Hm w' a' cap' xs' m') ∧ (k < n → Hm w' a' cap' xs' m) ∧ Below w.heap.size w w' := by
  refine (apply_cap a b 12 n cap c k xs ls w h.sg.row hw.row (by decide) (by decide) (by have := hw.few; omega) hw.le (wr_in hi) hk).mono ?_
  rintro e w' ⟨a', cap', rfl, hr, hn, hc, hb⟩
  have hln := hw.row.1
  have hl : (wrt xs (ls.take k)).length = 12 := by rw [wrt_len]; exact h.sg.row.1
  rw [hl] at hr hc ⊢
  refine ⟨a', cap', wrt xs (ls.take k), rfl, fun e => ?_, fun e => ?_, hb⟩
  · refine ⟨⟨hr, hn, hc⟩, ?_, hm⟩
    rw [List.take_of_length_le (by omega)]
    exact wr_all hi h.holds
  · exact ⟨⟨hr, hn, hc⟩, wr_cut hi h.holds (by omega), h.mw⟩

end Go.Proofs.YtgipkpkjoicehabDoor.pkt

/- What the program's beginning does. -/
namespace Go.Proofs.YtgipkpkjoicehabDoor.met
open Go.RowKit
set_option maxRecDepth 100000
set_option linter.unusedVariables false
set_option linter.unusedSimpArgs false

def KBegin (I : World → Prop) : Prop := ∀ W me, I W → Calls Tryd.prog 22 #[.int .i64 me] W fun e w' => BeginPost W me e w'

end Go.Proofs.YtgipkpkjoicehabDoor.met

/- The program's beginning. -/
namespace Go.Proofs.YtgipkpkjoicehabDoor.met
open Go.RowKit
set_option maxRecDepth 100000
set_option linter.unusedVariables false
set_option linter.unusedSimpArgs false

theorem new_may (me : Int) : (mtNew me).may ↔ (0 ≤ me ∧ me ≤ 49) :=
  ⟨fun h => h.me, fun h => ⟨h, by unfold mtNew; simp, by unfold mtNew; simp, by unfold mtNew; simp, by unfold mtNew; simp, (fun hx => hx.1 rfl), .inl ⟨rfl, rfl⟩⟩⟩
set_option maxHeartbeats 1000000 in
theorem pbegin (me : Int) (w : World) : Calls Tryd.prog 22 #[.int .i64 me] w fun e w' => BeginPost w me e w' := by
  have HM : Hid (∀ W, Calls Tryd.prog 36 #[.agg #[.int .i64 me, .int .i64 0, .int .i64 0, .int .i64 0, .int .u64 0, .int .i64 0, .int .i64 0]] W fun e w' => Told W (mtNew me).may e w') := fun W => pmay_any (mtNew me) W (by show (0 : Nat) < _; decide)
  have HR : Hid (Blk ((w.alloc (.cells #[.int .i64 0, .int .i64 0, .int .i64 0, .int .i64 0, .int .u64 0, .int .i64 0, .int .i64 0] 36)).alloc (.cells #[.int .i64 0, .int .i64 0, .int .i64 0, .int .i64 0, .int .u64 0, .int .i64 0, .int .i64 0] 36)) (w.heap.size) #[.int .i64 0, .int .i64 0, .int .i64 0, .int .i64 0, .int .u64 0, .int .i64 0, .int .i64 0] 36) := (Blk.new _ _ _).alloc _
  have HN : Hid (Blk ((w.alloc (.cells #[.int .i64 0, .int .i64 0, .int .i64 0, .int .i64 0, .int .u64 0, .int .i64 0, .int .i64 0] 36)).alloc (.cells #[.int .i64 0, .int .i64 0, .int .i64 0, .int .i64 0, .int .u64 0, .int .i64 0, .int .i64 0] 36)) (w.heap.size + 1) #[.int .i64 0, .int .i64 0, .int .i64 0, .int .i64 0, .int .u64 0, .int .i64 0, .int .i64 0] 36) := Blk.new1 w _ _ _
  have HB : Hid (Below w.heap.size w ((w.alloc (.cells #[.int .i64 0, .int .i64 0, .int .i64 0, .int .i64 0, .int .u64 0, .int .i64 0, .int .i64 0] 36)).alloc (.cells #[.int .i64 0, .int .i64 0, .int .i64 0, .int .i64 0, .int .u64 0, .int .i64 0, .int .i64 0] 36))) := ((Below.refl _ _).alloc (Nat.le_refl _) _).alloc (by simp) _
  go_enter Tryd.func22, Tryd.ntmps22
  go_wp2_with (first
    | (refine wp_letAll rfl 36 _ _ rfl (w.heap.size + 1) rfl #[.int .i64 me, .int .i64 0, .int .i64 0, .int .i64 0, .int .u64 0, .int .i64 0, .int .i64 0] rfl (by kernel_rfl) (by simp [Value.oneCell']) #[.int .i64 0, .int .i64 0, .int .i64 0, .int .i64 0, .int .u64 0, .int .i64 0, .int .i64 0] 36 HN.out rfl ?_)
    | fail)
  intro W1 hU1
  have HR1 : Hid (Blk W1 (w.heap.size) #[.int .i64 0, .int .i64 0, .int .i64 0, .int .i64 0, .int .u64 0, .int .i64 0, .int .i64 0] 36) := hU1.keep HR.out (by omega)
  have HN1 : Hid (Blk W1 (w.heap.size + 1) #[.int .i64 me, .int .i64 0, .int .i64 0, .int .i64 0, .int .u64 0, .int .i64 0, .int .i64 0] 36) := hU1.blk
  have HB1 : Hid (Below w.heap.size w W1) := hU1.bel _ _ (by omega) HB.out
  clear hU1 HR HN HB
  go_wp2_with (first
    | (refine wp_whole rfl 36 _ rfl (w.heap.size + 1) rfl 36 #[.int .i64 me, .int .i64 0, .int .i64 0, .int .i64 0, .int .u64 0, .int .i64 0, .int .i64 0] _ HN1.out Tryd.underlying36 rfl (by kernel_rfl) ?_)
    | fail)
  refine (HM.out _).mono ?_
  rintro e w2 ⟨r, rfl, hr, hb2⟩
  have HR2 : Hid (Blk w2 (w.heap.size) #[.int .i64 0, .int .i64 0, .int .i64 0, .int .i64 0, .int .u64 0, .int .i64 0, .int .i64 0] 36) := HR1.out.next hb2
  have HN2 : Hid (Blk w2 (w.heap.size + 1) #[.int .i64 me, .int .i64 0, .int .i64 0, .int .i64 0, .int .u64 0, .int .i64 0, .int .i64 0] 36) := HN1.out.next hb2
  have HB2 : Hid (Below w.heap.size w w2) := bel_step HB1.out hb2
  have HK : Hid (r = true ↔ (0 ≤ me ∧ me ≤ 49)) := hr.trans (new_may me)
  clear hr hb2 HR1 HN1 HB1 HM
  cases r with
  | false =>
    have HNO : Hid (¬ (0 ≤ me ∧ me ≤ 49)) := fun h => by have := HK.out.2 h; cases this
    go_wp2_with (first
      | (refine wp_letAll rfl 36 _ _ rfl (w.heap.size) rfl #[.int .i64 0, .int .i64 0, .int .i64 0, .int .i64 0, .int .u64 0, .int .i64 0, .int .i64 0] rfl (by kernel_rfl) (by simp [Value.oneCell']) #[.int .i64 0, .int .i64 0, .int .i64 0, .int .i64 0, .int .u64 0, .int .i64 0, .int .i64 0] 36 HR2.out rfl ?_)
      | fail)
    intro WF hUF
    have HBF : Hid (Below w.heap.size w WF) := hUF.bel _ _ (by omega) HB2.out
    have R0 : Hid (WF.cell? ⟨w.heap.size, 0, none⟩ = some (.int .i64 0)) := hUF.blk.cell 0
    have R1 : Hid (WF.cell? ⟨w.heap.size, 1, none⟩ = some (.int .i64 0)) := hUF.blk.cell 1
    have R2 : Hid (WF.cell? ⟨w.heap.size, 2, none⟩ = some (.int .i64 0)) := hUF.blk.cell 2
    have R3 : Hid (WF.cell? ⟨w.heap.size, 3, none⟩ = some (.int .i64 0)) := hUF.blk.cell 3
    have R4 : Hid (WF.cell? ⟨w.heap.size, 4, none⟩ = some (.int .u64 0)) := hUF.blk.cell 4
    have R5 : Hid (WF.cell? ⟨w.heap.size, 5, none⟩ = some (.int .i64 0)) := hUF.blk.cell 5
    have R6 : Hid (WF.cell? ⟨w.heap.size, 6, none⟩ = some (.int .i64 0)) := hUF.blk.cell 6
    clear hUF
    go_wp2_with fail
    exact bodyPost_ret (v := .tuple #[.agg #[.int .i64 0, .int .i64 0, .int .i64 0, .int .i64 0, .int .u64 0, .int .i64 0, .int .i64 0], .int .i64 2]) (by simp [results, Tryd.results22, R0.out, R1.out, R2.out, R3.out, R4.out, R5.out, R6.out, go_sem]) rfl ⟨mt0, 2, rfl, .range HNO.out, HBF.out⟩
  | true =>
    have HYE : Hid (0 ≤ me ∧ me ≤ 49) := HK.out.1 rfl
    go_wp2_with (first
      | (refine wp_whole rfl 36 _ rfl (w.heap.size + 1) rfl 36 #[.int .i64 me, .int .i64 0, .int .i64 0, .int .i64 0, .int .u64 0, .int .i64 0, .int .i64 0] _ HN2.out Tryd.underlying36 rfl (by kernel_rfl) ?_)
      | (refine wp_letAll rfl 36 _ _ rfl (w.heap.size) rfl #[.int .i64 me, .int .i64 0, .int .i64 0, .int .i64 0, .int .u64 0, .int .i64 0, .int .i64 0] rfl (by kernel_rfl) (by simp [Value.oneCell']) #[.int .i64 0, .int .i64 0, .int .i64 0, .int .i64 0, .int .u64 0, .int .i64 0, .int .i64 0] 36 HR2.out rfl ?_)
      | fail)
    intro WF hUF
    have HBF : Hid (Below w.heap.size w WF) := hUF.bel _ _ (by omega) HB2.out
    have R0 : Hid (WF.cell? ⟨w.heap.size, 0, none⟩ = some (.int .i64 me)) := hUF.blk.cell 0
    have R1 : Hid (WF.cell? ⟨w.heap.size, 1, none⟩ = some (.int .i64 0)) := hUF.blk.cell 1
    have R2 : Hid (WF.cell? ⟨w.heap.size, 2, none⟩ = some (.int .i64 0)) := hUF.blk.cell 2
    have R3 : Hid (WF.cell? ⟨w.heap.size, 3, none⟩ = some (.int .i64 0)) := hUF.blk.cell 3
    have R4 : Hid (WF.cell? ⟨w.heap.size, 4, none⟩ = some (.int .u64 0)) := hUF.blk.cell 4
    have R5 : Hid (WF.cell? ⟨w.heap.size, 5, none⟩ = some (.int .i64 0)) := hUF.blk.cell 5
    have R6 : Hid (WF.cell? ⟨w.heap.size, 6, none⟩ = some (.int .i64 0)) := hUF.blk.cell 6
    clear hUF
    go_wp2_with fail
    exact bodyPost_ret (v := .tuple #[.agg #[.int .i64 me, .int .i64 0, .int .i64 0, .int .i64 0, .int .u64 0, .int .i64 0, .int .i64 0], .int .i64 0]) (by simp [results, Tryd.results22, R0.out, R1.out, R2.out, R3.out, R4.out, R5.out, R6.out, go_sem]) rfl ⟨mtNew me, 0, rfl, .ok HYE.out, HBF.out⟩
theorem kbegin {I : World → Prop} : KBegin I := fun W me _ => pbegin me W

end Go.Proofs.YtgipkpkjoicehabDoor.met

/- Slots: fresh ones. -/
namespace Go.Proofs.YtgipkpkjoicehabDoor.slot
open Go.RowKit Go.Proofs.YtgipkpkjoicehabDoor.cell
set_option maxRecDepth 100000
set_option linter.unusedVariables false

theorem fre_eq (n : Nat) : (List.replicate (2 * n + 2) (0 : Int)).set 0 1 = fre n := by
  rw [fre, show 2 * n + 2 = (2 * n + 1) + 1 by omega, List.replicate_succ]; rfl
theorem fre_len (n : Nat) : (fre n).length = 2 * n + 2 := by simp [fre]
set_option maxHeartbeats 1000000 in
theorem fresh_blk (n : Nat) (w : World) (h1 : 1 ≤ n) (h2 : n ≤ 64) :
    Calls Tryd.prog 24 #[.int .i64 (n : Int)] w fun e w' => ∃ g, e = .returned (.tuple #[.slice (some ⟨g, 0, none⟩) (2 * n + 2) (2 * n + 2), .int .i64 0]) ∧ Blk w' g (arr (fre n)) 60 ∧ w.heap.size ≤ g ∧ Below w.heap.size w w' := by
  have HM : Hid (∀ W, Calls Tryd.prog 39 #[.int .i64 (n : Int)] W fun e w' => e = .returned (.bool true) ∧ w' = W) := fun W => smay_yes _ W (by omega) (by omega)
  have hmk : ∀ W : World, (Instr.makeSlice 22 (.int .i64 (2 * ((n : Int) + 1))) (.int .i64 (2 * ((n : Int) + 1)))).run Tryd.prog W = .ok (.slice (some ⟨W.heap.size, 0, none⟩) (2 * n + 2) (2 * n + 2)) (W.alloc (.cells (arr (List.replicate (2 * n + 2) 0)) 60)) := fun W => by
    rw [show (2 * ((n : Int) + 1)) = ((2 * n + 2 : Nat) : Int) by omega]
    exact make_u32 (2 * n + 2) (by omega) W
  have hN := Blk.new w (arr (List.replicate (2 * n + 2) 0)) 60
  have k0 := Blk.word hN 0 (by simp)
  have k1 := hN.free 0
  have HS : Hid (Blk (w.alloc (.cells ((arr (List.replicate (2 * n + 2) 0)).setIfInBounds 0 (.int .u32 1)) 60)) w.heap.size (arr (fre n)) 60) := by
    show Blk _ _ _ _
    rw [arr_set, fre_eq]
    exact Blk.new _ _ _
  have HB : Hid (Below w.heap.size w (w.alloc (.cells ((arr (List.replicate (2 * n + 2) 0)).setIfInBounds 0 (.int .u32 1)) 60))) := (Below.refl _ _).alloc (Nat.le_refl _) _
  have HL : Hid ((fre n).length = 2 * n + 2) := fre_len n
  clear hN
  generalize (List.replicate (2 * n + 2) (0 : Int)).getD 0 0 = z at *
  generalize arr (List.replicate (2 * n + 2) 0) = A at *
  have hm0 : 0 < 2 * n + 2 := by omega
  generalize 2 * n + 2 = m at *
  go_enter Tryd.func24, Tryd.ntmps24
  go_wp2_with fail
  refine (HM.out _).mono ?_
  rintro e w1 ⟨rfl, rfl⟩
  go_wp2_with fail
  go_ret2
  exact ⟨w1.heap.size, rfl, HS.out, Nat.le_refl _, HB.out⟩
theorem fresh_cap (n : Nat) (w : World) (h1 : 1 ≤ n) (h2 : n ≤ 64) :
    Calls Tryd.prog 24 #[.int .i64 (n : Int)] w fun e w' => GaveC w (fre n) 0 e w' := by
  refine (fresh_blk n w h1 h2).mono ?_
  rintro e w' ⟨g, rfl, hg, _, hb⟩
  exact GaveC.mk (Blk.rowU hg (fre_len n)) (fun h => by cases h) (Nat.le_refl _) hb
theorem fresh_yes (n : Nat) (w : World) (h1 : 1 ≤ n) (h2 : n ≤ 64) :
    Calls Tryd.prog 24 #[.int .i64 (n : Int)] w fun e w' => GaveR w (fre n) 0 e w' := (fresh_cap n w h1 h2).mono fun _ _ h => h.gave
theorem fresh_no (n : Int) (w : World) (h : n < 1 ∨ 64 < n) :
    Calls Tryd.prog 24 #[.int .i64 n] w fun e w' => GaveR w [] 1 e w' := by
  have HM : Hid (∀ W, Calls Tryd.prog 39 #[.int .i64 n] W fun e w' => e = .returned (.bool false) ∧ w' = W) := fun W => smay_no _ W h
  clear h
  go_enter Tryd.func24, Tryd.ntmps24
  go_wp2_with fail
  refine (HM.out _).mono ?_
  rintro e w1 ⟨rfl, rfl⟩
  go_wp2_with fail
  go_ret2
  exact ⟨none, 0, rfl, RowU.nil _ _, fun _ => rfl, Below.refl _ _⟩

end Go.Proofs.YtgipkpkjoicehabDoor.slot

/- A new pocket. -/
namespace Go.Proofs.YtgipkpkjoicehabDoor.pkt
open Go.RowKit Go.Proofs.YtgipkpkjoicehabDoor.met Go.Proofs.YtgipkpkjoicehabDoor.slot Go.Proofs.YtgipkpkjoicehabDoor.cell
set_option maxRecDepth 100000
set_option linter.unusedVariables false
set_option linter.unusedSimpArgs false

theorem copy_rec (a : Addr) (cc g : Nat) (me : Int) (w : World) (hr : Blk w g (arr (fre 5)) 60) (hc : ∀ i, i < 5 → w.cell? (a.add i) = some (.int .u32 ((wds (mtNew me)).getD i 0))) :
    (Builtin.copy_ #[22, 22] 3 #[.slice (some ⟨g, 1, none⟩) 11 11, .slice (some a) 5 cc]).run Tryd.prog w = .ok (.int .i64 5) (w.setRow g (arr (mk me))) := by
  rw [wds_new] at hc
  have hrun := run_copy_row (P := Tryd.prog) w 22 22 3 60 g 1 11 11 a 5 cc (arr (fre 5)) 60 (([0, me, 0, 0, 0] : List Int).map (Value.int .u32)) Tryd.underlying22 (by kernel_rfl) hr rfl (by
      intro j u hu
      by_cases hj : j < 5
      · have := hc j hj
        rw [this]
        have hj' : j < ([0, me, 0, 0, 0] : List Int).length := hj
        rw [List.getElem?_map, List.getElem?_eq_getElem hj'] at hu
        rw [← hu]
        simp [List.getD, List.getElem?_eq_getElem hj']
      · rw [List.getElem?_eq_none (by simp; omega)] at hu; cases hu) (by simp [arr, fre]) (by
      intro u hu; obtain ⟨z, _, rfl⟩ := List.mem_map.1 hu; rfl)
  rw [hrun]
  rfl
theorem setRow_blk' {w : World} {g : Nat} {c0 c1 : Array Value} {t : TypeId} (h : Blk w g c0 t) : Blk (w.setRow g c1) g c1 t := setRow_heap w g _ _ t _ h
set_option maxHeartbeats 1000000 in
theorem pmake (me : Int) (w : World) : Calls Tryd.prog 10 #[.int .i64 me] w fun e w' => MakePost w me e w' := by
  have HBG : Hid (Calls Tryd.prog 22 #[.int .i64 me] w fun e w' => BeginPost w me e w') := pbegin me w
  have HWD : Hid (∀ W, Calls Tryd.prog 23 #[.agg #[.int .i64 me, .int .i64 0, .int .i64 0, .int .i64 0, .int .u64 0, .int .i64 0, .int .i64 0]] W fun e w' => met.WordsPost W (mtNew me) e w') := fun W => pwords (mtNew me) W (by show (0 : Nat) < _; decide)
  have HFR : Hid (∀ W, Calls Tryd.prog 24 #[.int .i64 5] W fun e w' => ∃ g, e = .returned (.tuple #[.slice (some ⟨g, 0, none⟩) 12 12, .int .i64 0]) ∧ Blk w' g (arr (fre 5)) 60 ∧ W.heap.size ≤ g ∧ Below W.heap.size W w') := fun W => fresh_blk 5 W (by decide) (by decide)
  have H0B : Hid (Below w.heap.size w w) := Below.refl _ _
  go_enter Tryd.func10, Tryd.ntmps10
  go_wp2_with fail
  refine HBG.out.mono ?_
  rintro e w1 ⟨m1, f1, rfl, hi1, hb1⟩
  have H1B : Hid (Below w.heap.size w w1) := bel_step H0B.out hb1
  clear HBG
  rcases hi1 with ⟨hme, rfl, rfl⟩ | ⟨hme, rfl, rfl⟩
  · have HME : Hid (0 ≤ me ∧ me ≤ 49) := hme
    clear hme
    unfold mtNew Mt.v Mt.cells
    simp only []
    have H2m : Hid (Blk (w1.alloc (.cells #[.int .i64 me, .int .i64 0, .int .i64 0, .int .i64 0, .int .u64 0, .int .i64 0, .int .i64 0] 36)) (w1.heap.size) #[.int .i64 me, .int .i64 0, .int .i64 0, .int .i64 0, .int .u64 0, .int .i64 0, .int .i64 0] 36) := (Blk.new w1 _ _)
    have H2B : Hid (Below w.heap.size w (w1.alloc (.cells #[.int .i64 me, .int .i64 0, .int .i64 0, .int .i64 0, .int .u64 0, .int .i64 0, .int .i64 0] 36))) := (H1B.out).alloc (Nat.le_trans H1B.out.size (by simp)) _
    have L20 : Hid (w.heap.size ≤ w1.heap.size) := H1B.out.size
    clear H0B H1B hb1
    go_wp2_with (first
      | (refine wp_whole rfl 36 _ rfl (w1.heap.size) rfl 36 #[.int .i64 me, .int .i64 0, .int .i64 0, .int .i64 0, .int .u64 0, .int .i64 0, .int .i64 0] _ H2m.out Tryd.underlying36 rfl (by kernel_rfl) ?_)
      | (refine wp_wholeG (by rfl) 36 _ rfl (w1.heap.size) rfl 36 #[.int .i64 me, .int .i64 0, .int .i64 0, .int .i64 0, .int .u64 0, .int .i64 0, .int .i64 0] _ H2m.out Tryd.underlying36 rfl (by kernel_rfl) ?_)
      | fail)
    refine (HWD.out _).mono ?_
    rintro e w2 ⟨x2, n2, c2, zs, f2, rfl, hr2, _, hle2, hi2, hb2⟩
    have H3m : Hid (Blk w2 (w1.heap.size) #[.int .i64 me, .int .i64 0, .int .i64 0, .int .i64 0, .int .u64 0, .int .i64 0, .int .i64 0] 36) := H2m.out.next hb2
    have H3B : Hid (Below w.heap.size w w2) := bel_step H2B.out hb2
    obtain ⟨rfl, rfl⟩ := hi2.one (WordsIs.ok (new_mw HME.out).may)
    obtain rfl : n2 = 5 := hr2.1.symm.trans rfl
    have HX : Hid (RowU w2 x2 5 (wds (mtNew me)) ∧ w.heap.size ≤ w2.heap.size) := ⟨hr2, H3B.out.size⟩
    clear H2m H2B hb2 hr2 hi2 hle2 HWD
    go_wp2_with fail
    refine (HFR.out _).mono ?_
    rintro e w3 ⟨g, rfl, hg3, hl3, hb3⟩
    have H4m : Hid (Blk w3 (w1.heap.size) #[.int .i64 me, .int .i64 0, .int .i64 0, .int .i64 0, .int .u64 0, .int .i64 0, .int .i64 0] 36) := H3m.out.next hb3
    have H4B : Hid (Below w.heap.size w w3) := bel_step H3B.out hb3
    obtain ⟨xb, xo, rfl, xl, xc⟩ := (HX.out.1.below hb3).at (by decide)
    have hcp := copy_rec ⟨xb, xo, none⟩ c2 g me w3 hg3 (fun i hi => by rw [Addr.add_lit]; exact xc i hi)
    have HG : Hid (Blk (w3.setRow g (arr (mk me))) g (arr (mk me)) 60) := setRow_blk' hg3
    have HBF : Hid (Below w.heap.size w (w3.setRow g (arr (mk me)))) := below_setRow H4B.out (by have := HX.out.2; omega) _
    have HRU : Hid (RowU (w3.setRow g (arr (mk me))) (some ⟨g, 0, none⟩) 12 (mk me)) := Blk.rowU HG.out rfl
    clear H3m H3B hb3 hg3 hl3 xl xc HX HFR HG
    generalize arr (mk me) = A at *
    go_wp2_with fail
    go_ret2
    exact ⟨_, 12, 12, mk me, 0, rfl, ⟨HRU.out, (fun h => by cases h), Nat.le_refl _⟩, .inl ⟨HME.out, rfl, rfl⟩, HBF.out⟩
  · have HME : Hid (¬ (0 ≤ me ∧ me ≤ 49)) := hme
    clear hme
    unfold mt0 Mt.v Mt.cells
    simp only []
    have H2m : Hid (Blk (w1.alloc (.cells #[.int .i64 0, .int .i64 0, .int .i64 0, .int .i64 0, .int .u64 0, .int .i64 0, .int .i64 0] 36)) (w1.heap.size) #[.int .i64 0, .int .i64 0, .int .i64 0, .int .i64 0, .int .u64 0, .int .i64 0, .int .i64 0] 36) := (Blk.new w1 _ _)
    have H2B : Hid (Below w.heap.size w (w1.alloc (.cells #[.int .i64 0, .int .i64 0, .int .i64 0, .int .i64 0, .int .u64 0, .int .i64 0, .int .i64 0] 36))) := (H1B.out).alloc (Nat.le_trans H1B.out.size (by simp)) _
    have L20 : Hid (w.heap.size ≤ w1.heap.size) := H1B.out.size
    clear H0B H1B hb1
    go_wp2_with (first
      | (refine wp_whole rfl 36 _ rfl (w1.heap.size) rfl 36 #[.int .i64 0, .int .i64 0, .int .i64 0, .int .i64 0, .int .u64 0, .int .i64 0, .int .i64 0] _ H2m.out Tryd.underlying36 rfl (by kernel_rfl) ?_)
      | (refine wp_wholeG (by rfl) 36 _ rfl (w1.heap.size) rfl 36 #[.int .i64 0, .int .i64 0, .int .i64 0, .int .i64 0, .int .u64 0, .int .i64 0, .int .i64 0] _ H2m.out Tryd.underlying36 rfl (by kernel_rfl) ?_)
      | fail)
    go_ret2
    exact ⟨none, 0, 0, [], 2, rfl, ⟨RowU.nil _ _, (fun _ => rfl), Nat.le_refl _⟩, .inr ⟨HME.out, rfl, rfl⟩, H2B.out⟩

end Go.Proofs.YtgipkpkjoicehabDoor.pkt

/- A slice of strings that came in. -/
namespace Go.Proofs.YtgipkpkjoicehabDoor.trow
open Go.RowKit

/-- Its strings lie there. -/
def RowT (w : World) (a : Option Addr) (len : Nat) (ss : List ByteArray) : Prop :=
  ∀ i, i < len → ∃ b off, a = some ⟨b, off, none⟩ ∧ w.cell? ⟨b, off + i, none⟩ = some (.string (ss.getD i ByteArray.empty))
theorem RowT.below {w w' : World} {a : Option Addr} {len : Nat} {ss : List ByteArray} (h : RowT w a len ss) (hb : Below w.heap.size w w') : RowT w' a len ss := fun i hi => by
  obtain ⟨b, off, h1, h2⟩ := h i hi
  exact ⟨b, off, h1, (hb.cell (p := ⟨b, off + i, none⟩) (World.block_lt_of_cell? w _ h2)).trans h2⟩
theorem rowT_of {w : World} {x : Addr} {len cap : Nat} {ss : List ByteArray} (hl : len ≤ cap) (hz : ss.length = cap) (hc : ∀ i, i < ss.length → w.cell? (x.add i) = some (.string (ss.getD i ByteArray.empty))) : RowT w (some x) len ss := by
  intro i hi
  have h1 := hc i (by omega)
  have hx0 := hc 0 (by omega)
  obtain ⟨b, off, spot⟩ := x
  have hs : spot = none := by simpa [Addr.add] using World.cell?_spot hx0
  subst hs
  rw [Addr.add_lit] at h1
  exact ⟨b, off, rfl, h1⟩

end Go.Proofs.YtgipkpkjoicehabDoor.trow

/- Nothing that is keyed adds credit where nothing was sold. -/
namespace Go.Proofs.YtgipkpkjoicehabDoor.pkt
open Go.RowKit Go.Proofs.YtgipkpkjoicehabDoor.met Go.Proofs.YtgipkpkjoicehabDoor.slot Go.Proofs.YtgipkpkjoicehabDoor.cell Go.Proofs.YtgipkpkjoicehabDoor.ora Go.Proofs.YtgipkpkjoicehabDoor.token Go.Proofs.YtgipkpkjoicehabDoor.check Go.Proofs.YtgipkpkjoicehabDoor.trow
set_option maxRecDepth 100000
set_option linter.unusedVariables false
set_option linter.unusedSimpArgs false

set_option maxHeartbeats 4000000 in
theorem forged_abs (me0 me : Int) (a0 : Option Addr) (len0 cap0 : Nat) (zs : List ByteArray) (w : World) (hrt : RowT w a0 len0 zs)
    (hp : ∀ W, Calls Tryd.prog 6 #[.int .i64 me0, .int .i64 50] W fun e w' => e = .returned (.int .i64 me) ∧ w' = W)
    (hmk : ∀ W, Calls Tryd.prog 10 #[.int .i64 me] W fun e w' => ∃ a c xs m, e = .returned (.tuple #[.slice a 12 c, .int .i64 0]) ∧ Hm w' a c xs m ∧ Fo me m ∧ Below W.heap.size W w')
    (hky : ∀ W a c xs m tx, Below w.heap.size w W → Hm W a c xs m → Fo me m → Calls Tryd.prog 11 #[.slice a 12 c, .agg #[.slice none 0 0], .string tx] W fun e w' => ∃ b n d ls f, e = .returned (.tuple #[.slice b n d, .int .i64 0, .int .i64 f]) ∧ Wg w' b n d ls ∧ (n = 0 ∨ (n = 7 ∧ f = 12 ∧ ∃ m', Fo me m' ∧ WrIs xs m m' ls)) ∧ Below W.heap.size W w')
    (hap : ∀ W a c xs m m' b d ls, Hm W a c xs m → Wg W b 7 d ls → WrIs xs m m' ls → Fo me m' → Calls Tryd.prog 9 #[.slice a 12 c, .slice b 7 d, .int .i64 7] W fun e w' => ∃ a' c' xs', e = .returned (.tuple #[.slice a' 12 c', .int .i64 0]) ∧ Hm w' a' c' xs' m' ∧ Below W.heap.size W w')
    (hbt : ∀ W a c xs m, Hm W a c xs m → Calls Tryd.prog 7 #[.slice a 12 c] W fun e w' => e = .returned (.tuple #[m.v, .int .i64 0]) ∧ Below W.heap.size W w')
    : Calls Tryd.prog 4 #[.int .i64 me0, .slice a0 len0 cap0] w fun e w' => e = .returned (.bool true) ∧ Below w.heap.size w w' := by
  have HP : Hid (∀ W, Calls Tryd.prog 6 #[.int .i64 me0, .int .i64 50] W fun e w' => e = .returned (.int .i64 me) ∧ w' = W) := hp
  have HMK : Hid (∀ W, Calls Tryd.prog 10 #[.int .i64 me] W fun e w' => ∃ a c xs m, e = .returned (.tuple #[.slice a 12 c, .int .i64 0]) ∧ Hm w' a c xs m ∧ Fo me m ∧ Below W.heap.size W w') := hmk
  have HKY : Hid (∀ W a c xs m tx, Below w.heap.size w W → Hm W a c xs m → Fo me m → Calls Tryd.prog 11 #[.slice a 12 c, .agg #[.slice none 0 0], .string tx] W fun e w' => ∃ b n d ls f, e = .returned (.tuple #[.slice b n d, .int .i64 0, .int .i64 f]) ∧ Wg w' b n d ls ∧ (n = 0 ∨ (n = 7 ∧ f = 12 ∧ ∃ m', Fo me m' ∧ WrIs xs m m' ls)) ∧ Below W.heap.size W w') := hky
  have HAP : Hid (∀ W a c xs m m' b d ls, Hm W a c xs m → Wg W b 7 d ls → WrIs xs m m' ls → Fo me m' → Calls Tryd.prog 9 #[.slice a 12 c, .slice b 7 d, .int .i64 7] W fun e w' => ∃ a' c' xs', e = .returned (.tuple #[.slice a' 12 c', .int .i64 0]) ∧ Hm w' a' c' xs' m' ∧ Below W.heap.size W w') := hap
  have HBT : Hid (∀ W a c xs m, Hm W a c xs m → Calls Tryd.prog 7 #[.slice a 12 c] W fun e w' => e = .returned (.tuple #[m.v, .int .i64 0]) ∧ Below W.heap.size W w') := hbt
  have HRT : Hid (RowT w a0 len0 zs) := hrt
  clear hrt hp hmk hky hap hbt
  go_enter Tryd.func4, Tryd.ntmps4
  go_wp2_with fail
  refine (HP.out _).mono ?_
  rintro e w0 ⟨rfl, rfl⟩
  go_wp2_with fail
  refine (HMK.out _).mono ?_
  rintro e w1 ⟨a1, c1, xs1, m1, rfl, hm1, hf1, hb1⟩
  have HM1 : Hid (Hm w1 a1 c1 xs1 m1 ∧ Fo me m1 ∧ Below w0.heap.size w0 w1) := ⟨hm1, hf1, hb1⟩
  clear hm1 hf1 hb1 HMK
  go_wp2_with fail
  go_loopw [5, 7] (fun v i wr => ∃ (k : Nat) (a : Option Addr) (c : Nat) (xs : List Int) (m : Mt), k ≤ 100 ∧ i = .int .i64 (k : Int) ∧ v = .slice a 12 c ∧ Hm wr a c xs m ∧ Fo me m ∧ Below w0.heap.size w0 wr) (fun _ i _ => 100 - (intOf i).toNat)
  case atStart => exact ⟨0, a1, c1, xs1, m1, by decide, rfl, rfl, HM1.out⟩
  case round =>
    obtain ⟨k, a, c, xs, m, hk, rfl, rfl, hm, hf, hb⟩ := hrel
    have HM : Hid (Hm wr a c xs m ∧ Fo me m ∧ Below w0.heap.size w0 wr) := ⟨hm, hf, hb⟩
    clear hm hf hb HM1
    by_cases hl : k < len0
    · by_cases h100 : k < 100
      · obtain ⟨bl, off, rfl, hcl⟩ := HRT.out k hl
        have hcell : wr.cell? ⟨bl, off + k, none⟩ = some (.string (zs.getD k ByteArray.empty)) := (HM.out.2.2.cell (p := ⟨bl, off + k, none⟩) (World.block_lt_of_cell? w0 _ hcl)).trans hcl
        have HKQ : Hid (Calls Tryd.prog 11 #[.slice a 12 c, .agg #[.slice none 0 0], .string (zs.getD k ByteArray.empty)] wr fun e w' => ∃ b n d ls f, e = .returned (.tuple #[.slice b n d, .int .i64 0, .int .i64 f]) ∧ Wg w' b n d ls ∧ (n = 0 ∨ (n = 7 ∧ f = 12 ∧ ∃ m', Fo me m' ∧ WrIs xs m m' ls)) ∧ Below wr.heap.size wr w') := HKY.out wr a c xs m (zs.getD k ByteArray.empty) HM.out.2.2 HM.out.1 HM.out.2.1
        generalize zs.getD k ByteArray.empty = tx at *
        have hd1 : decide ((k : Int) < (len0 : Int)) = true := by simp; omega
        have hd2 : decide ((k : Int) < 100) = true := by simp; omega
        have hd3 : (k : Int) < (len0 : Int) := by omega
        clear hcl
        go_wp2_with fail
        refine HKQ.out.mono ?_
        rintro e w2 ⟨b, n, d, ls, f, rfl, hg, hor, hb2⟩
        have HM2 : Hid (Hm w2 a c xs m ∧ Fo me m ∧ Below w0.heap.size w0 w2) := ⟨HM.out.1.below hb2, HM.out.2.1, bel_step HM.out.2.2 hb2⟩
        have HG : Hid (Wg w2 b n d ls) := hg
        clear hb2 hg HKQ HM hcell hd1 hd2 hd3
        rcases hor with rfl | ⟨rfl, rfl, m', hf', hw'⟩
        · go_wp2_with fail
          go_roundw
          case rel => exact ⟨k + 1, a, c, xs, m, by omega, by go_num, rfl, HM2.out⟩
          case measure => simp [intOf]; omega
        · have HAQ : Hid (Calls Tryd.prog 9 #[.slice a 12 c, .slice b 7 d, .int .i64 7] w2 fun e w' => ∃ a' c' xs', e = .returned (.tuple #[.slice a' 12 c', .int .i64 0]) ∧ Hm w' a' c' xs' m' ∧ Below w2.heap.size w2 w') := HAP.out w2 a c xs m m' b d ls HM2.out.1 HG.out hw' hf'
          have HF' : Hid (Fo me m') := hf'
          clear hf' hw'
          go_wp2_with fail
          refine HAQ.out.mono ?_
          rintro e w3 ⟨a3, c3, xs3, rfl, hm3, hb3⟩
          have HM3 : Hid (Hm w3 a3 c3 xs3 m' ∧ Fo me m' ∧ Below w0.heap.size w0 w3) := ⟨hm3, HF'.out, bel_step HM2.out.2.2 hb3⟩
          clear hm3 hb3 HAQ
          go_wp2_with fail
          go_roundw
          case rel => exact ⟨k + 1, a3, c3, xs3, m', by omega, by go_num, rfl, HM3.out⟩
          case measure => simp [intOf]; omega
      · have hd1 : decide ((k : Int) < (len0 : Int)) = true := by simp; omega
        have hd2 : decide ((k : Int) < 100) = false := by simp; omega
        have HBQ : Hid (Calls Tryd.prog 7 #[.slice a 12 c] wr fun e w' => e = .returned (.tuple #[m.v, .int .i64 0]) ∧ Below wr.heap.size wr w') := HBT.out wr a c xs m HM.out.1
        go_wp2_with fail
        refine HBQ.out.mono ?_
        rintro e w4 ⟨rfl, hb4⟩
        obtain ⟨hmw, h1, h2, h3, h4⟩ := HM.out.2.1
        have HB4 : Hid (Below w0.heap.size w0 w4) := bel_step HM.out.2.2 hb4
        clear hb4 HBQ HM hmw
        obtain ⟨me1, rev1, cr1, h1x, b1, bad1, lock1⟩ := m
        simp only [] at h1 h2 h3 h4
        subst h1 h2 h3 h4
        unfold Mt.v Mt.cells
        simp only []
        have HG4 : Hid (Blk (w4.alloc (.cells #[.int .i64 me1, .int .i64 rev1, .int .i64 0, .int .i64 0, .int .u64 0, .int .i64 bad1, .int .i64 lock1] 36)) w4.heap.size #[.int .i64 me1, .int .i64 rev1, .int .i64 0, .int .i64 0, .int .u64 0, .int .i64 bad1, .int .i64 lock1] 36) := Blk.new _ _ _
        have HB5 : Hid (Below w0.heap.size w0 (w4.alloc (.cells #[.int .i64 me1, .int .i64 rev1, .int .i64 0, .int .i64 0, .int .u64 0, .int .i64 bad1, .int .i64 lock1] 36))) := HB4.out.alloc HB4.out.size _
        go_upto_region 18 with fail
        generalize w4.heap.size = g at *
        generalize (World.alloc w4 _) = W5 at *
        have HBD : Hid (Below w0.heap.size w0 W5.drew) := HB5.out.drew
        refine wp_region_held_drew (S := fun v => Blk v g #[.int .i64 me1, .int .i64 rev1, .int .i64 0, .int .i64 0, .int .u64 0, .int .i64 bad1, .int .i64 lock1] 36) (by kernel_rfl) (Blk.drew HG4.out 1) (fun hHeld => ?_)
        refine take_at 0 67 (.int .i64 0) _ rfl rfl (by kernel_rfl) (by kernel_rfl) (by kernel_rfl) (fun _ _ _ h => h) (Or.inl ⟨by rfl, fun v hv => by skip; clear hv; go_simp⟩) hHeld ?_
        simp only [Act.put, List.setIfInBounds_toArray, List.set_cons_zero, List.set_cons_succ]
        refine take_at 1 68 (.bool true) _ rfl rfl (by kernel_rfl) (by kernel_rfl) (by kernel_rfl) (fun _ _ _ h => h) (Or.inl ⟨by rfl, fun v hv => by skip; clear hv; go_simp⟩) hHeld ?_
        simp only [Act.put, List.setIfInBounds_toArray, List.set_cons_zero, List.set_cons_succ]
        refine take_at 2 69 (.bool true) _ rfl rfl (by kernel_rfl) (by kernel_rfl) (by kernel_rfl) (fun _ _ _ h => h) (Or.inl ⟨by rfl, fun v hv => by skip; clear hv; go_simp⟩) hHeld ?_
        simp only [Act.put, List.setIfInBounds_toArray, List.set_cons_zero, List.set_cons_succ]
        refine take_at 3 70 (.pointer (some ⟨g, 2, none⟩)) _ rfl rfl (by kernel_rfl) (by kernel_rfl) (by kernel_rfl) (fun _ _ _ h => h) (Or.inl ⟨by rfl, fun v hv => by skip; clear hv; go_simp⟩) hHeld ?_
        simp only [Act.put, List.setIfInBounds_toArray, List.set_cons_zero, List.set_cons_succ]
        refine take_at 4 71 (.int .i64 0) _ rfl rfl (by kernel_rfl) (by kernel_rfl) (by kernel_rfl) (fun _ _ _ h => h) (Or.inl ⟨by rfl, fun v hv => by have h2 := hv.cell 2; clear hv; go_simp⟩) hHeld ?_
        simp only [Act.put, List.setIfInBounds_toArray, List.set_cons_zero, List.set_cons_succ]
        refine take_at 5 72 (.bool true) _ rfl rfl (by kernel_rfl) (by kernel_rfl) (by kernel_rfl) (fun _ _ _ h => h) (Or.inl ⟨by rfl, fun v hv => by skip; clear hv; go_simp⟩) hHeld ?_
        simp only [Act.put, List.setIfInBounds_toArray, List.set_cons_zero, List.set_cons_succ]
        refine take_at 6 73 (.bool true) _ rfl rfl (by kernel_rfl) (by kernel_rfl) (by kernel_rfl) (fun _ _ _ h => h) (Or.inl ⟨by rfl, fun v hv => by skip; clear hv; go_simp⟩) hHeld ?_
        simp only [Act.put, List.setIfInBounds_toArray, List.set_cons_zero, List.set_cons_succ]
        refine take_at 7 74 (.bool true) _ rfl rfl (by kernel_rfl) (by kernel_rfl) (by kernel_rfl) (fun _ _ _ h => h) (Or.inl ⟨by rfl, fun v hv => by skip; clear hv; go_simp⟩) hHeld ?_
        simp only [Act.put, List.setIfInBounds_toArray, List.set_cons_zero, List.set_cons_succ]
        refine take_at 8 75 (.pointer (some ⟨g, 0, none⟩)) _ rfl rfl (by kernel_rfl) (by kernel_rfl) (by kernel_rfl) (fun _ _ _ h => h) (Or.inl ⟨by rfl, fun v hv => by skip; clear hv; go_simp⟩) hHeld ?_
        simp only [Act.put, List.setIfInBounds_toArray, List.set_cons_zero, List.set_cons_succ]
        refine take_at 9 76 (.int .i64 me1) _ rfl rfl (by kernel_rfl) (by kernel_rfl) (by kernel_rfl) (fun _ _ _ h => h) (Or.inl ⟨by rfl, fun v hv => by have h2 := hv.cell 0; clear hv; go_simp⟩) hHeld ?_
        simp only [Act.put, List.setIfInBounds_toArray, List.set_cons_zero, List.set_cons_succ]
        refine take_at 10 77 (.int .i64 me0) _ rfl rfl (by kernel_rfl) (by kernel_rfl) (by kernel_rfl) (fun _ _ _ h => h) (Or.inl ⟨by rfl, fun v hv => by skip; clear hv; go_simp⟩) hHeld ?_
        simp only [Act.put, List.setIfInBounds_toArray, List.set_cons_zero, List.set_cons_succ]
        refine call_at 11 78 (.int .i64 me1) _ rfl rfl (by kernel_rfl) (by kernel_rfl) (by kernel_rfl) (fun _ _ _ h => h) 6 #[.int .i64 me0, .int .i64 50] ⟨by rfl, fun v hv => by clear hv; go_simp⟩ (fun v _ => HP.out v) hHeld ?_
        simp only [Act.put, List.setIfInBounds_toArray, List.set_cons_zero, List.set_cons_succ]
        refine take_at 12 79 (.bool true) _ rfl rfl (by kernel_rfl) (by kernel_rfl) (by kernel_rfl) (fun _ _ _ h => h) (Or.inl ⟨by rfl, fun v hv => by skip; clear hv; go_simp⟩) hHeld ?_
        simp only [Act.put, List.setIfInBounds_toArray, List.set_cons_zero, List.set_cons_succ]
        refine take_at 13 80 (.bool true) _ rfl rfl (by kernel_rfl) (by kernel_rfl) (by kernel_rfl) (fun _ _ _ h => h) (Or.inl ⟨by rfl, fun v hv => by skip; clear hv; go_simp⟩) hHeld ?_
        simp only [Act.put, List.setIfInBounds_toArray, List.set_cons_zero, List.set_cons_succ]
        refine take_at 14 81 (.bool true) _ rfl rfl (by kernel_rfl) (by kernel_rfl) (by kernel_rfl) (fun _ _ _ h => h) (Or.inl ⟨by rfl, fun v hv => by skip; clear hv; go_simp⟩) hHeld ?_
        simp only [Act.put, List.setIfInBounds_toArray, List.set_cons_zero, List.set_cons_succ]
        refine take_at 15 82 (.pointer (some ⟨g, 3, none⟩)) _ rfl rfl (by kernel_rfl) (by kernel_rfl) (by kernel_rfl) (fun _ _ _ h => h) (Or.inl ⟨by rfl, fun v hv => by skip; clear hv; go_simp⟩) hHeld ?_
        simp only [Act.put, List.setIfInBounds_toArray, List.set_cons_zero, List.set_cons_succ]
        refine take_at 16 83 (.agg #[.int .i64 0, .int .u64 0]) _ rfl rfl (by kernel_rfl) (by kernel_rfl) (by kernel_rfl) (fun _ _ _ h => h) (Or.inl ⟨by rfl, fun v hv => by have h2 := hv.cell 3; have h3 := hv.cell 4; clear hv; go_simp⟩) hHeld ?_
        simp only [Act.put, List.setIfInBounds_toArray, List.set_cons_zero, List.set_cons_succ]
        refine take_at 17 84 (.agg #[.int .i64 0, .int .u64 0]) _ rfl rfl (by kernel_rfl) (by kernel_rfl) (by kernel_rfl) (fun _ _ _ h => h) (Or.inl ⟨by rfl, fun v hv => by skip; clear hv; go_simp⟩) hHeld ?_
        simp only [Act.put, List.setIfInBounds_toArray, List.set_cons_zero, List.set_cons_succ]
        refine take_at 18 85 (.bool true) _ rfl rfl (by kernel_rfl) (by kernel_rfl) (by kernel_rfl) (fun _ _ _ h => h) (Or.inl ⟨by rfl, fun v hv => by have hq := fun W => eqWd 9998 0 0 W; clear hv; go_simp⟩) hHeld ?_
        simp only [Act.put, List.setIfInBounds_toArray, List.set_cons_zero, List.set_cons_succ]
        refine take_at 19 86 (.bool true) _ rfl rfl (by kernel_rfl) (by kernel_rfl) (by kernel_rfl) (fun _ _ _ h => h) (Or.inl ⟨by rfl, fun v hv => by skip; clear hv; go_simp⟩) hHeld ?_
        simp only [Act.put, List.setIfInBounds_toArray, List.set_cons_zero, List.set_cons_succ]
        refine take_at 20 4 (.bool true) _ rfl rfl (by kernel_rfl) (by kernel_rfl) (by kernel_rfl) (fun _ _ _ h => h) (Or.inl ⟨by rfl, fun v hv => by skip; clear hv; go_simp⟩) hHeld ?_
        simp only [Act.put, List.setIfInBounds_toArray, List.set_cons_zero, List.set_cons_succ]
        refine wpAnyH_done (by kernel_rfl) ?_ _
        clear hHeld
        go_wp2_with fail
        go_ret
        exact ⟨rfl, HBD.out⟩
    · have hd1 : decide ((k : Int) < (len0 : Int)) = false := by simp; omega
      have HBQ : Hid (Calls Tryd.prog 7 #[.slice a 12 c] wr fun e w' => e = .returned (.tuple #[m.v, .int .i64 0]) ∧ Below wr.heap.size wr w') := HBT.out wr a c xs m HM.out.1
      go_wp2_with fail
      refine HBQ.out.mono ?_
      rintro e w4 ⟨rfl, hb4⟩
      obtain ⟨hmw, h1, h2, h3, h4⟩ := HM.out.2.1
      have HB4 : Hid (Below w0.heap.size w0 w4) := bel_step HM.out.2.2 hb4
      clear hb4 HBQ HM hmw
      obtain ⟨me1, rev1, cr1, h1x, b1, bad1, lock1⟩ := m
      simp only [] at h1 h2 h3 h4
      subst h1 h2 h3 h4
      unfold Mt.v Mt.cells
      simp only []
      have HG4 : Hid (Blk (w4.alloc (.cells #[.int .i64 me1, .int .i64 rev1, .int .i64 0, .int .i64 0, .int .u64 0, .int .i64 bad1, .int .i64 lock1] 36)) w4.heap.size #[.int .i64 me1, .int .i64 rev1, .int .i64 0, .int .i64 0, .int .u64 0, .int .i64 bad1, .int .i64 lock1] 36) := Blk.new _ _ _
      have HB5 : Hid (Below w0.heap.size w0 (w4.alloc (.cells #[.int .i64 me1, .int .i64 rev1, .int .i64 0, .int .i64 0, .int .u64 0, .int .i64 bad1, .int .i64 lock1] 36))) := HB4.out.alloc HB4.out.size _
      go_upto_region 18 with fail
      generalize w4.heap.size = g at *
      generalize (World.alloc w4 _) = W5 at *
      have HBD : Hid (Below w0.heap.size w0 W5.drew) := HB5.out.drew
      refine wp_region_held_drew (S := fun v => Blk v g #[.int .i64 me1, .int .i64 rev1, .int .i64 0, .int .i64 0, .int .u64 0, .int .i64 bad1, .int .i64 lock1] 36) (by kernel_rfl) (Blk.drew HG4.out 1) (fun hHeld => ?_)
      refine take_at 0 67 (.int .i64 0) _ rfl rfl (by kernel_rfl) (by kernel_rfl) (by kernel_rfl) (fun _ _ _ h => h) (Or.inl ⟨by rfl, fun v hv => by skip; clear hv; go_simp⟩) hHeld ?_
      simp only [Act.put, List.setIfInBounds_toArray, List.set_cons_zero, List.set_cons_succ]
      refine take_at 1 68 (.bool true) _ rfl rfl (by kernel_rfl) (by kernel_rfl) (by kernel_rfl) (fun _ _ _ h => h) (Or.inl ⟨by rfl, fun v hv => by skip; clear hv; go_simp⟩) hHeld ?_
      simp only [Act.put, List.setIfInBounds_toArray, List.set_cons_zero, List.set_cons_succ]
      refine take_at 2 69 (.bool true) _ rfl rfl (by kernel_rfl) (by kernel_rfl) (by kernel_rfl) (fun _ _ _ h => h) (Or.inl ⟨by rfl, fun v hv => by skip; clear hv; go_simp⟩) hHeld ?_
      simp only [Act.put, List.setIfInBounds_toArray, List.set_cons_zero, List.set_cons_succ]
      refine take_at 3 70 (.pointer (some ⟨g, 2, none⟩)) _ rfl rfl (by kernel_rfl) (by kernel_rfl) (by kernel_rfl) (fun _ _ _ h => h) (Or.inl ⟨by rfl, fun v hv => by skip; clear hv; go_simp⟩) hHeld ?_
      simp only [Act.put, List.setIfInBounds_toArray, List.set_cons_zero, List.set_cons_succ]
      refine take_at 4 71 (.int .i64 0) _ rfl rfl (by kernel_rfl) (by kernel_rfl) (by kernel_rfl) (fun _ _ _ h => h) (Or.inl ⟨by rfl, fun v hv => by have h2 := hv.cell 2; clear hv; go_simp⟩) hHeld ?_
      simp only [Act.put, List.setIfInBounds_toArray, List.set_cons_zero, List.set_cons_succ]
      refine take_at 5 72 (.bool true) _ rfl rfl (by kernel_rfl) (by kernel_rfl) (by kernel_rfl) (fun _ _ _ h => h) (Or.inl ⟨by rfl, fun v hv => by skip; clear hv; go_simp⟩) hHeld ?_
      simp only [Act.put, List.setIfInBounds_toArray, List.set_cons_zero, List.set_cons_succ]
      refine take_at 6 73 (.bool true) _ rfl rfl (by kernel_rfl) (by kernel_rfl) (by kernel_rfl) (fun _ _ _ h => h) (Or.inl ⟨by rfl, fun v hv => by skip; clear hv; go_simp⟩) hHeld ?_
      simp only [Act.put, List.setIfInBounds_toArray, List.set_cons_zero, List.set_cons_succ]
      refine take_at 7 74 (.bool true) _ rfl rfl (by kernel_rfl) (by kernel_rfl) (by kernel_rfl) (fun _ _ _ h => h) (Or.inl ⟨by rfl, fun v hv => by skip; clear hv; go_simp⟩) hHeld ?_
      simp only [Act.put, List.setIfInBounds_toArray, List.set_cons_zero, List.set_cons_succ]
      refine take_at 8 75 (.pointer (some ⟨g, 0, none⟩)) _ rfl rfl (by kernel_rfl) (by kernel_rfl) (by kernel_rfl) (fun _ _ _ h => h) (Or.inl ⟨by rfl, fun v hv => by skip; clear hv; go_simp⟩) hHeld ?_
      simp only [Act.put, List.setIfInBounds_toArray, List.set_cons_zero, List.set_cons_succ]
      refine take_at 9 76 (.int .i64 me1) _ rfl rfl (by kernel_rfl) (by kernel_rfl) (by kernel_rfl) (fun _ _ _ h => h) (Or.inl ⟨by rfl, fun v hv => by have h2 := hv.cell 0; clear hv; go_simp⟩) hHeld ?_
      simp only [Act.put, List.setIfInBounds_toArray, List.set_cons_zero, List.set_cons_succ]
      refine take_at 10 77 (.int .i64 me0) _ rfl rfl (by kernel_rfl) (by kernel_rfl) (by kernel_rfl) (fun _ _ _ h => h) (Or.inl ⟨by rfl, fun v hv => by skip; clear hv; go_simp⟩) hHeld ?_
      simp only [Act.put, List.setIfInBounds_toArray, List.set_cons_zero, List.set_cons_succ]
      refine call_at 11 78 (.int .i64 me1) _ rfl rfl (by kernel_rfl) (by kernel_rfl) (by kernel_rfl) (fun _ _ _ h => h) 6 #[.int .i64 me0, .int .i64 50] ⟨by rfl, fun v hv => by clear hv; go_simp⟩ (fun v _ => HP.out v) hHeld ?_
      simp only [Act.put, List.setIfInBounds_toArray, List.set_cons_zero, List.set_cons_succ]
      refine take_at 12 79 (.bool true) _ rfl rfl (by kernel_rfl) (by kernel_rfl) (by kernel_rfl) (fun _ _ _ h => h) (Or.inl ⟨by rfl, fun v hv => by skip; clear hv; go_simp⟩) hHeld ?_
      simp only [Act.put, List.setIfInBounds_toArray, List.set_cons_zero, List.set_cons_succ]
      refine take_at 13 80 (.bool true) _ rfl rfl (by kernel_rfl) (by kernel_rfl) (by kernel_rfl) (fun _ _ _ h => h) (Or.inl ⟨by rfl, fun v hv => by skip; clear hv; go_simp⟩) hHeld ?_
      simp only [Act.put, List.setIfInBounds_toArray, List.set_cons_zero, List.set_cons_succ]
      refine take_at 14 81 (.bool true) _ rfl rfl (by kernel_rfl) (by kernel_rfl) (by kernel_rfl) (fun _ _ _ h => h) (Or.inl ⟨by rfl, fun v hv => by skip; clear hv; go_simp⟩) hHeld ?_
      simp only [Act.put, List.setIfInBounds_toArray, List.set_cons_zero, List.set_cons_succ]
      refine take_at 15 82 (.pointer (some ⟨g, 3, none⟩)) _ rfl rfl (by kernel_rfl) (by kernel_rfl) (by kernel_rfl) (fun _ _ _ h => h) (Or.inl ⟨by rfl, fun v hv => by skip; clear hv; go_simp⟩) hHeld ?_
      simp only [Act.put, List.setIfInBounds_toArray, List.set_cons_zero, List.set_cons_succ]
      refine take_at 16 83 (.agg #[.int .i64 0, .int .u64 0]) _ rfl rfl (by kernel_rfl) (by kernel_rfl) (by kernel_rfl) (fun _ _ _ h => h) (Or.inl ⟨by rfl, fun v hv => by have h2 := hv.cell 3; have h3 := hv.cell 4; clear hv; go_simp⟩) hHeld ?_
      simp only [Act.put, List.setIfInBounds_toArray, List.set_cons_zero, List.set_cons_succ]
      refine take_at 17 84 (.agg #[.int .i64 0, .int .u64 0]) _ rfl rfl (by kernel_rfl) (by kernel_rfl) (by kernel_rfl) (fun _ _ _ h => h) (Or.inl ⟨by rfl, fun v hv => by skip; clear hv; go_simp⟩) hHeld ?_
      simp only [Act.put, List.setIfInBounds_toArray, List.set_cons_zero, List.set_cons_succ]
      refine take_at 18 85 (.bool true) _ rfl rfl (by kernel_rfl) (by kernel_rfl) (by kernel_rfl) (fun _ _ _ h => h) (Or.inl ⟨by rfl, fun v hv => by have hq := fun W => eqWd 9998 0 0 W; clear hv; go_simp⟩) hHeld ?_
      simp only [Act.put, List.setIfInBounds_toArray, List.set_cons_zero, List.set_cons_succ]
      refine take_at 19 86 (.bool true) _ rfl rfl (by kernel_rfl) (by kernel_rfl) (by kernel_rfl) (fun _ _ _ h => h) (Or.inl ⟨by rfl, fun v hv => by skip; clear hv; go_simp⟩) hHeld ?_
      simp only [Act.put, List.setIfInBounds_toArray, List.set_cons_zero, List.set_cons_succ]
      refine take_at 20 4 (.bool true) _ rfl rfl (by kernel_rfl) (by kernel_rfl) (by kernel_rfl) (fun _ _ _ h => h) (Or.inl ⟨by rfl, fun v hv => by skip; clear hv; go_simp⟩) hHeld ?_
      simp only [Act.put, List.setIfInBounds_toArray, List.set_cons_zero, List.set_cons_succ]
      refine wpAnyH_done (by kernel_rfl) ?_ _
      clear hHeld
      go_wp2_with fail
      go_ret
      exact ⟨rfl, HBD.out⟩
theorem forged_walk (me0 : Int) (a0 : Option Addr) (len0 cap0 : Nat) (zs : List ByteArray) (w : World) (ht : TTab w) (hme0 : (Lit.int .i64 me0).wf = true) (hrt : RowT w a0 len0 zs) :
    Calls Tryd.prog 4 #[.int .i64 me0, .slice a0 len0 cap0] w fun e w' => e = .returned (.bool true) ∧ Below w.heap.size w w' := by
  have hp : (pick me0 50).toNat < 50 := pick_toNat me0 50 (by decide)
  have hmb : 0 ≤ (((pick me0 50).toNat : Nat) : Int) ∧ (((pick me0 50).toNat : Nat) : Int) ≤ 49 := by omega
  refine forged_abs me0 (((pick me0 50).toNat : Nat) : Int) a0 len0 cap0 zs w hrt (fun W => picked_nat me0 50 W hme0 (by decide) (by decide)) (fun W => ?_) (fun W a c xs m tx hB hm hf => ?_) (fun W a c xs m m' b d ls hm hg hi hf => ?_) (fun W a c xs m hm => hboot a c xs m W hm)
  · refine (pmake _ W).mono ?_
    rintro e w' ⟨a, n, c, xs, f, rfl, hs, hi, hb⟩
    obtain ⟨rfl, rfl⟩ := hi.one (.inl ⟨hmb, rfl, rfl⟩)
    obtain rfl : n = 12 := hs.row.1.symm
    exact ⟨a, c, _, _, rfl, ⟨hs, mk_holds _, new_mw hmb⟩, Fo.new hmb, hb⟩
  · refine (pkeyed a 12 c xs none 0 0 [] tx W (ht.below hB) hm.sg.row hm.sg.le (holds_word hm.holds hm.mw) (RowP.nil _ _)).mono ?_
    rintro e w' ⟨b, n, d, ls, x, f, rfl, hg, hi, hb⟩
    obtain ⟨rfl, hor⟩ := forged hi hm.boot hf
    have hl := hg.row.1
    refine ⟨b, n, d, ls, f, rfl, hg, ?_, hb⟩
    rcases hor with h0 | ⟨h7, h12, h⟩
    · exact .inl (by omega)
    · exact .inr ⟨by omega, h12, h⟩
  · refine (happly a c xs m m' b 7 d 7 ls W hm hg hi hf.mw (Nat.le_refl _)).mono ?_
    rintro e w' ⟨a', c', xs', rfl, h1, _, hb⟩
    exact ⟨a', c', xs', rfl, h1 rfl, hb⟩

end Go.Proofs.YtgipkpkjoicehabDoor.pkt

/- The two tables of token, out of what a row says of them; raw numbers that came in. -/
namespace Go.Proofs.YtgipkpkjoicehabDoor.token
open Go.ChangeShapes Go.WideShapes Go.ChangeAt Go.RowKit Go.Deep
set_option maxRecDepth 100000

theorem laid_tail {P : Program} {x : String × DataW Unit} {rest : List (String × DataW Unit)} {W : World} (h : laidMet P (x :: rest) W) : laidMet P rest W := by
  obtain ⟨ps, ⟨g, t, cs, fuel, p, q, _, _, _, _, hrest, hps⟩, hnd, hcell⟩ := h
  subst hps
  exact ⟨q, hrest, (List.nodup_append.1 hnd).2.1, fun b off hm => hcell b off (List.mem_append_right _ hm)⟩
theorem ttab_of {W : World} {n1 n2 : String} (h1 : Tryd.prog.globalNamed n1 = some 0) (h2 : Tryd.prog.globalNamed n2 = some 1)
    (h : laidMet Tryd.prog [(n1, .agg [.agg [.lit (.int .i64 57), .lit (.int .i64 3)], .agg [.lit (.int .i64 37), .lit (.int .i64 20)], .agg [.lit (.int .i64 16), .lit (.int .i64 21)], .agg [.lit (.int .i64 0), .lit (.int .i64 16)]]),
      (n2, .agg [.agg [.lit (.int .i64 1), .lit (.int .i64 2097151)], .agg [.lit (.int .i64 0), .lit (.int .i64 0)], .agg [.lit (.int .i64 1), .lit (.int .i64 15)], .agg [.lit (.int .i64 0), .lit (.int .i64 0)]])] W) : TTab W :=
  ⟨eight_of h1 (by kernel_rfl) Tryd.underlying140 (by kernel_rfl) (by kernel_rfl) Tryd.underlying139 (by kernel_rfl) Tryd.underlying3 rfl rfl h,
   eight_of h2 (by kernel_rfl) Tryd.underlying143 (by kernel_rfl) (by kernel_rfl) Tryd.underlying142 (by kernel_rfl) Tryd.underlying3 rfl rfl (laid_tail h)⟩

end Go.Proofs.YtgipkpkjoicehabDoor.token
