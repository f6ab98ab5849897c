/- Whether a token was sold here, under the key of now or of before. -/
import Derived.Test.YtmpapnblpjnlmabDoorMpD
import Derived.Test.YtmpapnblpjnlmabDoorOrPv
import Derived.Test.YtmpapnblpjnlmabDoorOrD
namespace Go.Proofs.YtmpapnblpjnlmabDoor.met
open Go.RowKit Go.Proofs.YtmpapnblpjnlmabDoor.ora
set_option maxRecDepth 100000
set_option linter.unusedVariables false
set_option linter.unusedSimpArgs false

/-- While it is found out: the meter at work, and the box of the oracle. -/
structure Kn (w wr : World) (g : Nat) (m : Mt) (a : Option Addr) (n cap : Nat) (l : List Pr) : Prop where
  wk : Wk wr g m
  box : Blk wr w.heap.size #[.slice a n cap] 34
  row : RowP wr a n l
  bel : Below w.heap.size w wr
theorem Kn.next {w wr w' : World} {g : Nat} {m : Mt} {a : Option Addr} {n cap : Nat} {l : List Pr} (h : Kn w wr g m a n cap l) (hb : Below wr.heap.size wr w') : Kn w w' g m a n cap l := ⟨h.wk.next hb, h.box.next hb, h.row.below hb, bel_step h.bel hb⟩
theorem Kn.new {w : World} {g : Nat} {m : Mt} {a : Option Addr} {n : Nat} (cap : Nat) {l : List Pr} (hw : Wk w g m) (hr : RowP w a n l) : Kn w (w.alloc (.cells #[.slice a n cap] 34)) g m a n cap l := by
  have hb : Below w.heap.size w (w.alloc (.cells #[.slice a n cap] 34)) := (Below.refl _ _).alloc (Nat.le_refl _) _
  exact ⟨hw.alloc _, Blk.new _ _ _, hr.below hb, hb⟩
theorem Kn.drew {w wr : World} {g : Nat} {m : Mt} {a : Option Addr} {n cap : Nat} {l : List Pr} (h : Kn w wr g m a n cap l) (q : Nat) : Kn w (wr.drewN q) g m a n cap l := ⟨h.wk, h.box, h.row, bel_drew h.bel q⟩
theorem Kn.cells {w wr : World} {g n cap : Nat} {a : Option Addr} {l : List Pr} {me rev cr h : Int} {b : Nat} {bad lock : Int} (hk : Kn w wr g ⟨me, rev, cr, h, b, bad, lock⟩ a n cap l) : wr.cell? ⟨w.heap.size, 0, none⟩ = some (.slice a n cap) ∧ wr.cell? ⟨g, 0, none⟩ = some (.int .i64 me) ∧ wr.cell? ⟨g, 1, none⟩ = some (.int .i64 rev) :=
  ⟨hk.box.cell 0, Blk.cell hk.wk 0, Blk.cell hk.wk 1⟩
/-- What is found out. -/
def Know (w : World) (g : Nat) (m : Mt) (l : List Pr) (bo t : Int) (e : Ending) (w' : World) : Prop :=
  Chg w w' g ∧ ((Here l m.me m.rev bo t ∧ e = .returned (.int .i64 0) ∧ Wk w' g m) ∨ (¬ Here l m.me m.rev bo t ∧ Early l m.me m.rev bo t ∧ e = .returned (.int .i64 11) ∧ Wk w' g m) ∨ (¬ Here l m.me m.rev bo t ∧ ¬ Early l m.me m.rev bo t ∧ e = .returned (.int .i64 12) ∧ Wk w' g (badTry m)))
theorem not_early {l : List Pr} (hm : May l) {me rev bo t : Int} (h : ∀ k : Nat, (k : Int) < rev → ¬ Is l me (k : Int) bo t) : ¬ Early l me rev bo t := by
  rintro ⟨j, hj, h1, h2, h3, h4⟩
  have hp := (hm.each j hj).1.2.1
  refine h (l.getD j pr0).r.toNat (by omega) ?_
  rw [here_is hm]
  exact ⟨j, hj, h1, h2, h3, by omega⟩
set_option maxHeartbeats 2000000 in
theorem pknow (g : Nat) (m : Mt) (a : Option Addr) (n cap : Nat) (l : List Pr) (bo t : Int) (w : World) (hw : Wk w g m) (hr : RowP w a n l) (hl : May l) (hm : m.may) :
    Calls Tryd.prog 27 #[.pointer (some ⟨g, 0, none⟩), .agg #[.slice a n cap], .int .i64 bo, .int .i64 t] w fun e w' => Know w g m l bo t e w' := by
  have HV : Hid (∀ W r, RowP W a n l → Calls Tryd.prog 37 #[.agg #[.slice a n cap], .int .i64 m.me, .int .i64 r, .int .i64 bo, .int .i64 t] W fun e w' => ora.Told W (Is l m.me r bo t) e w') := fun W r h => pov a n cap l m.me r bo t W h
  have HBD : Hid (∀ W, Wk W g m → Calls Tryd.prog 38 #[.pointer (some ⟨g, 0, none⟩)] W fun e w' => e = .returned (.tuple #[]) ∧ Wk w' g (badTry m) ∧ Chg W w' g) := fun W h => pbad g m W h hm.bad
  have HHE : Hid (Is l m.me m.rev bo t ↔ Here l m.me m.rev bo t) := here_is hl m.me m.rev bo t
  have HEA : Hid (∀ k : Nat, (k : Int) < m.rev → Is l m.me (k : Int) bo t → Early l m.me m.rev bo t) := fun k hk h => (early_is hl m.me m.rev bo t).2 ⟨_, hk, h⟩
  have HNE : Hid ((∀ k : Nat, (k : Int) < m.rev → ¬ Is l m.me (k : Int) bo t) → ¬ Early l m.me m.rev bo t) := fun h => not_early hl h
  have HK0 : Hid (Kn w (w.alloc (.cells #[.slice a n cap] 34)) g m a n cap l) := Kn.new cap hw hr
  have hv0 := hm.rev
  clear hw hr hl hm
  obtain ⟨me, rev, cr, h, b, bad, lock⟩ := m
  simp only [] at HV HHE HEA HNE hv0
  have HV0 : Hid (Kn w (w.alloc (.cells #[.slice a n cap] 34)).drew g ⟨me, rev, cr, h, b, bad, lock⟩ a n cap l) := HK0.out.drew 1
  have KD : Hid ((w.alloc (.cells #[.slice a n cap] 34)).drew.cell? ⟨w.heap.size, 0, none⟩ = some (.slice a n cap) ∧ (w.alloc (.cells #[.slice a n cap] 34)).drew.cell? ⟨g, 0, none⟩ = some (.int .i64 me) ∧ (w.alloc (.cells #[.slice a n cap] 34)).drew.cell? ⟨g, 1, none⟩ = some (.int .i64 rev)) := HV0.out.cells
  go_enter Tryd.func27, Tryd.ntmps27
  go_wp2_with fail
  go_region_held_law (fun v => v.cell? ⟨w.heap.size, 0, none⟩ = some (.slice a n cap) ∧ v.cell? ⟨g, 0, none⟩ = some (.int .i64 me) ∧ v.cell? ⟨g, 1, none⟩ = some (.int .i64 rev))
    (first | with_reducible exact KD.out | with_reducible exact K1.out)
    (first
      | (go_at_call 37; refine (HV.out _ _ (by with_reducible exact HV0.out.row)).mono ?_; rintro e w1 ⟨r, rfl, hr, hb1⟩
         have HK1 : Hid (Kn w w1 g ⟨me, rev, cr, h, b, bad, lock⟩ a n cap l) := HV0.out.next hb1
         have K1 : Hid (w1.cell? ⟨w.heap.size, 0, none⟩ = some (.slice a n cap) ∧ w1.cell? ⟨g, 0, none⟩ = some (.int .i64 me) ∧ w1.cell? ⟨g, 1, none⟩ = some (.int .i64 rev)) := HK1.out.cells
         clear hb1))
  have HR : Hid (r = true ↔ Is l me rev bo t) := hr
  clear hr KD HV0 HK0
  cases r with
  | true =>
    have HF : Hid (Here l me rev bo t) := HHE.out.1 (HR.out.1 rfl)
    clear HR
    go_wp2_with fail
    go_ret
    exact ⟨.of HK1.out.bel, .inl ⟨HF.out, rfl, HK1.out.wk⟩⟩
  | false =>
    have HF : Hid (¬ Here l me rev bo t) := fun h => by have := HR.out.2 (HHE.out.2 h); cases this
    clear HR
    have c1 : w1.cell? ⟨g, 1, none⟩ = some (.int .i64 rev) := K1.out.2.2
    go_wp2_with fail
    clear c1 K1
    go_loopw [29] (fun j wr => ∃ k : Nat, j = .int .i64 (k : Int) ∧ (k : Int) ≤ rev ∧ Hid (∀ i : Nat, i < k → ¬ Is l me (i : Int) bo t) ∧ Kn w wr g ⟨me, rev, cr, h, b, bad, lock⟩ a n cap l) (fun j _ => (rev - intOf j).toNat)
    case atStart => exact ⟨0, rfl, hv0.1, (fun i hi => absurd hi (Nat.not_lt_zero _)), HK1.out⟩
    case round =>
      obtain ⟨k, rfl, hk, HN, hkn⟩ := hrel
      have HK : Hid (Kn w wr g ⟨me, rev, cr, h, b, bad, lock⟩ a n cap l) := hkn
      clear hkn HK1
      by_cases hlt : (k : Int) < rev
      · have hd : decide ((k : Int) < rev) = true := by simp [hlt]
        have HVr : Hid (Kn w wr.drew g ⟨me, rev, cr, h, b, bad, lock⟩ a n cap l) := HK.out.drew 1
        have KDr : Hid (wr.drew.cell? ⟨w.heap.size, 0, none⟩ = some (.slice a n cap) ∧ wr.drew.cell? ⟨g, 0, none⟩ = some (.int .i64 me) ∧ wr.drew.cell? ⟨g, 1, none⟩ = some (.int .i64 rev)) := HVr.out.cells
        go_wp2_with fail
        go_region_held_law (fun v => v.cell? ⟨w.heap.size, 0, none⟩ = some (.slice a n cap) ∧ v.cell? ⟨g, 0, none⟩ = some (.int .i64 me) ∧ v.cell? ⟨g, 1, none⟩ = some (.int .i64 rev))
          (first | with_reducible exact KDr.out | with_reducible exact K2.out)
          (first
            | (go_at_call 37; refine (HV.out _ _ (by with_reducible exact HVr.out.row)).mono ?_; rintro e w2 ⟨r, rfl, hr, hb2⟩
               have HK2 : Hid (Kn w w2 g ⟨me, rev, cr, h, b, bad, lock⟩ a n cap l) := HVr.out.next hb2
               have K2 : Hid (w2.cell? ⟨w.heap.size, 0, none⟩ = some (.slice a n cap) ∧ w2.cell? ⟨g, 0, none⟩ = some (.int .i64 me) ∧ w2.cell? ⟨g, 1, none⟩ = some (.int .i64 rev)) := HK2.out.cells
               clear hb2))
        have HR : Hid (r = true ↔ Is l me (k : Int) bo t) := hr
        clear hr KDr HVr HK K2
        cases r with
        | true =>
          have HE : Hid (Early l me rev bo t) := HEA.out k hlt (HR.out.1 rfl)
          clear HR hd
          go_wp2_with fail
          go_ret
          exact ⟨.of HK2.out.bel, .inr (.inl ⟨HF.out, HE.out, rfl, HK2.out.wk⟩)⟩
        | false =>
          have HNX : Hid (∀ i : Nat, i < k + 1 → ¬ Is l me (i : Int) bo t) := fun i hi h => by
            by_cases e : i = k
            · subst e; have := HR.out.2 h; cases this
            · exact HN.out i (by omega) h
          clear HR hd
          go_wp2_with fail
          go_roundw
          case rel => exact ⟨k + 1, by go_num, by omega, HNX, HK2.out⟩
          case measure => simp [intOf]; omega
      · have hd : decide ((k : Int) < rev) = false := by simp; omega
        have HE : Hid (¬ Early l me rev bo t) := HNE.out fun i hi => HN.out i (by omega)
        clear HN hlt hk
        go_wp2_with fail
        refine (HBD.out _ HK.out.wk).mono ?_
        rintro e w3 ⟨rfl, hw3, hc3⟩
        have HW3 : Hid (Wk w3 g (badTry ⟨me, rev, cr, h, b, bad, lock⟩)) := hw3
        have HC3 : Hid (Chg w w3 g) := (Chg.of HK.out.bel).trans hc3
        clear hw3 hc3
        go_wp2_with fail
        go_ret
        exact ⟨HC3.out, .inr (.inr ⟨HF.out, HE.out, rfl, HW3.out⟩)⟩

end Go.Proofs.YtmpapnblpjnlmabDoor.met
