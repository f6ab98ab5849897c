/- (*Int).QuoRem, whatever way the division goes. -/
import Derived.Test.YtmpjmcfgikmgnaaDoorBigSet
namespace Go.Proofs.YtmpjmcfgikmgnaaDoor.words
open Go.RowKit
set_option maxRecDepth 100000

/-- Every block that was there, but z and r, is as it was. -/
structure Ex2 (w w' : World) (z r : Nat) : Prop where
  os : w'.os = w.os
  tape : w'.tape = w.tape
  output : w'.output = w.output
  size : w.heap.size ≤ w'.heap.size
  block : ∀ k, k < w.heap.size → k ≠ z → k ≠ r → w'.heap[k]? = w.heap[k]?
theorem Ex2.of {w w1 w2 : World} {z r : Nat} (h : Ex w w1 z) (h' : Ex w1 w2 r) : Ex2 w w2 z r :=
  ⟨h'.os.trans h.os, h'.tape.trans h.tape, h'.output.trans h.output, Nat.le_trans h.size h'.size, fun k hk hz hr => (h'.block k (Nat.lt_of_lt_of_le hk h.size) hr).trans (h.block k hk hz)⟩
theorem Ob.ex {w w' : World} {z r : Nat} (h : Ob w r) (he : Ex w w' z) (hne : r ≠ z) : Ob w' r := by
  have hl := h.lt
  obtain ⟨s, a, n, c, h1⟩ := h
  exact ⟨s, a, n, c, by rw [he.block r hl hne]; exact h1⟩

/-- A quotient behind z and a rest behind r were given back. -/
def QuoPost (w : World) (z r q t : Nat) (e : Ending) (w' : World) : Prop := e = .returned (.tuple #[.pointer (some ⟨z, 0, none⟩), .pointer (some ⟨r, 0, none⟩)]) ∧ Bg w' z q ∧ Bg w' r t ∧ Ex2 w w' z r

set_option maxHeartbeats 2000000 in
theorem quo_of (z x y r q t : Nat) (xa ya : Option Addr) (xn xc yn yc : Nat) (w : World) (x0 : w.cell? ⟨x, 0, none⟩ = some (.bool false)) (x1 : w.cell? ⟨x, 1, none⟩ = some (.slice xa xn xc)) (y0 : w.cell? ⟨y, 0, none⟩ = some (.bool false)) (y1 : w.cell? ⟨y, 1, none⟩ = some (.slice ya yn yc))
    (hz : Ob w z) (hr : Ob w r) (hzr : r ≠ z) (hd : ∀ w', Below w.heap.size w w' → Calls Tryd.prog 70 #[.slice xa xn xc, .slice ya yn yc] w' fun e w'' => DivGives w' q t e w'') :
    Calls Tryd.prog 37 #[.pointer (some ⟨z, 0, none⟩), .pointer (some ⟨x, 0, none⟩), .pointer (some ⟨y, 0, none⟩), .pointer (some ⟨r, 0, none⟩)] w fun e w' => QuoPost w z r q t e w' := by
  have HD : Hid (∀ w', Below w.heap.size w w' → Calls Tryd.prog 70 #[.slice xa xn xc, .slice ya yn yc] w' fun e w'' => DivGives w' q t e w'') := hd
  have HZ : Hid (Ob w z ∧ Ob w r) := ⟨hz, hr⟩
  have hne : (false != false) = false := rfl
  have KW : Hid (∀ q, Below w.heap.size w (w.drewN q).drew) := fun q => (below_drewN (Below.refl _ w) q).drew
  have KS : Hid (∀ q, (w.drewN q).drew.cell? ⟨x, 1, none⟩ = some (.slice xa xn xc) ∧ (w.drewN q).drew.cell? ⟨y, 1, none⟩ = some (.slice ya yn yc)) := fun q => ⟨x1, y1⟩
  clear hz hr hd
  go_enter Tryd.func37, Tryd.ntmps37
  go_wp2_with fail
  go_quiet (fail)
  go_wp2_with fail
  go_region_held (fun v => v.cell? ⟨x, 1, none⟩ = some (.slice xa xn xc) ∧ v.cell? ⟨y, 1, none⟩ = some (.slice ya yn yc))
    (first | exact K1.out | exact KS.out _)
    (first
      | (go_at_call 70; refine (HD.out _ (KW.out _)).mono ?_; rintro e w1 ⟨qa, qn, qc, ta, tn, tc, rfl, hq, ht, hb⟩
         have B1 : Hid (Below w.heap.size w w1) := (KW.out _).trans (hb.mono (KW.out _).size)
         have K1 : Hid (w1.cell? ⟨x, 1, none⟩ = some (.slice xa xn xc) ∧ w1.cell? ⟨y, 1, none⟩ = some (.slice ya yn yc)) := ⟨cell_bel hb (KS.out _).1, cell_bel hb (KS.out _).2⟩
         have R1 : Hid (Ru w1 qa qn qc (dig q) ∧ Ru w1 ta tn tc (dig t)) := ⟨hq, ht⟩
         clear hb hq ht))
  all_goals
    go_wp2_with fail
    refine (give_any z _ _ _ _ (HZ.out.1.below B1.out)).mono ?_
    rintro e w2 ⟨rfl, h2, hex⟩
    have G2 : Hid (Bg w2 z q) := ⟨_, _, _, h2, R1.out.1.ex (HZ.out.1.below B1.out) hex⟩
    have T2 : Hid (Ru w2 ta tn tc (dig t)) := R1.out.2.ex (HZ.out.1.below B1.out) hex
    have O2 : Hid (Ob w2 r) := (HZ.out.2.below B1.out).ex hex hzr
    have E2 : Hid (Ex w w2 z) := Ex.of B1.out hex
    clear h2 hex
    go_wp2_with fail
    refine (give_any r _ _ _ _ O2.out).mono ?_
    rintro e w3 ⟨rfl, h3, hex3⟩
    have F3 : Hid (Bg w3 z q ∧ Bg w3 r t ∧ Ex2 w w3 z r) := ⟨G2.out.ex O2.out hex3 (Ne.symm hzr), ⟨_, _, _, h3, T2.out.ex O2.out hex3⟩, Ex2.of E2.out hex3⟩
    clear h3 hex3
    go_wp2_with fail
    refine bodyPost_ret (v := .tuple #[.pointer (some ⟨z, 0, none⟩), .pointer (some ⟨r, 0, none⟩)]) (by simp [results, Tryd.results37, go_sem]) rfl ⟨rfl, F3.out.1, F3.out.2.1, F3.out.2.2⟩

end Go.Proofs.YtmpjmcfgikmgnaaDoor.words
