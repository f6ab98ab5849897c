/- Five bad tries lock the keypad: the walk. -/
import Derived.Test.YtmpapnblpjnlmabDoorMjK
import Derived.Test.YtmpapnblpjnlmabDoorOpAt
import Derived.Test.YtmpapnblpjnlmabDoorMtLk
import Derived.Deep.DeepCutAuto
import Derived.Test.YtmpapnblpjnlmabDoorMjT
import Derived.Test.YtmpapnblpjnlmabDoorMjB
import Derived.Test.YtmpapnblpjnlmabDoorMtE
import Derived.Test.YtmpapnblpjnlmabDoorLetG
import Derived.Test.YtmpapnblpjnlmabDoorLetO
import Derived.Test.YtmpapnblpjnlmabDoorMtNew
import Derived.Test.YtmpapnblpjnlmabDoorMtSo
import Derived.Test.YtmpapnblpjnlmabDoorMtZ
namespace Go.Proofs.YtmpapnblpjnlmabDoor.met
open Go.RowKit Go.Proofs.YtmpapnblpjnlmabDoor.ora Go.Proofs.YtmpapnblpjnlmabDoor.token Go.Proofs.YtmpapnblpjnlmabDoor.check
set_option maxRecDepth 100000
set_option linter.unusedVariables false
set_option linter.unusedSimpArgs false

theorem wf_nat (k : Nat) (h : k < 5) : (Lit.int .i64 (k : Int)).wf = true := by
  obtain rfl | rfl | rfl | rfl | rfl : k = 0 ∨ k = 1 ∨ k = 2 ∨ k = 3 ∨ k = 4 := by omega
  all_goals decide
/-- While tokens are keyed in: the meter, the oracle, the token that was sold. -/
structure Lk (w wr : World) (gm go gt : Nat) (me bad lock : Int) (a : Option Addr) (n cap : Nat) (L : List Pr) (ti ta tt : Int) : Prop where
  m : Blk wr gm #[.int .i64 me, .int .i64 0, .int .i64 0, .int .i64 0, .int .u64 0, .int .i64 bad, .int .i64 lock] 30
  o : Blk wr go #[.slice a n cap] 34
  t : Blk wr gt #[.int .i64 0, .int .i64 ti, .int .i64 ta, .int .i64 tt] 35
  row : Came wr a n cap L
  bel : Below w.heap.size w wr
  low : w.heap.size ≤ gm
  mo : gm < go ∧ gm < gt
  far : ∀ yy, a = some yy → yy.block ≠ gm
  alive : Alive wr a
/-- A block that is none of these. -/
structure Fr (w : World) (gm go gt : Nat) (a : Option Addr) (g : Nat) : Prop where
  m : g ≠ gm
  o : g ≠ go
  t : g ≠ gt
  low : w.heap.size ≤ g
  far : ∀ yy, a = some yy → yy.block ≠ g
section
variable {w wr W : World} {gm go gt : Nat} {me bad lock : Int} {a : Option Addr} {n cap : Nat} {L : List Pr} {ti ta tt : Int}
theorem Lk.next (h : Lk w wr gm go gt me bad lock a n cap L ti ta tt) (hb : Below wr.heap.size wr W) : Lk w W gm go gt me bad lock a n cap L ti ta tt :=
  ⟨h.m.next hb, h.o.next hb, h.t.next hb, h.row.below hb, bel_step h.bel hb, h.low, h.mo, h.far, h.alive.below hb⟩
theorem Lk.alloc (h : Lk w wr gm go gt me bad lock a n cap L ti ta tt) (o : Obj) : Lk w (wr.alloc o) gm go gt me bad lock a n cap L ti ta tt := h.next ((Below.refl _ _).alloc (Nat.le_refl _) _)
theorem Lk.drew (h : Lk w wr gm go gt me bad lock a n cap L ti ta tt) (q : Nat) : Lk w (wr.drewN q) gm go gt me bad lock a n cap L ti ta tt := h.next (bel_drew (Below.refl _ _) q)
theorem Lk.fresh (h : Lk w wr gm go gt me bad lock a n cap L ti ta tt) : Fr w gm go gt a wr.heap.size := by
  have h1 := h.m.lt; have h2 := h.o.lt; have h3 := h.t.lt
  exact ⟨by omega, by omega, by omega, h.bel.size, fun yy hy => by have := h.alive yy hy; omega⟩
theorem Lk.upd {g : Nat} {cs : Array Value} {ty : TypeId} (h : Lk w wr gm go gt me bad lock a n cap L ti ta tt) (hf : Fr w gm go gt a g) (hu : Upd wr W g cs ty) : Lk w W gm go gt me bad lock a n cap L ti ta tt :=
  ⟨hu.keep h.m hf.m.symm, hu.keep h.o hf.o.symm, hu.keep h.t hf.t.symm, upd_came hu h.row hf.far, hu.bel _ _ hf.low h.bel, h.low, h.mo, h.far, fun y hy => by rw [hu.size]; exact h.alive y hy⟩
theorem Lk.set {bad' lock' : Int} (h : Lk w wr gm go gt me bad lock a n cap L ti ta tt) (hu : Upd wr W gm #[.int .i64 me, .int .i64 0, .int .i64 0, .int .i64 0, .int .u64 0, .int .i64 (bad'), .int .i64 (lock')] 30) : Lk w W gm go gt me bad' lock' a n cap L ti ta tt := by
  have hm := h.mo
  exact ⟨hu.blk, hu.keep h.o (by omega), hu.keep h.t (by omega), upd_came hu h.row h.far, hu.bel _ _ h.low h.bel, h.low, h.mo, h.far, fun y hy => by rw [hu.size]; exact h.alive y hy⟩
end
set_option maxHeartbeats 20000000 in
theorem locks_abs (me0 : Int) (a0 : Option Addr) (len0 cap0 : Nat) (zs : List Pr) (x0 x1 x2 x3 load me ld ti ta tt h1 : Int) (b1 : Nat) (bN lN : Nat → Int) (L : List Pr) (w : World) (g0 : 0 ≤ tt) (g1 : tt ≤ 65535) (hbl : ∀ j, (j < 4 → bN j = (j : Int) + 1 ∧ lN j = 0) ∧ (j = 4 → bN j = 0 ∧ lN j = 30)) (hrw : RowA w a0 len0 zs)
    (hp : ∀ W, Calls Tryd.prog 10 #[.int .i64 me0, .int .i64 50] W fun e w' => e = .returned (.int .i64 me) ∧ w' = W)
    (hbg : ∀ W, Below w.heap.size w W → Calls Tryd.prog 11 #[.int .i64 me] W fun e w' => e = .returned (.tuple #[.agg #[.int .i64 me, .int .i64 0, .int .i64 0, .int .i64 0, .int .u64 0, .int .i64 0, .int .i64 0], .int .i64 0]) ∧ Below W.heap.size W w')
    (hs : ∀ W, Below w.heap.size w W → Calls Tryd.prog 8 #[.agg #[.slice none 0 0], .agg #[.int .i64 me, .int .i64 0, .int .i64 0, .int .i64 0, .int .u64 0, .int .i64 0, .int .i64 0], .agg #[.int .i64 0, .int .i64 x1, .int .i64 x2, .int .i64 x3]] W fun e w' => ∃ a n cap, e = .returned (.tuple #[.agg #[.slice a n cap], .agg #[.int .i64 0, .int .i64 ti, .int .i64 ta, .int .i64 tt], .bool true]) ∧ Came w' a n cap L ∧ Alive w' a ∧ Near W none a ∧ Below W.heap.size W w')
    (hmk : ∀ y0 y1 y2 y3, wf4i y0 y1 y2 y3 → ∃ c0 kc ki ka kt, (∀ W, Calls Tryd.prog 10 #[.int .i64 y0, .int .i64 3] W fun e w' => e = .returned (.int .i64 c0) ∧ w' = W) ∧ (∀ W, Calls Tryd.prog 12 #[.agg #[.int .i64 c0, .int .i64 y1, .int .i64 y2, .int .i64 y3]] W fun e w' => e = .returned (.agg #[.int .i64 kc, .int .i64 ki, .int .i64 ka, .int .i64 kt]) ∧ Below W.heap.size W w') ∧ (∀ (j : Nat), j < 5 → ∀ tg, tg = (if kc = 0 ∧ ki = ti ∧ ka = ta then (tt + 1) % 65536 else kt) → ∀ W a n cap, Below w.heap.size w W → Came W a n cap L → Calls Tryd.prog 9 #[.agg #[.int .i64 me, .int .i64 0, .int .i64 0, .int .i64 0, .int .u64 0, .int .i64 (j : Int), .int .i64 0], .agg #[.slice a n cap], .agg #[.int .i64 kc, .int .i64 ki, .int .i64 ka, .int .i64 tg]] W fun e w' => e = .returned (.tuple #[.agg #[.int .i64 me, .int .i64 0, .int .i64 0, .int .i64 0, .int .u64 0, .int .i64 (bN j), .int .i64 (lN j)], .int .i64 0, .int .i64 12]) ∧ Below W.heap.size W w'))
    (hlk : ∀ lk, 0 < lk → lk ≤ 30 → ∀ W a n cap, Below w.heap.size w W → Came W a n cap L → Calls Tryd.prog 9 #[.agg #[.int .i64 me, .int .i64 0, .int .i64 0, .int .i64 0, .int .u64 0, .int .i64 0, .int .i64 lk], .agg #[.slice a n cap], .agg #[.int .i64 0, .int .i64 ti, .int .i64 ta, .int .i64 tt]] W fun e w' => e = .returned (.tuple #[.agg #[.int .i64 me, .int .i64 0, .int .i64 0, .int .i64 0, .int .u64 0, .int .i64 0, .int .i64 lk], .int .i64 0, .int .i64 10]) ∧ Below W.heap.size W w')
    (htk : ∀ lk, 0 < lk → lk ≤ 30 → ∀ W, Below w.heap.size w W → Calls Tryd.prog 13 #[.agg #[.int .i64 me, .int .i64 0, .int .i64 0, .int .i64 0, .int .u64 0, .int .i64 0, .int .i64 lk], .int .i64 ld] W fun e w' => e = .returned (.tuple #[.agg #[.int .i64 me, .int .i64 0, .int .i64 0, .int .i64 0, .int .u64 0, .int .i64 0, .int .i64 (lk - 1)], .int .i64 0, .int .i64 0]) ∧ Below W.heap.size W w')
    (hpl : ∀ W, Calls Tryd.prog 10 #[.int .i64 load, .int .i64 1001] W fun e w' => e = .returned (.int .i64 ld) ∧ w' = W)
    (hkf : ∀ W a n cap, Below w.heap.size w W → Came W a n cap L → Calls Tryd.prog 9 #[.agg #[.int .i64 me, .int .i64 0, .int .i64 0, .int .i64 0, .int .u64 0, .int .i64 0, .int .i64 0], .agg #[.slice a n cap], .agg #[.int .i64 0, .int .i64 ti, .int .i64 ta, .int .i64 tt]] W fun e w' => e = .returned (.tuple #[.agg #[.int .i64 me, .int .i64 0, .int .i64 ta, .int .i64 h1, .int .u64 (b1 : Int), .int .i64 0, .int .i64 0], .int .i64 ta, .int .i64 0]) ∧ Below W.heap.size W w')
    : Calls Tryd.prog 6 #[.int .i64 me0, .slice a0 len0 cap0, .agg #[.int .i64 x0, .int .i64 x1, .int .i64 x2, .int .i64 x3], .int .i64 load] w fun e w' => e = .returned (.bool true) ∧ Below w.heap.size w w' := by
  have HP : Hid (∀ W, Calls Tryd.prog 10 #[.int .i64 me0, .int .i64 50] W fun e w' => e = .returned (.int .i64 me) ∧ w' = W) := hp
  have HBG : Hid (∀ W, Below w.heap.size w W → Calls Tryd.prog 11 #[.int .i64 me] W fun e w' => e = .returned (.tuple #[.agg #[.int .i64 me, .int .i64 0, .int .i64 0, .int .i64 0, .int .u64 0, .int .i64 0, .int .i64 0], .int .i64 0]) ∧ Below W.heap.size W w') := hbg
  have HS : Hid (∀ W, Below w.heap.size w W → Calls Tryd.prog 8 #[.agg #[.slice none 0 0], .agg #[.int .i64 me, .int .i64 0, .int .i64 0, .int .i64 0, .int .u64 0, .int .i64 0, .int .i64 0], .agg #[.int .i64 0, .int .i64 x1, .int .i64 x2, .int .i64 x3]] W fun e w' => ∃ a n cap, e = .returned (.tuple #[.agg #[.slice a n cap], .agg #[.int .i64 0, .int .i64 ti, .int .i64 ta, .int .i64 tt], .bool true]) ∧ Came w' a n cap L ∧ Alive w' a ∧ Near W none a ∧ Below W.heap.size W w') := hs
  have HMK : Hid (∀ y0 y1 y2 y3, wf4i y0 y1 y2 y3 → ∃ c0 kc ki ka kt, (∀ W, Calls Tryd.prog 10 #[.int .i64 y0, .int .i64 3] W fun e w' => e = .returned (.int .i64 c0) ∧ w' = W) ∧ (∀ W, Calls Tryd.prog 12 #[.agg #[.int .i64 c0, .int .i64 y1, .int .i64 y2, .int .i64 y3]] W fun e w' => e = .returned (.agg #[.int .i64 kc, .int .i64 ki, .int .i64 ka, .int .i64 kt]) ∧ Below W.heap.size W w') ∧ (∀ (j : Nat), j < 5 → ∀ tg, tg = (if kc = 0 ∧ ki = ti ∧ ka = ta then (tt + 1) % 65536 else kt) → ∀ W a n cap, Below w.heap.size w W → Came W a n cap L → Calls Tryd.prog 9 #[.agg #[.int .i64 me, .int .i64 0, .int .i64 0, .int .i64 0, .int .u64 0, .int .i64 (j : Int), .int .i64 0], .agg #[.slice a n cap], .agg #[.int .i64 kc, .int .i64 ki, .int .i64 ka, .int .i64 tg]] W fun e w' => e = .returned (.tuple #[.agg #[.int .i64 me, .int .i64 0, .int .i64 0, .int .i64 0, .int .u64 0, .int .i64 (bN j), .int .i64 (lN j)], .int .i64 0, .int .i64 12]) ∧ Below W.heap.size W w')) := hmk
  have HLK : Hid (∀ lk, 0 < lk → lk ≤ 30 → ∀ W a n cap, Below w.heap.size w W → Came W a n cap L → Calls Tryd.prog 9 #[.agg #[.int .i64 me, .int .i64 0, .int .i64 0, .int .i64 0, .int .u64 0, .int .i64 0, .int .i64 lk], .agg #[.slice a n cap], .agg #[.int .i64 0, .int .i64 ti, .int .i64 ta, .int .i64 tt]] W fun e w' => e = .returned (.tuple #[.agg #[.int .i64 me, .int .i64 0, .int .i64 0, .int .i64 0, .int .u64 0, .int .i64 0, .int .i64 lk], .int .i64 0, .int .i64 10]) ∧ Below W.heap.size W w') := hlk
  have HTK : Hid (∀ lk, 0 < lk → lk ≤ 30 → ∀ W, Below w.heap.size w W → Calls Tryd.prog 13 #[.agg #[.int .i64 me, .int .i64 0, .int .i64 0, .int .i64 0, .int .u64 0, .int .i64 0, .int .i64 lk], .int .i64 ld] W fun e w' => e = .returned (.tuple #[.agg #[.int .i64 me, .int .i64 0, .int .i64 0, .int .i64 0, .int .u64 0, .int .i64 0, .int .i64 (lk - 1)], .int .i64 0, .int .i64 0]) ∧ Below W.heap.size W w') := htk
  have HPL : Hid (∀ W, Calls Tryd.prog 10 #[.int .i64 load, .int .i64 1001] W fun e w' => e = .returned (.int .i64 ld) ∧ w' = W) := hpl
  have HKF : Hid (∀ W a n cap, Below w.heap.size w W → Came W a n cap L → Calls Tryd.prog 9 #[.agg #[.int .i64 me, .int .i64 0, .int .i64 0, .int .i64 0, .int .u64 0, .int .i64 0, .int .i64 0], .agg #[.slice a n cap], .agg #[.int .i64 0, .int .i64 ti, .int .i64 ta, .int .i64 tt]] W fun e w' => e = .returned (.tuple #[.agg #[.int .i64 me, .int .i64 0, .int .i64 ta, .int .i64 h1, .int .u64 (b1 : Int), .int .i64 0, .int .i64 0], .int .i64 ta, .int .i64 0]) ∧ Below W.heap.size W w') := hkf
  have HBL : Hid (∀ j, (j < 4 → bN j = (j : Int) + 1 ∧ lN j = 0) ∧ (j = 4 → bN j = 0 ∧ lN j = 30)) := hbl
  have HRW : Hid (RowA w a0 len0 zs) := hrw
  clear hbl hrw hp hbg hs hmk hlk htk hpl hkf
  have H0x : Hid (Blk (w.alloc (.cells #[.int .i64 x0, .int .i64 x1, .int .i64 x2, .int .i64 x3] 25)) (w.heap.size) #[.int .i64 x0, .int .i64 x1, .int .i64 x2, .int .i64 x3] 25) := Blk.new w _ _
  have H0B : Hid (Below w.heap.size w (w.alloc (.cells #[.int .i64 x0, .int .i64 x1, .int .i64 x2, .int .i64 x3] 25))) := (Below.refl w.heap.size w).alloc (by simp) _
  go_enter Tryd.func6, Tryd.ntmps6
  go_wp2_with (first
    | (refine wp_whole rfl 25 _ rfl (w.heap.size) rfl 25 #[.int .i64 x0, .int .i64 x1, .int .i64 x2, .int .i64 x3] _ H0x.out Tryd.underlying25 rfl (by kernel_rfl) ?_)
    | (refine wp_wholeG (by rfl) 25 _ rfl (w.heap.size) rfl 25 #[.int .i64 x0, .int .i64 x1, .int .i64 x2, .int .i64 x3] _ H0x.out Tryd.underlying25 rfl (by kernel_rfl) ?_)
    | fail)
  refine (HP.out _).mono ?_
  rintro e w0x ⟨rfl, rfl⟩
  go_wp2_with (first
    | (refine wp_whole rfl 25 _ rfl (w.heap.size) rfl 25 #[.int .i64 x0, .int .i64 x1, .int .i64 x2, .int .i64 x3] _ H0x.out Tryd.underlying25 rfl (by kernel_rfl) ?_)
    | (refine wp_wholeG (by rfl) 25 _ rfl (w.heap.size) rfl 25 #[.int .i64 x0, .int .i64 x1, .int .i64 x2, .int .i64 x3] _ H0x.out Tryd.underlying25 rfl (by kernel_rfl) ?_)
    | fail)
  refine (HBG.out _ H0B.out).mono ?_
  rintro e w1 ⟨rfl, hb1⟩
  have H1x : Hid (Blk w1 (w.heap.size) #[.int .i64 x0, .int .i64 x1, .int .i64 x2, .int .i64 x3] 25) := H0x.out.next hb1
  have H1B : Hid (Below w.heap.size w w1) := bel_step H0B.out hb1
  have H2x : Hid (Blk (w1.alloc (.cells #[.int .i64 me, .int .i64 0, .int .i64 0, .int .i64 0, .int .u64 0, .int .i64 0, .int .i64 0] 30)) (w.heap.size) #[.int .i64 x0, .int .i64 x1, .int .i64 x2, .int .i64 x3] 25) := (H1x.out).alloc _
  have H2m : Hid (Blk (w1.alloc (.cells #[.int .i64 me, .int .i64 0, .int .i64 0, .int .i64 0, .int .u64 0, .int .i64 0, .int .i64 0] 30)) (w1.heap.size) #[.int .i64 me, .int .i64 0, .int .i64 0, .int .i64 0, .int .u64 0, .int .i64 0, .int .i64 0] 30) := (Blk.new w1 _ _)
  have L2mx : Hid (w.heap.size < w1.heap.size) := Nat.lt_of_lt_of_le H1x.out.lt (by simp)
  have H2B : Hid (Below w.heap.size w (w1.alloc (.cells #[.int .i64 me, .int .i64 0, .int .i64 0, .int .i64 0, .int .u64 0, .int .i64 0, .int .i64 0] 30))) := (H1B.out).alloc (Nat.le_trans H1B.out.size (by simp)) _
  have L20 : Hid (w.heap.size ≤ w1.heap.size) := H1B.out.size
  clear H0x H0B H1x H1B hb1 HP HBG
  go_wp2_with (first
    | (refine wp_let1 rfl 3 _ _ rfl (w.heap.size) 0 rfl .i64 0 rfl (by kernel_rfl) #[.int .i64 x0, .int .i64 x1, .int .i64 x2, .int .i64 x3] 25 H2x.out (by simp) ?_)
    | (refine wp_whole rfl 25 _ rfl (w.heap.size) rfl 25 #[.int .i64 x0, .int .i64 x1, .int .i64 x2, .int .i64 x3] _ H2x.out Tryd.underlying25 rfl (by kernel_rfl) ?_)
    | (refine wp_wholeG (by rfl) 25 _ rfl (w.heap.size) rfl 25 #[.int .i64 x0, .int .i64 x1, .int .i64 x2, .int .i64 x3] _ H2x.out Tryd.underlying25 rfl (by kernel_rfl) ?_)
    | (refine wp_whole rfl 30 _ rfl (w1.heap.size) rfl 30 #[.int .i64 me, .int .i64 0, .int .i64 0, .int .i64 0, .int .u64 0, .int .i64 0, .int .i64 0] _ H2m.out Tryd.underlying30 rfl (by kernel_rfl) ?_)
    | (refine wp_wholeG (by rfl) 30 _ rfl (w1.heap.size) rfl 30 #[.int .i64 me, .int .i64 0, .int .i64 0, .int .i64 0, .int .u64 0, .int .i64 0, .int .i64 0] _ H2m.out Tryd.underlying30 rfl (by kernel_rfl) ?_)
    | fail)
  intro W2 hU
  have hL2mx := L2mx.out
  have hL20 := L20.out
  have H3x : Hid (Blk W2 (w.heap.size) #[.int .i64 0, .int .i64 x1, .int .i64 x2, .int .i64 x3] 25) := hU.blk
  have H3m : Hid (Blk W2 (w1.heap.size) #[.int .i64 me, .int .i64 0, .int .i64 0, .int .i64 0, .int .u64 0, .int .i64 0, .int .i64 0] 30) := hU.keep H2m.out (by omega)
  have H3B : Hid (Below w.heap.size w W2) := hU.bel _ _ (by omega) H2B.out
  clear hU H2x H2m H2B hL2mx hL20 
  have HLTM : Hid (w1.heap.size < W2.heap.size) := H3m.out.lt
  go_wp2_with (first
    | (refine wp_whole rfl 25 _ rfl (w.heap.size) rfl 25 #[.int .i64 0, .int .i64 x1, .int .i64 x2, .int .i64 x3] _ H3x.out Tryd.underlying25 rfl (by kernel_rfl) ?_)
    | (refine wp_wholeG (by rfl) 25 _ rfl (w.heap.size) rfl 25 #[.int .i64 0, .int .i64 x1, .int .i64 x2, .int .i64 x3] _ H3x.out Tryd.underlying25 rfl (by kernel_rfl) ?_)
    | (refine wp_whole rfl 30 _ rfl (w1.heap.size) rfl 30 #[.int .i64 me, .int .i64 0, .int .i64 0, .int .i64 0, .int .u64 0, .int .i64 0, .int .i64 0] _ H3m.out Tryd.underlying30 rfl (by kernel_rfl) ?_)
    | (refine wp_wholeG (by rfl) 30 _ rfl (w1.heap.size) rfl 30 #[.int .i64 me, .int .i64 0, .int .i64 0, .int .i64 0, .int .u64 0, .int .i64 0, .int .i64 0] _ H3m.out Tryd.underlying30 rfl (by kernel_rfl) ?_)
    | fail)
  refine (HS.out _ H3B.out).mono ?_
  rintro e w3 ⟨a, n, cap, rfl, hc, hal, hnr, hb3⟩
  have H4x : Hid (Blk w3 (w.heap.size) #[.int .i64 0, .int .i64 x1, .int .i64 x2, .int .i64 x3] 25) := H3x.out.next hb3
  have H4m : Hid (Blk w3 (w1.heap.size) #[.int .i64 me, .int .i64 0, .int .i64 0, .int .i64 0, .int .u64 0, .int .i64 0, .int .i64 0] 30) := H3m.out.next hb3
  have H4B : Hid (Below w.heap.size w w3) := bel_step H3B.out hb3
  have HCo : Hid (Came w3 a n cap L) := hc
  have HFM : Hid (∀ yy, a = some yy → yy.block ≠ w1.heap.size) := fun yy hy => by
    have e1 := HLTM.out
    rcases hnr yy hy with h | ⟨zz, hz, _⟩
    · omega
    · cases hz
  have H5x : Hid (Blk ((w3.alloc (.cells #[.slice a n cap] 34)).alloc (.cells #[.int .i64 0, .int .i64 ti, .int .i64 ta, .int .i64 tt] 35)) (w.heap.size) #[.int .i64 0, .int .i64 x1, .int .i64 x2, .int .i64 x3] 25) := ((H4x.out).alloc _).alloc _
  have H5m : Hid (Blk ((w3.alloc (.cells #[.slice a n cap] 34)).alloc (.cells #[.int .i64 0, .int .i64 ti, .int .i64 ta, .int .i64 tt] 35)) (w1.heap.size) #[.int .i64 me, .int .i64 0, .int .i64 0, .int .i64 0, .int .u64 0, .int .i64 0, .int .i64 0] 30) := ((H4m.out).alloc _).alloc _
  have H5o : Hid (Blk ((w3.alloc (.cells #[.slice a n cap] 34)).alloc (.cells #[.int .i64 0, .int .i64 ti, .int .i64 ta, .int .i64 tt] 35)) (w3.heap.size) #[.slice a n cap] 34) := ((Blk.new w3 _ _)).alloc _
  have L5ox : Hid (w.heap.size < w3.heap.size) := Nat.lt_of_lt_of_le H4x.out.lt (by simp)
  have L5om : Hid (w1.heap.size < w3.heap.size) := Nat.lt_of_lt_of_le H4m.out.lt (by simp)
  have H5t : Hid (Blk ((w3.alloc (.cells #[.slice a n cap] 34)).alloc (.cells #[.int .i64 0, .int .i64 ti, .int .i64 ta, .int .i64 tt] 35)) (w3.heap.size + 1) #[.int .i64 0, .int .i64 ti, .int .i64 ta, .int .i64 tt] 35) := (Blk.new1 w3 _ _ _)
  have L5tx : Hid (w.heap.size < w3.heap.size + 1) := Nat.lt_of_lt_of_le H4x.out.lt (by simp)
  have L5tm : Hid (w1.heap.size < w3.heap.size + 1) := Nat.lt_of_lt_of_le H4m.out.lt (by simp)
  have H5B : Hid (Below w.heap.size w ((w3.alloc (.cells #[.slice a n cap] 34)).alloc (.cells #[.int .i64 0, .int .i64 ti, .int .i64 ta, .int .i64 tt] 35))) := ((H4B.out).alloc (Nat.le_trans H4B.out.size (by simp)) _).alloc (Nat.le_trans H4B.out.size (by simp)) _
  have L50 : Hid (w.heap.size ≤ w3.heap.size) := H4B.out.size
  have H5Co : Hid (Came ((w3.alloc (.cells #[.slice a n cap] 34)).alloc (.cells #[.int .i64 0, .int .i64 ti, .int .i64 ta, .int .i64 tt] 35)) a n cap L) := HCo.out.below (((Below.refl w3.heap.size w3).alloc (by simp) _).alloc (by simp) _)
  have HAV : Hid (Alive w3 a) := hal
  clear H3x H3m H3B H4x H4m HCo H4B hb3 HS hc hal hnr HLTM
  have HGG : Hid (w1.heap.size < w3.heap.size ∧ w.heap.size ≤ w1.heap.size) := ⟨L5om.out, L20.out⟩
  go_wp2_with (first
    | (refine wp_whole rfl 25 _ rfl (w.heap.size) rfl 25 #[.int .i64 0, .int .i64 x1, .int .i64 x2, .int .i64 x3] _ H5x.out Tryd.underlying25 rfl (by kernel_rfl) ?_)
    | (refine wp_wholeG (by rfl) 25 _ rfl (w.heap.size) rfl 25 #[.int .i64 0, .int .i64 x1, .int .i64 x2, .int .i64 x3] _ H5x.out Tryd.underlying25 rfl (by kernel_rfl) ?_)
    | (refine wp_whole rfl 30 _ rfl (w1.heap.size) rfl 30 #[.int .i64 me, .int .i64 0, .int .i64 0, .int .i64 0, .int .u64 0, .int .i64 0, .int .i64 0] _ H5m.out Tryd.underlying30 rfl (by kernel_rfl) ?_)
    | (refine wp_wholeG (by rfl) 30 _ rfl (w1.heap.size) rfl 30 #[.int .i64 me, .int .i64 0, .int .i64 0, .int .i64 0, .int .u64 0, .int .i64 0, .int .i64 0] _ H5m.out Tryd.underlying30 rfl (by kernel_rfl) ?_)
    | (refine wp_whole rfl 34 _ rfl (w3.heap.size) rfl 34 #[.slice a n cap] _ H5o.out Tryd.underlying34 rfl (by kernel_rfl) ?_)
    | (refine wp_wholeG (by rfl) 34 _ rfl (w3.heap.size) rfl 34 #[.slice a n cap] _ H5o.out Tryd.underlying34 rfl (by kernel_rfl) ?_)
    | (refine wp_whole rfl 35 _ rfl (w3.heap.size + 1) rfl 35 #[.int .i64 0, .int .i64 ti, .int .i64 ta, .int .i64 tt] _ H5t.out Tryd.underlying35 rfl (by kernel_rfl) ?_)
    | (refine wp_wholeG (by rfl) 35 _ rfl (w3.heap.size + 1) rfl 35 #[.int .i64 0, .int .i64 ti, .int .i64 ta, .int .i64 tt] _ H5t.out Tryd.underlying35 rfl (by kernel_rfl) ?_)
    | fail)
  have HI0 : Hid (Lk w ((w3.alloc (.cells #[.slice a n cap] 34)).alloc (.cells #[.int .i64 0, .int .i64 ti, .int .i64 ta, .int .i64 tt] 35)) (w1.heap.size) (w3.heap.size) (w3.heap.size + 1) me 0 0 a n cap L ti ta tt) := ⟨H5m.out, H5o.out, H5t.out, H5Co.out, H5B.out, L20.out, ⟨L5om.out, L5tm.out⟩, HFM.out, HAV.out.below (((Below.refl w3.heap.size w3).alloc (by simp) _).alloc (by simp) _)⟩
  clear H5x H5m H5o H5t H5Co H5B HAV HGG HFM L2mx L20 L5ox L5om L5tx L5tm L50
  generalize ((w3.alloc (.cells #[.slice a n cap] 34)).alloc (.cells #[.int .i64 0, .int .i64 ti, .int .i64 ta, .int .i64 tt] 35)) = W4 at *
  generalize w1.heap.size = gm at *
  generalize w3.heap.size + 1 = gt at *
  generalize w3.heap.size = go at *
  go_loopw [14] (fun v wr => ∃ (k : Nat) (bb ll : Int), v = .int .i64 (k : Int) ∧ k ≤ 5 ∧ (k < 5 → bb = (k : Int) ∧ ll = 0) ∧ (k = 5 → bb = 0 ∧ ll = 30) ∧ Lk w wr gm go gt me bb ll a n cap L ti ta tt) (fun v _ => 5 - (intOf v).toNat)
  case atStart => exact ⟨0, 0, 0, rfl, Nat.zero_le _, fun _ => ⟨rfl, rfl⟩, (fun h => by cases h), HI0.out⟩
  case round =>
    obtain ⟨k, bb, ll, rfl, hk, hb5, hb6, hinv⟩ := hrel
    clear HI0
    by_cases hlt : k < 5
    · obtain ⟨rfl, rfl⟩ := hb5 hlt
      clear hb5 hb6 hk HLK HTK HPL HKF
      have HI1 : Hid (Lk w (wr.alloc (.cells #[.int .i64 0, .int .i64 (k : Int), .int .i64 0, .int .i64 0] 25)) gm go gt me (k : Int) 0 a n cap L ti ta tt) := hinv.alloc _
      have HY1 : Hid (Blk (wr.alloc (.cells #[.int .i64 0, .int .i64 (k : Int), .int .i64 0, .int .i64 0] 25)) wr.heap.size #[.int .i64 0, .int .i64 (k : Int), .int .i64 0, .int .i64 0] 25) := Blk.new _ _ _
      have HF1 : Hid (Fr w gm go gt a wr.heap.size) := hinv.fresh
      clear hinv
      have hk5 : (k : Int) < 5 := by omega
      go_upto_if 60 with fail
      go_cut [15] (fun v15 wc => ∃ (gy : Nat) (y0 y1 y2 y3 : Int), v15 = .pointer (some ⟨gy, 0, none⟩) ∧ wf4i y0 y1 y2 y3 ∧ Blk wc gy #[.int .i64 y0, .int .i64 y1, .int .i64 y2, .int .i64 y3] 25 ∧ Fr w gm go gt a gy ∧ Lk w wc gm go gt me (k : Int) 0 a n cap L ti ta tt)
      case first =>
        clear HMK HBL
        by_cases hl : k < len0
        · obtain ⟨bl, off, rfl, hpr, hwp⟩ := HRW.out k hl
          have hwf : wf4i (zs.getD k pr0).m (zs.getD k pr0).r (zs.getD k pr0).b (zs.getD k pr0).t := ⟨hwp.1, hwp.2.1, hwp.2.2.1, hwp.2.2.2⟩
          obtain ⟨r0, r1, r2, r3⟩ := hpr.below HI1.out.bel
          have HWF : Hid (wf4i (zs.getD k pr0).m (zs.getD k pr0).r (zs.getD k pr0).b (zs.getD k pr0).t) := hwf
          clear hpr hwp hwf
          generalize (zs.getD k pr0).m = qu0 at *
          generalize (zs.getD k pr0).r = qu1 at *
          generalize (zs.getD k pr0).b = qu2 at *
          generalize (zs.getD k pr0).t = qu3 at *
          have hll : decide ((k : Int) < (len0 : Int)) = true := by simp; omega
          have hll2 : (k : Int) < (len0 : Int) := by omega
          go_wp2_with (first | (refine wp_letAll rfl 25 _ _ rfl (wr.heap.size) rfl #[.int .i64 qu0, .int .i64 qu1, .int .i64 qu2, .int .i64 qu3] rfl (by kernel_rfl) (by simp [Value.oneCell']) #[.int .i64 0, .int .i64 (k : Int), .int .i64 0, .int .i64 0] 25 HY1.out rfl ?_) | fail)
          intro W5 hU
          have HE : Hid (wf4i qu0 qu1 qu2 qu3 ∧ Blk W5 wr.heap.size #[.int .i64 qu0, .int .i64 qu1, .int .i64 qu2, .int .i64 qu3] 25 ∧ Fr w gm go gt a wr.heap.size ∧ Lk w W5 gm go gt me (k : Int) 0 a n cap L ti ta tt) := ⟨HWF.out, hU.blk, HF1.out, HI1.out.upd HF1.out hU⟩
          clear hU r0 r1 r2 r3 hll hll2
          go_wp2_with fail
          go_meet
          case rel => exact ⟨_, _, _, _, _, rfl, HE.out⟩
        · have hll : decide ((k : Int) < (len0 : Int)) = false := by simp; omega
          have HE : Hid (wf4i 0 (k : Int) 0 0 ∧ Blk (wr.alloc (.cells #[.int .i64 0, .int .i64 (k : Int), .int .i64 0, .int .i64 0] 25)) wr.heap.size #[.int .i64 0, .int .i64 (k : Int), .int .i64 0, .int .i64 0] 25 ∧ Fr w gm go gt a wr.heap.size ∧ Lk w (wr.alloc (.cells #[.int .i64 0, .int .i64 (k : Int), .int .i64 0, .int .i64 0] 25)) gm go gt me (k : Int) 0 a n cap L ti ta tt) := ⟨⟨by decide, wf_nat k hlt, by decide, by decide⟩, HY1.out, HF1.out, HI1.out⟩
          go_wp2_with fail
          go_meet
          case rel => exact ⟨_, _, _, _, _, rfl, HE.out⟩
      case rest =>
        obtain ⟨gy, y0, y1, y2, y3, rfl, hwf, hy2, hf2, hi2⟩ := hcut
        obtain ⟨c0, kc, ki, ka, kt, hpk, hmd, hkey⟩ := HMK.out y0 y1 y2 y3 hwf
        have HPK : Hid _ := hpk
        have HMD : Hid _ := hmd
        have HKEY : Hid _ := hkey
        have HY2 : Hid (Blk wc gy #[.int .i64 y0, .int .i64 y1, .int .i64 y2, .int .i64 y3] 25) := hy2
        have HF2 : Hid (Fr w gm go gt a gy) := hf2
        have HI2 : Hid (Lk w wc gm go gt me (k : Int) 0 a n cap L ti ta tt) := hi2
        clear hpk hmd hkey hwf hy2 hf2 hi2 HI1 HY1 HF1 HMK
        have z0 : wc.cell? ⟨gy, 0, none⟩ = some (.int .i64 y0) := HY2.out.cell 0
        go_wp2_with fail
        refine (HPK.out _).mono ?_
        rintro e w5 ⟨rfl, rfl⟩
        clear HPK z0
        go_wp2_with (first | (refine wp_let1 rfl 3 _ _ rfl (gy) 0 rfl .i64 c0 rfl (by kernel_rfl) #[.int .i64 y0, .int .i64 y1, .int .i64 y2, .int .i64 y3] 25 HY2.out (by simp) ?_) | fail)
        intro W6 hU
        have HY6 : Hid (Blk W6 gy #[.int .i64 c0, .int .i64 y1, .int .i64 y2, .int .i64 y3] 25) := hU.blk
        have HI6 : Hid (Lk w W6 gm go gt me (k : Int) 0 a n cap L ti ta tt) := HI2.out.upd HF2.out hU
        clear hU HY2 HI2 HF2
        go_wp2_with (first | (refine wp_whole rfl 25 _ rfl (gy) rfl 25 #[.int .i64 c0, .int .i64 y1, .int .i64 y2, .int .i64 y3] _ HY6.out Tryd.underlying25 rfl (by kernel_rfl) ?_) | fail)
        refine (HMD.out _).mono ?_
        rintro e w7 ⟨rfl, hb7⟩
        have HI7 : Hid (Lk w (w7.alloc (.cells #[.int .i64 kc, .int .i64 ki, .int .i64 ka, .int .i64 kt] 35)) gm go gt me (k : Int) 0 a n cap L ti ta tt) := (HI6.out.next hb7).alloc _
        have HV7 : Hid (Blk (w7.alloc (.cells #[.int .i64 kc, .int .i64 ki, .int .i64 ka, .int .i64 kt] 35)) w7.heap.size #[.int .i64 kc, .int .i64 ki, .int .i64 ka, .int .i64 kt] 35) := Blk.new _ _ _
        have HF7 : Hid (Fr w gm go gt a w7.heap.size) := (HI6.out.next hb7).fresh
        clear hb7 HY6 HI6 HMD
        go_upto_region 14 with fail
        generalize w7.heap.size = gv at *
        generalize (World.alloc w7 _) = W7 at *
        have v0 : W7.cell? ⟨gv, 0, none⟩ = some (.int .i64 kc) := HV7.out.cell 0
        have v1 : W7.cell? ⟨gv, 1, none⟩ = some (.int .i64 ki) := HV7.out.cell 1
        have v2 : W7.cell? ⟨gv, 2, none⟩ = some (.int .i64 ka) := HV7.out.cell 2
        have s1 : W7.cell? ⟨gt, 1, none⟩ = some (.int .i64 ti) := HI7.out.t.cell 1
        have s2 : W7.cell? ⟨gt, 2, none⟩ = some (.int .i64 ta) := HI7.out.t.cell 2
        have s3 : W7.cell? ⟨gt, 3, none⟩ = some (.int .i64 tt) := HI7.out.t.cell 3
        go_cut [87] (fun v87 wc => wc = W7 ∧ ∃ B : Bool, v87 = .bool B ∧ (B = true ↔ kc = 0 ∧ ki = ti ∧ ka = ta))
        case first =>
          clear HKEY HBL HRW HI7 HV7 HF7
          by_cases e1 : kc = 0
          · have t1 : (kc == 0) = true := by simp [e1]
            by_cases e2 : ki = ti
            · have t2 : (ki == ti) = true := by simp [e2]
              by_cases e3 : ka = ta
              · have t3 : (ka == ta) = true := by simp [e3]
                have HB : Hid (kc = 0 ∧ ki = ti ∧ ka = ta) := ⟨e1, e2, e3⟩
                clear e1 e2 e3
                go_wp2_with fail
                all_goals first
                  | (rename_i q1 q2; exact absurd q1 (by simp [undef]))
                  | (go_meet; case rel => exact ⟨by first | rfl | trivial, true, rfl, (fun _ => HB.out), fun _ => rfl⟩)
              · have t3 : (ka == ta) = false := by simp [e3]
                have HB : Hid (¬ (kc = 0 ∧ ki = ti ∧ ka = ta)) := fun h => e3 h.2.2
                clear e1 e2 e3
                go_wp2_with fail
                all_goals first
                  | (rename_i q1 q2; exact absurd q1 (by simp [undef]))
                  | (go_meet; case rel => exact ⟨by first | rfl | trivial, false, rfl, (fun h => by cases h), fun h => absurd h HB.out⟩)
            · have t2 : (ki == ti) = false := by simp [e2]
              have HB : Hid (¬ (kc = 0 ∧ ki = ti ∧ ka = ta)) := fun h => e2 h.2.1
              clear e1 e2
              go_wp2_with fail
              all_goals first
                | (rename_i q1 q2; exact absurd q1 (by simp [undef]))
                | (go_meet; case rel => exact ⟨by first | rfl | trivial, false, rfl, (fun h => by cases h), fun h => absurd h HB.out⟩)
          · have t1 : (kc == 0) = false := by simp [e1]
            have HB : Hid (¬ (kc = 0 ∧ ki = ti ∧ ka = ta)) := fun h => e1 h.1
            clear e1
            go_wp2_with fail
            all_goals first
              | (rename_i q1 q2; exact absurd q1 (by simp [undef]))
              | (go_meet; case rel => exact ⟨by first | rfl | trivial, false, rfl, (fun h => by cases h), fun h => absurd h HB.out⟩)
        case rest =>
          obtain ⟨rfl, B, rfl, hB⟩ := hcut
          have HB : Hid (B = true ↔ kc = 0 ∧ ki = ti ∧ ka = ta) := hB
          clear hB
          go_upto_if 87 with fail
          go_cut [16] (fun v16 wc => ∃ tg : Int, v16 = .pointer (some ⟨gv, 0, none⟩) ∧ tg = (if kc = 0 ∧ ki = ti ∧ ka = ta then (tt + 1) % 65536 else kt) ∧ Blk wc gv #[.int .i64 kc, .int .i64 ki, .int .i64 ka, .int .i64 tg] 35 ∧ Lk w wc gm go gt me (k : Int) 0 a n cap L ti ta tt)
          case first =>
            clear HKEY HBL HRW
            cases B with
            | true =>
              obtain ⟨tg, htg⟩ : ∃ tg, (tt + 1) % 65536 = tg := ⟨_, rfl⟩
              have HT : Hid (tg = (if kc = 0 ∧ ki = ti ∧ ka = ta then (tt + 1) % 65536 else kt)) := by show _ = _; rw [if_pos (HB.out.1 rfl)]; exact htg.symm
              clear HB
              have hrm : IntKind.i64.wrap ((tt + 1).tmod 65536) = tg := by rw [← htg, Int.tmod_eq_emod_of_nonneg (by omega), IntKind.wrap_i64]; omega
              have hrm2 : (tt + 1).tmod 65536 = tg := by rw [← htg, Int.tmod_eq_emod_of_nonneg (by omega)]
              have hwt : IntKind.i64.wrap (tt + 1) = tt + 1 := by rw [IntKind.wrap_i64]; omega
              clear htg
              go_wp2_with (first | (refine wp_let1 rfl 3 _ _ rfl (gv) 3 rfl .i64 tg rfl (by kernel_rfl) #[.int .i64 kc, .int .i64 ki, .int .i64 ka, .int .i64 kt] 35 HV7.out (by simp) ?_) | fail)
              intro W8 hU
              have HE : Hid (Blk W8 gv #[.int .i64 kc, .int .i64 ki, .int .i64 ka, .int .i64 tg] 35 ∧ Lk w W8 gm go gt me (k : Int) 0 a n cap L ti ta tt) := ⟨hU.blk, HI7.out.upd HF7.out hU⟩
              clear hU hrm hrm2 hwt
              go_wp2_with fail
              go_meet
              case rel => exact ⟨tg, rfl, HT.out, HE.out⟩
            | false =>
              have HT : Hid (kt = (if kc = 0 ∧ ki = ti ∧ ka = ta then (tt + 1) % 65536 else kt)) := by show _ = _; rw [if_neg (fun h => by have := HB.out.2 h; cases this)]
              clear HB
              go_wp2_with fail
              go_meet
              case rel => exact ⟨kt, rfl, HT.out, HV7.out, HI7.out⟩
          case rest =>
            obtain ⟨tg, rfl, htg, hv8, hi8⟩ := hcut
            have HKQ : Hid _ := HKEY.out k hlt tg htg
            have HV8 : Hid (Blk wc gv #[.int .i64 kc, .int .i64 ki, .int .i64 ka, .int .i64 tg] 35) := hv8
            have HI8 : Hid (Lk w wc gm go gt me (k : Int) 0 a n cap L ti ta tt) := hi8
            clear htg hv8 hi8 HKEY HB HV7 HI7 HF7 v0 v1 v2 s1 s2 s3
            have m6 : wc.cell? ⟨gm, 6, none⟩ = some (.int .i64 0) := HI8.out.m.cell 6
            have o0 : wc.cell? ⟨go, 0, none⟩ = some (.slice a n cap) := HI8.out.o.cell 0
            go_wp2_with (first | (refine wp_whole rfl 30 _ rfl (gm) rfl 30 #[.int .i64 me, .int .i64 0, .int .i64 0, .int .i64 0, .int .u64 0, .int .i64 (k : Int), .int .i64 0] _ HI8.out.m Tryd.underlying30 rfl (by kernel_rfl) ?_) | (refine wp_whole rfl 35 _ rfl (gv) rfl 35 #[.int .i64 kc, .int .i64 ki, .int .i64 ka, .int .i64 tg] _ HV8.out Tryd.underlying35 rfl (by kernel_rfl) ?_) | fail)
            refine (HKQ.out _ a n cap HI8.out.bel HI8.out.row).mono ?_
            rintro e w9 ⟨rfl, hb9⟩
            have HI9 : Hid (Lk w (w9.alloc (.cells #[.int .i64 me, .int .i64 0, .int .i64 0, .int .i64 0, .int .u64 0, .int .i64 (bN k), .int .i64 (lN k)] 30)) gm go gt me (k : Int) 0 a n cap L ti ta tt) := (HI8.out.next hb9).alloc _
            have HX9 : Hid (Blk (w9.alloc (.cells #[.int .i64 me, .int .i64 0, .int .i64 0, .int .i64 0, .int .u64 0, .int .i64 (bN k), .int .i64 (lN k)] 30)) w9.heap.size #[.int .i64 me, .int .i64 0, .int .i64 0, .int .i64 0, .int .u64 0, .int .i64 (bN k), .int .i64 (lN k)] 30) := Blk.new _ _ _
            clear hb9 m6 o0 HKQ HI8 HV8
            go_wp2_with (first | (refine wp_whole rfl 30 _ rfl (w9.heap.size) rfl 30 #[.int .i64 me, .int .i64 0, .int .i64 0, .int .i64 0, .int .u64 0, .int .i64 (bN k), .int .i64 (lN k)] _ HX9.out Tryd.underlying30 rfl (by kernel_rfl) ?_) | (refine wp_letAll rfl 30 _ _ rfl (gm) rfl #[.int .i64 me, .int .i64 0, .int .i64 0, .int .i64 0, .int .u64 0, .int .i64 (bN k), .int .i64 (lN k)] rfl (by kernel_rfl) (by simp [Value.oneCell']) #[.int .i64 me, .int .i64 0, .int .i64 0, .int .i64 0, .int .u64 0, .int .i64 (k : Int), .int .i64 0] 30 HI9.out.m rfl ?_) | fail)
            intro W10 hU
            have HIN : Hid (Lk w W10 gm go gt me (bN k) (lN k) a n cap L ti ta tt) := HI9.out.set hU
            clear hU HI9 HX9
            go_wp2_with fail
            go_roundw
            case rel => exact ⟨k + 1, bN k, lN k, by go_num, by omega, (fun h => ⟨((HBL.out k).1 (by omega)).1, ((HBL.out k).1 (by omega)).2⟩), (fun h => (HBL.out k).2 (by omega)), HIN.out⟩
            case measure => simp [intOf]; omega
    · obtain ⟨rfl, rfl⟩ := hb6 (by omega)
      have HJ0 : Hid (Lk w wr gm go gt me 0 30 a n cap L ti ta tt) := hinv
      have hd5 : decide ((k : Int) < 5) = false := by simp; omega
      clear hinv hb5 hb6 hlt hk HMK HBL HRW
      go_wp2_with fail
      go_loopw [20] (fun v vr => ∃ k2 : Nat, v = .int .i64 (k2 : Int) ∧ k2 ≤ 30 ∧ Lk w vr gm go gt me 0 (30 - (k2 : Int)) a n cap L ti ta tt) (fun v _ => 30 - (intOf v).toNat)
      case atStart => exact ⟨0, rfl, Nat.zero_le _, HJ0.out⟩
      case round =>
        obtain ⟨k2, rfl, hk2, hinv⟩ := hrel
        clear HJ0 hd5
        by_cases hlt : k2 < 30
        · obtain ⟨lk, hlk⟩ : ∃ lk : Int, 30 - (k2 : Int) = lk := ⟨_, rfl⟩
          rw [hlk] at hinv
          have h1l : 0 < lk := by omega
          have h2l : lk ≤ 30 := by omega
          have HLC : Hid (30 - ((k2 + 1 : Nat) : Int) = lk - 1) := by show _ = _; omega
          have HI : Hid (Lk w wr gm go gt me 0 lk a n cap L ti ta tt) := hinv
          have hd : decide ((k2 : Int) < 30) = true := by simp; omega
          have HLQ : Hid _ := HLK.out lk h1l h2l
          have HTQ : Hid _ := HTK.out lk h1l h2l
          have HQE : Hid (∀ W : World, (Op.equalIn 10000 30 (.agg #[.int .i64 me, .int .i64 0, .int .i64 0, .int .i64 0, .int .u64 0, .int .i64 0, .int .i64 lk]) (.agg #[.int .i64 me, .int .i64 0, .int .i64 0, .int .i64 0, .int .u64 0, .int .i64 0, .int .i64 lk])).run Tryd.prog W = .ok true W) := fun W => eqMt _ _ _ _ _ _ _ W
          clear hinv h1l h2l hlk
          have o0 : wr.cell? ⟨go, 0, none⟩ = some (.slice a n cap) := HI.out.o.cell 0
          go_wp2_with (first | (refine wp_whole rfl 30 _ rfl (gm) rfl 30 #[.int .i64 me, .int .i64 0, .int .i64 0, .int .i64 0, .int .u64 0, .int .i64 0, .int .i64 lk] _ HI.out.m Tryd.underlying30 rfl (by kernel_rfl) ?_) | (refine wp_whole rfl 35 _ rfl (gt) rfl 35 #[.int .i64 0, .int .i64 ti, .int .i64 ta, .int .i64 tt] _ HI.out.t Tryd.underlying35 rfl (by kernel_rfl) ?_) | fail)
          refine (HLQ.out _ a n cap HI.out.bel HI.out.row).mono ?_
          rintro e w9 ⟨rfl, hb9⟩
          have HI9 : Hid (Lk w (w9.alloc (.cells #[.int .i64 me, .int .i64 0, .int .i64 0, .int .i64 0, .int .u64 0, .int .i64 0, .int .i64 lk] 30)) gm go gt me 0 lk a n cap L ti ta tt) := (HI.out.next hb9).alloc _
          have HX9 : Hid (Blk (w9.alloc (.cells #[.int .i64 me, .int .i64 0, .int .i64 0, .int .i64 0, .int .u64 0, .int .i64 0, .int .i64 lk] 30)) w9.heap.size #[.int .i64 me, .int .i64 0, .int .i64 0, .int .i64 0, .int .u64 0, .int .i64 0, .int .i64 lk] 30) := Blk.new _ _ _
          clear hb9 o0 HLQ HI
          have hqe := HQE.out
          go_upto_region 28 with (first | (refine wp_wholeG (by rfl) 30 _ rfl (w9.heap.size) rfl 30 #[.int .i64 me, .int .i64 0, .int .i64 0, .int .i64 0, .int .u64 0, .int .i64 0, .int .i64 lk] _ HX9.out Tryd.underlying30 rfl (by kernel_rfl) ?_) | (refine wp_wholeG (by rfl) 30 _ rfl (gm) rfl 30 #[.int .i64 me, .int .i64 0, .int .i64 0, .int .i64 0, .int .u64 0, .int .i64 0, .int .i64 lk] _ HI9.out.m Tryd.underlying30 rfl (by kernel_rfl) ?_) | fail)
          clear hqe HQE HX9
          generalize (World.alloc w9 _) = V0 at *
          go_cut [24, 25, 26] (fun v24 v25 v26 wc => ∃ gx : Nat, v24 = .pointer (some ⟨gx, 0, none⟩) ∧ v25 = .int .i64 0 ∧ v26 = .int .i64 0 ∧ Blk wc gx #[.int .i64 me, .int .i64 0, .int .i64 0, .int .i64 0, .int .u64 0, .int .i64 0, .int .i64 (lk - 1)] 30 ∧ Lk w wc gm go gt me 0 lk a n cap L ti ta tt)
          case first =>
            have HV : Hid (Lk w V0.drew gm go gt me 0 lk a n cap L ti ta tt) := HI9.out.drew 1
            clear HLC HKF
            refine wp_region_held_drew (S := fun v => Blk v gm #[.int .i64 me, .int .i64 0, .int .i64 0, .int .i64 0, .int .u64 0, .int .i64 0, .int .i64 lk] 30) (by kernel_rfl) HV.out.m (fun hHeld => ?_)
            refine take_at 0 131 (.agg #[.int .i64 me, .int .i64 0, .int .i64 0, .int .i64 0, .int .u64 0, .int .i64 0, .int .i64 lk]) _ rfl rfl (by kernel_rfl) (by kernel_rfl) (by kernel_rfl) (fun _ _ _ h => h) (yieldsIf_whole (by rfl) 30 _ rfl gm rfl 30 #[.int .i64 me, .int .i64 0, .int .i64 0, .int .i64 0, .int .u64 0, .int .i64 0, .int .i64 lk] _ (fun v hv => hv) Tryd.underlying30 rfl (by kernel_rfl)) hHeld ?_
            simp only [Act.put, List.setIfInBounds_toArray, List.set_cons_zero, List.set_cons_succ]
            refine take_at 1 132 (.int .i64 load) _ rfl rfl (by kernel_rfl) (by kernel_rfl) (by kernel_rfl) (fun _ _ _ h => h) (Or.inl ⟨by rfl, fun v hv => by clear hv; go_simp⟩) hHeld ?_
            simp only [Act.put, List.setIfInBounds_toArray, List.set_cons_zero, List.set_cons_succ]
            refine call_at 2 133 (.int .i64 ld) _ rfl rfl (by kernel_rfl) (by kernel_rfl) (by kernel_rfl) (fun _ _ _ h => h) 10 #[.int .i64 load, .int .i64 1001] ⟨by rfl, fun v hv => by clear hv; go_simp⟩ (fun v _ => HPL.out v) hHeld ?_
            simp only [Act.put, List.setIfInBounds_toArray, List.set_cons_zero, List.set_cons_succ]
            generalize V0.drew = V at *
            refine wpAnyH_ready (rs := [3, 8]) (by kernel_rfl) (by simp) (AllReadyH.cons rfl (fun K hK => ?_) (AllReadyH.cons rfl (fun K hK => ?_) AllReadyH.nil))
            · rw [if_pos (by rfl)]
              refine wp_callOp 134 rfl (by clear hK; go_simp) (HTQ.out _ HV.out.bel) ?_
              rintro e w1x ⟨rfl, hb1⟩
              have HI1 : Hid (Lk w w1x gm go gt me 0 lk a n cap L ti ta tt) := HV.out.next hb1
              refine ⟨_, rfl, hK.out _ _ HI1.out.m (fun hHeld => ?_)⟩
              clear hK hb1 HTQ
              simp only [Act.put, List.setIfInBounds_toArray, List.set_cons_zero, List.set_cons_succ]
              refine take_at 4 130 (.tuple #[.agg #[.int .i64 me, .int .i64 0, .int .i64 0, .int .i64 0, .int .u64 0, .int .i64 0, .int .i64 (lk - 1)], .int .i64 0, .int .i64 0]) _ rfl rfl (by kernel_rfl) (by kernel_rfl) (by kernel_rfl) (fun _ _ _ h => h) (Or.inl ⟨by rfl, fun v hv => by clear hv; go_simp⟩) hHeld ?_
              simp only [Act.put, List.setIfInBounds_toArray, List.set_cons_zero, List.set_cons_succ]
              refine take_at 5 135 (.agg #[.int .i64 me, .int .i64 0, .int .i64 0, .int .i64 0, .int .u64 0, .int .i64 0, .int .i64 (lk - 1)]) _ rfl rfl (by kernel_rfl) (by kernel_rfl) (by kernel_rfl) (fun _ _ _ h => h) (Or.inl ⟨by rfl, fun v hv => by clear hv; go_simp⟩) hHeld ?_
              simp only [Act.put, List.setIfInBounds_toArray, List.set_cons_zero, List.set_cons_succ]
              refine take_at 6 136 (.int .i64 0) _ rfl rfl (by kernel_rfl) (by kernel_rfl) (by kernel_rfl) (fun _ _ _ h => h) (Or.inl ⟨by rfl, fun v hv => by clear hv; go_simp⟩) hHeld ?_
              simp only [Act.put, List.setIfInBounds_toArray, List.set_cons_zero, List.set_cons_succ]
              refine take_at 7 137 (.int .i64 0) _ rfl rfl (by kernel_rfl) (by kernel_rfl) (by kernel_rfl) (fun _ _ _ h => h) (Or.inl ⟨by rfl, fun v hv => by clear hv; go_simp⟩) hHeld ?_
              simp only [Act.put, List.setIfInBounds_toArray, List.set_cons_zero, List.set_cons_succ]
              have HI2 : Hid (Lk w (w1x.alloc (.cells #[.int .i64 0, .int .i64 0, .int .i64 0, .int .i64 0, .int .u64 0, .int .i64 0, .int .i64 0] 30)) gm go gt me 0 lk a n cap L ti ta tt) := HI1.out.alloc _
              have HG2 : Hid (Blk (w1x.alloc (.cells #[.int .i64 0, .int .i64 0, .int .i64 0, .int .i64 0, .int .u64 0, .int .i64 0, .int .i64 0] 30)) w1x.heap.size #[.int .i64 0, .int .i64 0, .int .i64 0, .int .i64 0, .int .u64 0, .int .i64 0, .int .i64 0] 30) := Blk.new _ _ _
              have HF2 : Hid (Fr w gm go gt a w1x.heap.size) := HI1.out.fresh
              refine wpAnyH_ready (rs := [8]) (by kernel_rfl) (by simp) (AllReadyH.cons rfl (fun K hK => ?_) AllReadyH.nil)
              rw [if_pos (by rfl)]
              refine wp_runOp (v := .pointer (some ⟨w1x.heap.size, 0, none⟩)) (w' := w1x.alloc (.cells #[.int .i64 0, .int .i64 0, .int .i64 0, .int .i64 0, .int .u64 0, .int .i64 0, .int .i64 0] 30)) 24 rfl (by clear hK; go_simp) ?_
              refine hK.out _ _ HI2.out.m (fun hHeld => ?_)
              clear hK
              simp only [Act.put, List.setIfInBounds_toArray, List.set_cons_zero, List.set_cons_succ]
              refine wpAnyH_ready (rs := [9]) (by kernel_rfl) (by simp) (AllReadyH.cons rfl (fun K hK => ?_) AllReadyH.nil)
              rw [if_pos (by rfl)]
              refine wp_letOp 30 _ _ rfl w1x.heap.size rfl #[.int .i64 me, .int .i64 0, .int .i64 0, .int .i64 0, .int .u64 0, .int .i64 0, .int .i64 (lk - 1)] rfl (by kernel_rfl) (by simp [Value.oneCell']) #[.int .i64 0, .int .i64 0, .int .i64 0, .int .i64 0, .int .u64 0, .int .i64 0, .int .i64 0] 30 HG2.out rfl rfl ?_
              intro W3 hU3
              have HI3 : Hid (Lk w W3 gm go gt me 0 lk a n cap L ti ta tt) := HI2.out.upd HF2.out hU3
              have HG3 : Hid (Blk W3 w1x.heap.size #[.int .i64 me, .int .i64 0, .int .i64 0, .int .i64 0, .int .u64 0, .int .i64 0, .int .i64 (lk - 1)] 30) := hU3.blk
              refine hK.out _ _ HI3.out.m (fun hHeld => ?_)
              clear hK hU3
              refine take_at 10 25 (.int .i64 0) _ rfl rfl (by kernel_rfl) (by kernel_rfl) (by kernel_rfl) (fun _ _ _ h => h) (Or.inl ⟨by rfl, fun v hv => by clear hv; go_simp⟩) hHeld ?_
              simp only [Act.put, List.setIfInBounds_toArray, List.set_cons_zero, List.set_cons_succ]
              refine take_at 11 26 (.int .i64 0) _ rfl rfl (by kernel_rfl) (by kernel_rfl) (by kernel_rfl) (fun _ _ _ h => h) (Or.inl ⟨by rfl, fun v hv => by clear hv; go_simp⟩) hHeld ?_
              simp only [Act.put, List.setIfInBounds_toArray, List.set_cons_zero, List.set_cons_succ]
              refine wpAnyH_done (by kernel_rfl) ?_ _
              clear hHeld
              go_wp2_with fail
              go_meet
              case rel => exact ⟨_, rfl, rfl, rfl, HG3.out, HI3.out⟩
            · rw [if_pos (by rfl)]
              have HI2 : Hid (Lk w (V.alloc (.cells #[.int .i64 0, .int .i64 0, .int .i64 0, .int .i64 0, .int .u64 0, .int .i64 0, .int .i64 0] 30)) gm go gt me 0 lk a n cap L ti ta tt) := HV.out.alloc _
              have HG2 : Hid (Blk (V.alloc (.cells #[.int .i64 0, .int .i64 0, .int .i64 0, .int .i64 0, .int .u64 0, .int .i64 0, .int .i64 0] 30)) V.heap.size #[.int .i64 0, .int .i64 0, .int .i64 0, .int .i64 0, .int .u64 0, .int .i64 0, .int .i64 0] 30) := Blk.new _ _ _
              have HF2 : Hid (Fr w gm go gt a V.heap.size) := HV.out.fresh
              refine wp_runOp (v := .pointer (some ⟨V.heap.size, 0, none⟩)) (w' := V.alloc (.cells #[.int .i64 0, .int .i64 0, .int .i64 0, .int .i64 0, .int .u64 0, .int .i64 0, .int .i64 0] 30)) 24 rfl (by clear hK; go_simp) ?_
              refine hK.out _ _ HI2.out.m (fun hHeld => ?_)
              clear hK
              simp only [Act.put, List.setIfInBounds_toArray, List.set_cons_zero, List.set_cons_succ]
              refine wpAnyH_ready (rs := [3]) (by kernel_rfl) (by simp) (AllReadyH.cons rfl (fun K hK => ?_) AllReadyH.nil)
              rw [if_pos (by rfl)]
              refine wp_callOp 134 rfl (by clear hK; go_simp) (HTQ.out _ HI2.out.bel) ?_
              rintro e w1x ⟨rfl, hb1⟩
              have HI1 : Hid (Lk w w1x gm go gt me 0 lk a n cap L ti ta tt) := HI2.out.next hb1
              have HG4 : Hid (Blk w1x V.heap.size #[.int .i64 0, .int .i64 0, .int .i64 0, .int .i64 0, .int .u64 0, .int .i64 0, .int .i64 0] 30) := HG2.out.next hb1
              refine ⟨_, rfl, hK.out _ _ HI1.out.m (fun hHeld => ?_)⟩
              clear hK hb1 HTQ
              simp only [Act.put, List.setIfInBounds_toArray, List.set_cons_zero, List.set_cons_succ]
              refine take_at 4 130 (.tuple #[.agg #[.int .i64 me, .int .i64 0, .int .i64 0, .int .i64 0, .int .u64 0, .int .i64 0, .int .i64 (lk - 1)], .int .i64 0, .int .i64 0]) _ rfl rfl (by kernel_rfl) (by kernel_rfl) (by kernel_rfl) (fun _ _ _ h => h) (Or.inl ⟨by rfl, fun v hv => by clear hv; go_simp⟩) hHeld ?_
              simp only [Act.put, List.setIfInBounds_toArray, List.set_cons_zero, List.set_cons_succ]
              refine take_at 5 135 (.agg #[.int .i64 me, .int .i64 0, .int .i64 0, .int .i64 0, .int .u64 0, .int .i64 0, .int .i64 (lk - 1)]) _ rfl rfl (by kernel_rfl) (by kernel_rfl) (by kernel_rfl) (fun _ _ _ h => h) (Or.inl ⟨by rfl, fun v hv => by clear hv; go_simp⟩) hHeld ?_
              simp only [Act.put, List.setIfInBounds_toArray, List.set_cons_zero, List.set_cons_succ]
              refine take_at 6 136 (.int .i64 0) _ rfl rfl (by kernel_rfl) (by kernel_rfl) (by kernel_rfl) (fun _ _ _ h => h) (Or.inl ⟨by rfl, fun v hv => by clear hv; go_simp⟩) hHeld ?_
              simp only [Act.put, List.setIfInBounds_toArray, List.set_cons_zero, List.set_cons_succ]
              refine take_at 7 137 (.int .i64 0) _ rfl rfl (by kernel_rfl) (by kernel_rfl) (by kernel_rfl) (fun _ _ _ h => h) (Or.inl ⟨by rfl, fun v hv => by clear hv; go_simp⟩) hHeld ?_
              simp only [Act.put, List.setIfInBounds_toArray, List.set_cons_zero, List.set_cons_succ]
              refine wpAnyH_ready (rs := [9]) (by kernel_rfl) (by simp) (AllReadyH.cons rfl (fun K hK => ?_) AllReadyH.nil)
              rw [if_pos (by rfl)]
              refine wp_letOp 30 _ _ rfl V.heap.size rfl #[.int .i64 me, .int .i64 0, .int .i64 0, .int .i64 0, .int .u64 0, .int .i64 0, .int .i64 (lk - 1)] rfl (by kernel_rfl) (by simp [Value.oneCell']) #[.int .i64 0, .int .i64 0, .int .i64 0, .int .i64 0, .int .u64 0, .int .i64 0, .int .i64 0] 30 HG4.out rfl rfl ?_
              intro W3 hU3
              have HI3 : Hid (Lk w W3 gm go gt me 0 lk a n cap L ti ta tt) := HI1.out.upd HF2.out hU3
              have HG3 : Hid (Blk W3 V.heap.size #[.int .i64 me, .int .i64 0, .int .i64 0, .int .i64 0, .int .u64 0, .int .i64 0, .int .i64 (lk - 1)] 30) := hU3.blk
              refine hK.out _ _ HI3.out.m (fun hHeld => ?_)
              clear hK hU3
              refine take_at 10 25 (.int .i64 0) _ rfl rfl (by kernel_rfl) (by kernel_rfl) (by kernel_rfl) (fun _ _ _ h => h) (Or.inl ⟨by rfl, fun v hv => by clear hv; go_simp⟩) hHeld ?_
              simp only [Act.put, List.setIfInBounds_toArray, List.set_cons_zero, List.set_cons_succ]
              refine take_at 11 26 (.int .i64 0) _ rfl rfl (by kernel_rfl) (by kernel_rfl) (by kernel_rfl) (fun _ _ _ h => h) (Or.inl ⟨by rfl, fun v hv => by clear hv; go_simp⟩) hHeld ?_
              simp only [Act.put, List.setIfInBounds_toArray, List.set_cons_zero, List.set_cons_succ]
              refine wpAnyH_done (by kernel_rfl) ?_ _
              clear hHeld
              go_wp2_with fail
              go_meet
              case rel => exact ⟨_, rfl, rfl, rfl, HG3.out, HI3.out⟩
          case rest =>
            obtain ⟨gx, rfl, rfl, rfl, hgx, hi2⟩ := hcut
            have HGX : Hid (Blk wc gx #[.int .i64 me, .int .i64 0, .int .i64 0, .int .i64 0, .int .u64 0, .int .i64 0, .int .i64 (lk - 1)] 30) := hgx
            have HI2 : Hid (Lk w wc gm go gt me 0 lk a n cap L ti ta tt) := hi2
            clear hgx hi2 HI9 HTQ
            go_wp2_with (first | (refine wp_whole rfl 30 _ rfl (gx) rfl 30 #[.int .i64 me, .int .i64 0, .int .i64 0, .int .i64 0, .int .u64 0, .int .i64 0, .int .i64 (lk - 1)] _ HGX.out Tryd.underlying30 rfl (by kernel_rfl) ?_) | (refine wp_letAll rfl 30 _ _ rfl (gm) rfl #[.int .i64 me, .int .i64 0, .int .i64 0, .int .i64 0, .int .u64 0, .int .i64 0, .int .i64 (lk - 1)] rfl (by kernel_rfl) (by simp [Value.oneCell']) #[.int .i64 me, .int .i64 0, .int .i64 0, .int .i64 0, .int .u64 0, .int .i64 0, .int .i64 lk] 30 HI2.out.m rfl ?_) | fail)
            intro W10 hU
            have HIN : Hid (Lk w W10 gm go gt me 0 (lk - 1) a n cap L ti ta tt) := HI2.out.set hU
            clear hU HI2 HGX
            go_wp2_with fail
            go_roundw
            case rel => exact ⟨k2 + 1, by go_num, by omega, by rw [HLC.out]; exact HIN.out⟩
            case measure => simp [intOf]; omega
        · have e30 : 30 - (k2 : Int) = 0 := by omega
          rw [e30] at hinv
          have HI : Hid (Lk w wr gm go gt me 0 0 a n cap L ti ta tt) := hinv
          have hd : decide ((k2 : Int) < 30) = false := by simp; omega
          clear hinv e30 HLK HTK HPL
          have o0 : wr.cell? ⟨go, 0, none⟩ = some (.slice a n cap) := HI.out.o.cell 0
          go_wp2_with (first | (refine wp_whole rfl 30 _ rfl (gm) rfl 30 #[.int .i64 me, .int .i64 0, .int .i64 0, .int .i64 0, .int .u64 0, .int .i64 0, .int .i64 0] _ HI.out.m Tryd.underlying30 rfl (by kernel_rfl) ?_) | (refine wp_whole rfl 35 _ rfl (gt) rfl 35 #[.int .i64 0, .int .i64 ti, .int .i64 ta, .int .i64 tt] _ HI.out.t Tryd.underlying35 rfl (by kernel_rfl) ?_) | fail)
          refine (HKF.out _ a n cap HI.out.bel HI.out.row).mono ?_
          rintro e w9 ⟨rfl, hb9⟩
          have HI9 : Hid (Lk w (w9.alloc (.cells #[.int .i64 me, .int .i64 0, .int .i64 ta, .int .i64 h1, .int .u64 (b1 : Int), .int .i64 0, .int .i64 0] 30)) gm go gt me 0 0 a n cap L ti ta tt) := (HI.out.next hb9).alloc _
          have HX9 : Hid (Blk (w9.alloc (.cells #[.int .i64 me, .int .i64 0, .int .i64 ta, .int .i64 h1, .int .u64 (b1 : Int), .int .i64 0, .int .i64 0] 30)) w9.heap.size #[.int .i64 me, .int .i64 0, .int .i64 ta, .int .i64 h1, .int .u64 (b1 : Int), .int .i64 0, .int .i64 0] 30) := Blk.new _ _ _
          clear hb9 o0 HKF HI
          have hta : (ta == ta) = true := beq_self_eq_true ta
          have n2 : (w9.alloc (.cells #[.int .i64 me, .int .i64 0, .int .i64 ta, .int .i64 h1, .int .u64 (b1 : Int), .int .i64 0, .int .i64 0] 30)).cell? ⟨w9.heap.size, 2, none⟩ = some (.int .i64 ta) := HX9.out.cell 2
          have t2 : (w9.alloc (.cells #[.int .i64 me, .int .i64 0, .int .i64 ta, .int .i64 h1, .int .u64 (b1 : Int), .int .i64 0, .int .i64 0] 30)).cell? ⟨gt, 2, none⟩ = some (.int .i64 ta) := HI9.out.t.cell 2
          go_wp2_with fail
          go_ret
          exact ⟨rfl, HI9.out.bel⟩

end Go.Proofs.YtmpapnblpjnlmabDoor.met
