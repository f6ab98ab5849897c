/- Behind a change of key: the walk. -/
import Derived.Test.YtmpapnblpjnlmacDoorMjK
import Derived.Test.YtmpapnblpjnlmacDoorMtE
import Derived.Test.YtmpapnblpjnlmacDoorLetG
import Derived.Test.YtmpapnblpjnlmacDoorLetO
import Derived.Test.YtmpapnblpjnlmacDoorMtNew
import Derived.Test.YtmpapnblpjnlmacDoorMtSo
import Derived.Test.YtmpapnblpjnlmacDoorMtZ
namespace Go.Proofs.YtmpapnblpjnlmacDoor.met
open Go.RowKit Go.Proofs.YtmpapnblpjnlmacDoor.ora Go.Proofs.YtmpapnblpjnlmacDoor.token Go.Proofs.YtmpapnblpjnlmacDoor.check
set_option maxRecDepth 100000
set_option linter.unusedVariables false
set_option linter.unusedSimpArgs false

set_option maxHeartbeats 20000000 in
theorem turns_abs (x0 x1 x2 x3 to y0 y1 y2 y3 z0 z1 z2 z3 p q0 r0 s q j oi oa ot fi fa ft ba bb bc s1 k1 h1 h2 : Int) (b1 b2 : Nat) (L1 L2 L3 : List Pr) (w : World) (g0 : 0 ≤ q) (g1 : q ≤ 14) (g2 : 0 ≤ j) (g3 : j ≤ 14)
    (hn : ∀ W, Calls Tryd.prog 5 #[.agg #[.int .i64 x0, .int .i64 x1, .int .i64 x2, .int .i64 x3]] W fun e w' => e = .returned (.agg #[.int .i64 p, .int .i64 q0, .int .i64 r0, .int .i64 0, .int .u64 0, .int .i64 s, .int .i64 0]) ∧ Below W.heap.size W w')
    (hp : ∀ W, Calls Tryd.prog 6 #[.int .i64 x1, .int .i64 15] W fun e w' => e = .returned (.int .i64 q) ∧ w' = W)
    (hj : ∀ W, Calls Tryd.prog 6 #[.int .i64 to, .int .i64 (15 - q)] W fun e w' => e = .returned (.int .i64 j) ∧ w' = W)
    (hmx : ∀ W, Calls Tryd.prog 9 #[.agg #[.int .i64 0, .int .i64 y1, .int .i64 y2, .int .i64 y3]] W fun e w' => e = .returned (.agg #[.int .i64 0, .int .i64 oi, .int .i64 oa, .int .i64 ot]) ∧ Below W.heap.size W w')
    (hmy : ∀ W, Calls Tryd.prog 9 #[.agg #[.int .i64 0, .int .i64 z1, .int .i64 z2, .int .i64 z3]] W fun e w' => e = .returned (.agg #[.int .i64 0, .int .i64 fi, .int .i64 fa, .int .i64 ft]) ∧ Below W.heap.size W w')
    (hbo : ∀ W, Below w.heap.size w W → Calls Tryd.prog 10 #[.agg #[.int .i64 0, .int .i64 2, .int .i64 oa, .int .i64 ot]] W fun e w' => e = .returned (.tuple #[.int .i64 ba, .int .i64 0]) ∧ Below W.heap.size W w')
    (hbc : ∀ W, Below w.heap.size w W → Calls Tryd.prog 10 #[.agg #[.int .i64 2, .int .i64 1, .int .i64 (q + 1 + j), .int .i64 0]] W fun e w' => e = .returned (.tuple #[.int .i64 bb, .int .i64 0]) ∧ Below W.heap.size W w')
    (hbf : ∀ W, Below w.heap.size w W → Calls Tryd.prog 10 #[.agg #[.int .i64 0, .int .i64 3, .int .i64 fa, .int .i64 ft]] W fun e w' => e = .returned (.tuple #[.int .i64 bc, .int .i64 0]) ∧ Below W.heap.size W w')
    (hi1 : ∀ W, Below w.heap.size w W → Calls Tryd.prog 11 #[.agg #[.slice none 0 0], .int .i64 p, .int .i64 q, .int .i64 ba, .int .i64 ot] W fun e w' => ∃ a' n' cap', e = .returned (.tuple #[.agg #[.slice a' n' cap'], .int .i64 ot, .int .i64 0]) ∧ Came w' a' n' cap' L1 ∧ Alive w' a' ∧ Near W none a' ∧ Below W.heap.size W w')
    (hi2 : ∀ W a n cap, Below w.heap.size w W → Came W a n cap L1 → Alive W a → Calls Tryd.prog 11 #[.agg #[.slice a n cap], .int .i64 p, .int .i64 q, .int .i64 bb, .int .i64 5] W fun e w' => ∃ a' n' cap', e = .returned (.tuple #[.agg #[.slice a' n' cap'], .int .i64 5, .int .i64 0]) ∧ Came w' a' n' cap' L2 ∧ Alive w' a' ∧ Near W a a' ∧ Below W.heap.size W w')
    (hi3 : ∀ W a n cap, Below w.heap.size w W → Came W a n cap L2 → Alive W a → Calls Tryd.prog 11 #[.agg #[.slice a n cap], .int .i64 p, .int .i64 (q + 1 + j), .int .i64 bc, .int .i64 ft] W fun e w' => ∃ a' n' cap', e = .returned (.tuple #[.agg #[.slice a' n' cap'], .int .i64 ft, .int .i64 0]) ∧ Came w' a' n' cap' L3 ∧ Alive w' a' ∧ Near W a a' ∧ Below W.heap.size W w')
    (hk1 : ∀ W a n cap, Below w.heap.size w W → Came W a n cap L3 → Calls Tryd.prog 8 #[.agg #[.int .i64 p, .int .i64 q, .int .i64 0, .int .i64 0, .int .u64 0, .int .i64 s, .int .i64 0], .agg #[.slice a n cap], .agg #[.int .i64 0, .int .i64 3, .int .i64 fa, .int .i64 ft]] W fun e w' => e = .returned (.tuple #[.agg #[.int .i64 p, .int .i64 q, .int .i64 0, .int .i64 0, .int .u64 0, .int .i64 s1, .int .i64 k1], .int .i64 0, .int .i64 12]) ∧ Below W.heap.size W w')
    (hk2 : ∀ W a n cap, Below w.heap.size w W → Came W a n cap L3 → Calls Tryd.prog 8 #[.agg #[.int .i64 p, .int .i64 q, .int .i64 0, .int .i64 0, .int .u64 0, .int .i64 s, .int .i64 0], .agg #[.slice a n cap], .agg #[.int .i64 2, .int .i64 1, .int .i64 (q + 1 + j), .int .i64 5]] W fun e w' => e = .returned (.tuple #[.agg #[.int .i64 p, .int .i64 (q + 1 + j), .int .i64 0, .int .i64 h1, .int .u64 (b1 : Int), .int .i64 0, .int .i64 0], .int .i64 0, .int .i64 0]) ∧ Below W.heap.size W w')
    (hk3 : ∀ W a n cap, Below w.heap.size w W → Came W a n cap L3 → Calls Tryd.prog 8 #[.agg #[.int .i64 p, .int .i64 (q + 1 + j), .int .i64 0, .int .i64 h1, .int .u64 (b1 : Int), .int .i64 0, .int .i64 0], .agg #[.slice a n cap], .agg #[.int .i64 0, .int .i64 2, .int .i64 oa, .int .i64 ot]] W fun e w' => e = .returned (.tuple #[.agg #[.int .i64 p, .int .i64 (q + 1 + j), .int .i64 0, .int .i64 h1, .int .u64 (b1 : Int), .int .i64 0, .int .i64 0], .int .i64 0, .int .i64 11]) ∧ Below W.heap.size W w')
    (hk4 : ∀ W a n cap, Below w.heap.size w W → Came W a n cap L3 → Calls Tryd.prog 8 #[.agg #[.int .i64 p, .int .i64 (q + 1 + j), .int .i64 0, .int .i64 h1, .int .u64 (b1 : Int), .int .i64 0, .int .i64 0], .agg #[.slice a n cap], .agg #[.int .i64 0, .int .i64 3, .int .i64 fa, .int .i64 ft]] W fun e w' => e = .returned (.tuple #[.agg #[.int .i64 p, .int .i64 (q + 1 + j), .int .i64 fa, .int .i64 h2, .int .u64 (b2 : Int), .int .i64 0, .int .i64 0], .int .i64 fa, .int .i64 0]) ∧ Below W.heap.size W w')
    : Calls Tryd.prog 4 #[.agg #[.int .i64 x0, .int .i64 x1, .int .i64 x2, .int .i64 x3], .int .i64 to, .agg #[.int .i64 y0, .int .i64 y1, .int .i64 y2, .int .i64 y3], .agg #[.int .i64 z0, .int .i64 z1, .int .i64 z2, .int .i64 z3]] w fun e w' => e = .returned (.bool true) ∧ Below w.heap.size w w' := by
  have HN : Hid (∀ W, Calls Tryd.prog 5 #[.agg #[.int .i64 x0, .int .i64 x1, .int .i64 x2, .int .i64 x3]] W fun e w' => e = .returned (.agg #[.int .i64 p, .int .i64 q0, .int .i64 r0, .int .i64 0, .int .u64 0, .int .i64 s, .int .i64 0]) ∧ Below W.heap.size W w') := hn
  have HP : Hid (∀ W, Calls Tryd.prog 6 #[.int .i64 x1, .int .i64 15] W fun e w' => e = .returned (.int .i64 q) ∧ w' = W) := hp
  have HJ : Hid (∀ W, Calls Tryd.prog 6 #[.int .i64 to, .int .i64 (15 - q)] W fun e w' => e = .returned (.int .i64 j) ∧ w' = W) := hj
  have HMX : Hid (∀ W, Calls Tryd.prog 9 #[.agg #[.int .i64 0, .int .i64 y1, .int .i64 y2, .int .i64 y3]] W fun e w' => e = .returned (.agg #[.int .i64 0, .int .i64 oi, .int .i64 oa, .int .i64 ot]) ∧ Below W.heap.size W w') := hmx
  have HMY : Hid (∀ W, Calls Tryd.prog 9 #[.agg #[.int .i64 0, .int .i64 z1, .int .i64 z2, .int .i64 z3]] W fun e w' => e = .returned (.agg #[.int .i64 0, .int .i64 fi, .int .i64 fa, .int .i64 ft]) ∧ Below W.heap.size W w') := hmy
  have HBO : Hid (∀ W, Below w.heap.size w W → Calls Tryd.prog 10 #[.agg #[.int .i64 0, .int .i64 2, .int .i64 oa, .int .i64 ot]] W fun e w' => e = .returned (.tuple #[.int .i64 ba, .int .i64 0]) ∧ Below W.heap.size W w') := hbo
  have HBC : Hid (∀ W, Below w.heap.size w W → Calls Tryd.prog 10 #[.agg #[.int .i64 2, .int .i64 1, .int .i64 (q + 1 + j), .int .i64 0]] W fun e w' => e = .returned (.tuple #[.int .i64 bb, .int .i64 0]) ∧ Below W.heap.size W w') := hbc
  have HBF : Hid (∀ W, Below w.heap.size w W → Calls Tryd.prog 10 #[.agg #[.int .i64 0, .int .i64 3, .int .i64 fa, .int .i64 ft]] W fun e w' => e = .returned (.tuple #[.int .i64 bc, .int .i64 0]) ∧ Below W.heap.size W w') := hbf
  have HI1 : Hid (∀ W, Below w.heap.size w W → Calls Tryd.prog 11 #[.agg #[.slice none 0 0], .int .i64 p, .int .i64 q, .int .i64 ba, .int .i64 ot] W fun e w' => ∃ a' n' cap', e = .returned (.tuple #[.agg #[.slice a' n' cap'], .int .i64 ot, .int .i64 0]) ∧ Came w' a' n' cap' L1 ∧ Alive w' a' ∧ Near W none a' ∧ Below W.heap.size W w') := hi1
  have HI2 : Hid (∀ W a n cap, Below w.heap.size w W → Came W a n cap L1 → Alive W a → Calls Tryd.prog 11 #[.agg #[.slice a n cap], .int .i64 p, .int .i64 q, .int .i64 bb, .int .i64 5] W fun e w' => ∃ a' n' cap', e = .returned (.tuple #[.agg #[.slice a' n' cap'], .int .i64 5, .int .i64 0]) ∧ Came w' a' n' cap' L2 ∧ Alive w' a' ∧ Near W a a' ∧ Below W.heap.size W w') := hi2
  have HI3 : Hid (∀ W a n cap, Below w.heap.size w W → Came W a n cap L2 → Alive W a → Calls Tryd.prog 11 #[.agg #[.slice a n cap], .int .i64 p, .int .i64 (q + 1 + j), .int .i64 bc, .int .i64 ft] W fun e w' => ∃ a' n' cap', e = .returned (.tuple #[.agg #[.slice a' n' cap'], .int .i64 ft, .int .i64 0]) ∧ Came w' a' n' cap' L3 ∧ Alive w' a' ∧ Near W a a' ∧ Below W.heap.size W w') := hi3
  have HK1 : Hid (∀ W a n cap, Below w.heap.size w W → Came W a n cap L3 → Calls Tryd.prog 8 #[.agg #[.int .i64 p, .int .i64 q, .int .i64 0, .int .i64 0, .int .u64 0, .int .i64 s, .int .i64 0], .agg #[.slice a n cap], .agg #[.int .i64 0, .int .i64 3, .int .i64 fa, .int .i64 ft]] W fun e w' => e = .returned (.tuple #[.agg #[.int .i64 p, .int .i64 q, .int .i64 0, .int .i64 0, .int .u64 0, .int .i64 s1, .int .i64 k1], .int .i64 0, .int .i64 12]) ∧ Below W.heap.size W w') := hk1
  have HK2 : Hid (∀ W a n cap, Below w.heap.size w W → Came W a n cap L3 → Calls Tryd.prog 8 #[.agg #[.int .i64 p, .int .i64 q, .int .i64 0, .int .i64 0, .int .u64 0, .int .i64 s, .int .i64 0], .agg #[.slice a n cap], .agg #[.int .i64 2, .int .i64 1, .int .i64 (q + 1 + j), .int .i64 5]] W fun e w' => e = .returned (.tuple #[.agg #[.int .i64 p, .int .i64 (q + 1 + j), .int .i64 0, .int .i64 h1, .int .u64 (b1 : Int), .int .i64 0, .int .i64 0], .int .i64 0, .int .i64 0]) ∧ Below W.heap.size W w') := hk2
  have HK3 : Hid (∀ W a n cap, Below w.heap.size w W → Came W a n cap L3 → Calls Tryd.prog 8 #[.agg #[.int .i64 p, .int .i64 (q + 1 + j), .int .i64 0, .int .i64 h1, .int .u64 (b1 : Int), .int .i64 0, .int .i64 0], .agg #[.slice a n cap], .agg #[.int .i64 0, .int .i64 2, .int .i64 oa, .int .i64 ot]] W fun e w' => e = .returned (.tuple #[.agg #[.int .i64 p, .int .i64 (q + 1 + j), .int .i64 0, .int .i64 h1, .int .u64 (b1 : Int), .int .i64 0, .int .i64 0], .int .i64 0, .int .i64 11]) ∧ Below W.heap.size W w') := hk3
  have HK4 : Hid (∀ W a n cap, Below w.heap.size w W → Came W a n cap L3 → Calls Tryd.prog 8 #[.agg #[.int .i64 p, .int .i64 (q + 1 + j), .int .i64 0, .int .i64 h1, .int .u64 (b1 : Int), .int .i64 0, .int .i64 0], .agg #[.slice a n cap], .agg #[.int .i64 0, .int .i64 3, .int .i64 fa, .int .i64 ft]] W fun e w' => e = .returned (.tuple #[.agg #[.int .i64 p, .int .i64 (q + 1 + j), .int .i64 fa, .int .i64 h2, .int .u64 (b2 : Int), .int .i64 0, .int .i64 0], .int .i64 fa, .int .i64 0]) ∧ Below W.heap.size W w') := hk4
  clear hn hp hj hmx hmy hbo hbc hbf hi1 hi2 hi3 hk1 hk2 hk3 hk4
  have H0n : Hid (Blk (((w.alloc (.cells #[.int .i64 x0, .int .i64 x1, .int .i64 x2, .int .i64 x3] 23)).alloc (.cells #[.int .i64 y0, .int .i64 y1, .int .i64 y2, .int .i64 y3] 25)).alloc (.cells #[.int .i64 z0, .int .i64 z1, .int .i64 z2, .int .i64 z3] 25)) (w.heap.size) #[.int .i64 x0, .int .i64 x1, .int .i64 x2, .int .i64 x3] 23) := ((Blk.new w _ _).alloc _).alloc _
  have H0x : Hid (Blk (((w.alloc (.cells #[.int .i64 x0, .int .i64 x1, .int .i64 x2, .int .i64 x3] 23)).alloc (.cells #[.int .i64 y0, .int .i64 y1, .int .i64 y2, .int .i64 y3] 25)).alloc (.cells #[.int .i64 z0, .int .i64 z1, .int .i64 z2, .int .i64 z3] 25)) (w.heap.size + 1) #[.int .i64 y0, .int .i64 y1, .int .i64 y2, .int .i64 y3] 25) := (Blk.new1 w _ _ _).alloc _
  have H0y : Hid (Blk (((w.alloc (.cells #[.int .i64 x0, .int .i64 x1, .int .i64 x2, .int .i64 x3] 23)).alloc (.cells #[.int .i64 y0, .int .i64 y1, .int .i64 y2, .int .i64 y3] 25)).alloc (.cells #[.int .i64 z0, .int .i64 z1, .int .i64 z2, .int .i64 z3] 25)) (w.heap.size + 2) #[.int .i64 z0, .int .i64 z1, .int .i64 z2, .int .i64 z3] 25) := Blk.new2 w _ _ _ _
  have H0B : Hid (Below w.heap.size w (((w.alloc (.cells #[.int .i64 x0, .int .i64 x1, .int .i64 x2, .int .i64 x3] 23)).alloc (.cells #[.int .i64 y0, .int .i64 y1, .int .i64 y2, .int .i64 y3] 25)).alloc (.cells #[.int .i64 z0, .int .i64 z1, .int .i64 z2, .int .i64 z3] 25))) := (((Below.refl w.heap.size w).alloc (by simp) _).alloc (by simp) _).alloc (by simp; omega) _
  go_enter Tryd.func4, Tryd.ntmps4
  go_wp2_with (first
    | (refine wp_whole rfl 23 _ rfl (w.heap.size) rfl 23 #[.int .i64 x0, .int .i64 x1, .int .i64 x2, .int .i64 x3] _ H0n.out Tryd.underlying23 rfl (by kernel_rfl) ?_)
    | (refine wp_wholeG (by rfl) 23 _ rfl (w.heap.size) rfl 23 #[.int .i64 x0, .int .i64 x1, .int .i64 x2, .int .i64 x3] _ H0n.out Tryd.underlying23 rfl (by kernel_rfl) ?_)
    | (refine wp_whole rfl 25 _ rfl (w.heap.size + 1) rfl 25 #[.int .i64 y0, .int .i64 y1, .int .i64 y2, .int .i64 y3] _ H0x.out Tryd.underlying25 rfl (by kernel_rfl) ?_)
    | (refine wp_wholeG (by rfl) 25 _ rfl (w.heap.size + 1) rfl 25 #[.int .i64 y0, .int .i64 y1, .int .i64 y2, .int .i64 y3] _ H0x.out Tryd.underlying25 rfl (by kernel_rfl) ?_)
    | (refine wp_whole rfl 25 _ rfl (w.heap.size + 2) rfl 25 #[.int .i64 z0, .int .i64 z1, .int .i64 z2, .int .i64 z3] _ H0y.out Tryd.underlying25 rfl (by kernel_rfl) ?_)
    | (refine wp_wholeG (by rfl) 25 _ rfl (w.heap.size + 2) rfl 25 #[.int .i64 z0, .int .i64 z1, .int .i64 z2, .int .i64 z3] _ H0y.out Tryd.underlying25 rfl (by kernel_rfl) ?_)
    | fail)
  refine (HN.out _).mono ?_
  rintro e w1 ⟨rfl, hb1⟩
  have H1n : Hid (Blk w1 (w.heap.size) #[.int .i64 x0, .int .i64 x1, .int .i64 x2, .int .i64 x3] 23) := H0n.out.next hb1
  have H1x : Hid (Blk w1 (w.heap.size + 1) #[.int .i64 y0, .int .i64 y1, .int .i64 y2, .int .i64 y3] 25) := H0x.out.next hb1
  have H1y : Hid (Blk w1 (w.heap.size + 2) #[.int .i64 z0, .int .i64 z1, .int .i64 z2, .int .i64 z3] 25) := H0y.out.next hb1
  have H1B : Hid (Below w.heap.size w w1) := bel_step H0B.out hb1
  have H2n : Hid (Blk (w1.alloc (.cells #[.int .i64 p, .int .i64 q0, .int .i64 r0, .int .i64 0, .int .u64 0, .int .i64 s, .int .i64 0] 30)) (w.heap.size) #[.int .i64 x0, .int .i64 x1, .int .i64 x2, .int .i64 x3] 23) := (H1n.out).alloc _
  have H2x : Hid (Blk (w1.alloc (.cells #[.int .i64 p, .int .i64 q0, .int .i64 r0, .int .i64 0, .int .u64 0, .int .i64 s, .int .i64 0] 30)) (w.heap.size + 1) #[.int .i64 y0, .int .i64 y1, .int .i64 y2, .int .i64 y3] 25) := (H1x.out).alloc _
  have H2y : Hid (Blk (w1.alloc (.cells #[.int .i64 p, .int .i64 q0, .int .i64 r0, .int .i64 0, .int .u64 0, .int .i64 s, .int .i64 0] 30)) (w.heap.size + 2) #[.int .i64 z0, .int .i64 z1, .int .i64 z2, .int .i64 z3] 25) := (H1y.out).alloc _
  have H2m : Hid (Blk (w1.alloc (.cells #[.int .i64 p, .int .i64 q0, .int .i64 r0, .int .i64 0, .int .u64 0, .int .i64 s, .int .i64 0] 30)) (w1.heap.size) #[.int .i64 p, .int .i64 q0, .int .i64 r0, .int .i64 0, .int .u64 0, .int .i64 s, .int .i64 0] 30) := (Blk.new w1 _ _)
  have L2mn : Hid (w.heap.size < w1.heap.size) := Nat.lt_of_lt_of_le H1n.out.lt (by simp)
  have L2mx : Hid (w.heap.size + 1 < w1.heap.size) := Nat.lt_of_lt_of_le H1x.out.lt (by simp)
  have L2my : Hid (w.heap.size + 2 < w1.heap.size) := Nat.lt_of_lt_of_le H1y.out.lt (by simp)
  have H2B : Hid (Below w.heap.size w (w1.alloc (.cells #[.int .i64 p, .int .i64 q0, .int .i64 r0, .int .i64 0, .int .u64 0, .int .i64 s, .int .i64 0] 30))) := (H1B.out).alloc (Nat.le_trans H1B.out.size (by simp)) _
  have L20 : Hid (w.heap.size ≤ w1.heap.size) := H1B.out.size
  clear H0n H0x H0y H0B H1n H1x H1y H1B hb1 HN
  have q_n_1 : (w1.alloc (.cells #[.int .i64 p, .int .i64 q0, .int .i64 r0, .int .i64 0, .int .u64 0, .int .i64 s, .int .i64 0] 30)).cell? ⟨w.heap.size, 1, none⟩ = some (.int .i64 x1) := H2n.out.cell 1
  go_wp2_with (first
    | (refine wp_whole rfl 23 _ rfl (w.heap.size) rfl 23 #[.int .i64 x0, .int .i64 x1, .int .i64 x2, .int .i64 x3] _ H2n.out Tryd.underlying23 rfl (by kernel_rfl) ?_)
    | (refine wp_wholeG (by rfl) 23 _ rfl (w.heap.size) rfl 23 #[.int .i64 x0, .int .i64 x1, .int .i64 x2, .int .i64 x3] _ H2n.out Tryd.underlying23 rfl (by kernel_rfl) ?_)
    | (refine wp_whole rfl 25 _ rfl (w.heap.size + 1) rfl 25 #[.int .i64 y0, .int .i64 y1, .int .i64 y2, .int .i64 y3] _ H2x.out Tryd.underlying25 rfl (by kernel_rfl) ?_)
    | (refine wp_wholeG (by rfl) 25 _ rfl (w.heap.size + 1) rfl 25 #[.int .i64 y0, .int .i64 y1, .int .i64 y2, .int .i64 y3] _ H2x.out Tryd.underlying25 rfl (by kernel_rfl) ?_)
    | (refine wp_whole rfl 25 _ rfl (w.heap.size + 2) rfl 25 #[.int .i64 z0, .int .i64 z1, .int .i64 z2, .int .i64 z3] _ H2y.out Tryd.underlying25 rfl (by kernel_rfl) ?_)
    | (refine wp_wholeG (by rfl) 25 _ rfl (w.heap.size + 2) rfl 25 #[.int .i64 z0, .int .i64 z1, .int .i64 z2, .int .i64 z3] _ H2y.out Tryd.underlying25 rfl (by kernel_rfl) ?_)
    | (refine wp_whole rfl 30 _ rfl (w1.heap.size) rfl 30 #[.int .i64 p, .int .i64 q0, .int .i64 r0, .int .i64 0, .int .u64 0, .int .i64 s, .int .i64 0] _ H2m.out Tryd.underlying30 rfl (by kernel_rfl) ?_)
    | (refine wp_wholeG (by rfl) 30 _ rfl (w1.heap.size) rfl 30 #[.int .i64 p, .int .i64 q0, .int .i64 r0, .int .i64 0, .int .u64 0, .int .i64 s, .int .i64 0] _ H2m.out Tryd.underlying30 rfl (by kernel_rfl) ?_)
    | fail)
  refine (HP.out _).mono ?_
  rintro e w1x ⟨rfl, rfl⟩
  clear q_n_1 HP
  go_wp2_with (first
    | (refine wp_let1 rfl 3 _ _ rfl (w1.heap.size) 1 rfl .i64 q rfl (by kernel_rfl) #[.int .i64 p, .int .i64 q0, .int .i64 r0, .int .i64 0, .int .u64 0, .int .i64 s, .int .i64 0] 30 H2m.out (by simp) ?_)
    | (refine wp_whole rfl 23 _ rfl (w.heap.size) rfl 23 #[.int .i64 x0, .int .i64 x1, .int .i64 x2, .int .i64 x3] _ H2n.out Tryd.underlying23 rfl (by kernel_rfl) ?_)
    | (refine wp_wholeG (by rfl) 23 _ rfl (w.heap.size) rfl 23 #[.int .i64 x0, .int .i64 x1, .int .i64 x2, .int .i64 x3] _ H2n.out Tryd.underlying23 rfl (by kernel_rfl) ?_)
    | (refine wp_whole rfl 25 _ rfl (w.heap.size + 1) rfl 25 #[.int .i64 y0, .int .i64 y1, .int .i64 y2, .int .i64 y3] _ H2x.out Tryd.underlying25 rfl (by kernel_rfl) ?_)
    | (refine wp_wholeG (by rfl) 25 _ rfl (w.heap.size + 1) rfl 25 #[.int .i64 y0, .int .i64 y1, .int .i64 y2, .int .i64 y3] _ H2x.out Tryd.underlying25 rfl (by kernel_rfl) ?_)
    | (refine wp_whole rfl 25 _ rfl (w.heap.size + 2) rfl 25 #[.int .i64 z0, .int .i64 z1, .int .i64 z2, .int .i64 z3] _ H2y.out Tryd.underlying25 rfl (by kernel_rfl) ?_)
    | (refine wp_wholeG (by rfl) 25 _ rfl (w.heap.size + 2) rfl 25 #[.int .i64 z0, .int .i64 z1, .int .i64 z2, .int .i64 z3] _ H2y.out Tryd.underlying25 rfl (by kernel_rfl) ?_)
    | (refine wp_whole rfl 30 _ rfl (w1.heap.size) rfl 30 #[.int .i64 p, .int .i64 q0, .int .i64 r0, .int .i64 0, .int .u64 0, .int .i64 s, .int .i64 0] _ H2m.out Tryd.underlying30 rfl (by kernel_rfl) ?_)
    | (refine wp_wholeG (by rfl) 30 _ rfl (w1.heap.size) rfl 30 #[.int .i64 p, .int .i64 q0, .int .i64 r0, .int .i64 0, .int .u64 0, .int .i64 s, .int .i64 0] _ H2m.out Tryd.underlying30 rfl (by kernel_rfl) ?_)
    | fail)
  intro W2 hU
  have hL2mn := L2mn.out
  have hL2mx := L2mx.out
  have hL2my := L2my.out
  have hL20 := L20.out
  have H3n : Hid (Blk W2 (w.heap.size) #[.int .i64 x0, .int .i64 x1, .int .i64 x2, .int .i64 x3] 23) := hU.keep H2n.out (by omega)
  have H3x : Hid (Blk W2 (w.heap.size + 1) #[.int .i64 y0, .int .i64 y1, .int .i64 y2, .int .i64 y3] 25) := hU.keep H2x.out (by omega)
  have H3y : Hid (Blk W2 (w.heap.size + 2) #[.int .i64 z0, .int .i64 z1, .int .i64 z2, .int .i64 z3] 25) := hU.keep H2y.out (by omega)
  have H3m : Hid (Blk W2 (w1.heap.size) #[.int .i64 p, .int .i64 q, .int .i64 r0, .int .i64 0, .int .u64 0, .int .i64 s, .int .i64 0] 30) := hU.blk
  have H3B : Hid (Below w.heap.size w W2) := hU.bel _ _ (by omega) H2B.out
  clear hU H2n H2x H2y H2m H2B hL2mn hL2mx hL2my hL20 
  go_wp2_with (first
    | (refine wp_let1 rfl 3 _ _ rfl (w1.heap.size) 2 rfl .i64 0 rfl (by kernel_rfl) #[.int .i64 p, .int .i64 q, .int .i64 r0, .int .i64 0, .int .u64 0, .int .i64 s, .int .i64 0] 30 H3m.out (by simp) ?_)
    | (refine wp_whole rfl 23 _ rfl (w.heap.size) rfl 23 #[.int .i64 x0, .int .i64 x1, .int .i64 x2, .int .i64 x3] _ H3n.out Tryd.underlying23 rfl (by kernel_rfl) ?_)
    | (refine wp_wholeG (by rfl) 23 _ rfl (w.heap.size) rfl 23 #[.int .i64 x0, .int .i64 x1, .int .i64 x2, .int .i64 x3] _ H3n.out Tryd.underlying23 rfl (by kernel_rfl) ?_)
    | (refine wp_whole rfl 25 _ rfl (w.heap.size + 1) rfl 25 #[.int .i64 y0, .int .i64 y1, .int .i64 y2, .int .i64 y3] _ H3x.out Tryd.underlying25 rfl (by kernel_rfl) ?_)
    | (refine wp_wholeG (by rfl) 25 _ rfl (w.heap.size + 1) rfl 25 #[.int .i64 y0, .int .i64 y1, .int .i64 y2, .int .i64 y3] _ H3x.out Tryd.underlying25 rfl (by kernel_rfl) ?_)
    | (refine wp_whole rfl 25 _ rfl (w.heap.size + 2) rfl 25 #[.int .i64 z0, .int .i64 z1, .int .i64 z2, .int .i64 z3] _ H3y.out Tryd.underlying25 rfl (by kernel_rfl) ?_)
    | (refine wp_wholeG (by rfl) 25 _ rfl (w.heap.size + 2) rfl 25 #[.int .i64 z0, .int .i64 z1, .int .i64 z2, .int .i64 z3] _ H3y.out Tryd.underlying25 rfl (by kernel_rfl) ?_)
    | (refine wp_whole rfl 30 _ rfl (w1.heap.size) rfl 30 #[.int .i64 p, .int .i64 q, .int .i64 r0, .int .i64 0, .int .u64 0, .int .i64 s, .int .i64 0] _ H3m.out Tryd.underlying30 rfl (by kernel_rfl) ?_)
    | (refine wp_wholeG (by rfl) 30 _ rfl (w1.heap.size) rfl 30 #[.int .i64 p, .int .i64 q, .int .i64 r0, .int .i64 0, .int .u64 0, .int .i64 s, .int .i64 0] _ H3m.out Tryd.underlying30 rfl (by kernel_rfl) ?_)
    | fail)
  intro W3 hU
  have hL2mn := L2mn.out
  have hL2mx := L2mx.out
  have hL2my := L2my.out
  have hL20 := L20.out
  have H4n : Hid (Blk W3 (w.heap.size) #[.int .i64 x0, .int .i64 x1, .int .i64 x2, .int .i64 x3] 23) := hU.keep H3n.out (by omega)
  have H4x : Hid (Blk W3 (w.heap.size + 1) #[.int .i64 y0, .int .i64 y1, .int .i64 y2, .int .i64 y3] 25) := hU.keep H3x.out (by omega)
  have H4y : Hid (Blk W3 (w.heap.size + 2) #[.int .i64 z0, .int .i64 z1, .int .i64 z2, .int .i64 z3] 25) := hU.keep H3y.out (by omega)
  have H4m : Hid (Blk W3 (w1.heap.size) #[.int .i64 p, .int .i64 q, .int .i64 0, .int .i64 0, .int .u64 0, .int .i64 s, .int .i64 0] 30) := hU.blk
  have H4B : Hid (Below w.heap.size w W3) := hU.bel _ _ (by omega) H3B.out
  clear hU H3n H3x H3y H3m H3B hL2mn hL2mx hL2my hL20 
  go_wp2_with fail
  have hv1 : IntKind.i64.wrap (q + 1) = q + 1 := by rw [IntKind.wrap_i64]; omega
  have hv2 : IntKind.i64.wrap (15 - q) = 15 - q := by rw [IntKind.wrap_i64]; omega
  have hv3 : IntKind.i64.wrap (q + 1 + j) = q + 1 + j := by rw [IntKind.wrap_i64]; omega
  refine wp_region_held_drew (S := fun v => Blk v (w1.heap.size) #[.int .i64 p, .int .i64 q, .int .i64 0, .int .i64 0, .int .u64 0, .int .i64 s, .int .i64 0] 30) (by kernel_rfl) H4m.out (fun hHeld => ?_)
  refine take_at 0 44 (.pointer (some ⟨w1.heap.size, 1, none⟩)) _ rfl rfl (by kernel_rfl) (by kernel_rfl) (by kernel_rfl) (fun _ _ _ h => h) (Or.inl ⟨by rfl, fun v hv => by go_simp⟩) hHeld ?_
  simp only [Act.put, List.setIfInBounds_toArray, List.set_cons_zero, List.set_cons_succ]
  refine take_at 1 45 (.int .i64 q) _ rfl rfl (by kernel_rfl) (by kernel_rfl) (by kernel_rfl) (fun _ _ _ h => h) (Or.inl ⟨by rfl, fun v hv => by have h2 : v.cell? ⟨w1.heap.size, 1, none⟩ = some (.int .i64 q) := Blk.cell hv 1; clear hv; go_simp⟩) hHeld ?_
  simp only [Act.put, List.setIfInBounds_toArray, List.set_cons_zero, List.set_cons_succ]
  refine take_at 2 46 (.int .i64 (q + 1)) _ rfl rfl (by kernel_rfl) (by kernel_rfl) (by kernel_rfl) (fun _ _ _ h => h) (Or.inl ⟨by rfl, fun v hv => by go_simp⟩) hHeld ?_
  simp only [Act.put, List.setIfInBounds_toArray, List.set_cons_zero, List.set_cons_succ]
  refine take_at 3 47 (.int .i64 to) _ rfl rfl (by kernel_rfl) (by kernel_rfl) (by kernel_rfl) (fun _ _ _ h => h) (Or.inl ⟨by rfl, fun v hv => by go_simp⟩) hHeld ?_
  simp only [Act.put, List.setIfInBounds_toArray, List.set_cons_zero, List.set_cons_succ]
  refine take_at 4 48 (.pointer (some ⟨w1.heap.size, 1, none⟩)) _ rfl rfl (by kernel_rfl) (by kernel_rfl) (by kernel_rfl) (fun _ _ _ h => h) (Or.inl ⟨by rfl, fun v hv => by go_simp⟩) hHeld ?_
  simp only [Act.put, List.setIfInBounds_toArray, List.set_cons_zero, List.set_cons_succ]
  refine take_at 5 49 (.int .i64 q) _ rfl rfl (by kernel_rfl) (by kernel_rfl) (by kernel_rfl) (fun _ _ _ h => h) (Or.inl ⟨by rfl, fun v hv => by have h2 : v.cell? ⟨w1.heap.size, 1, none⟩ = some (.int .i64 q) := Blk.cell hv 1; clear hv; go_simp⟩) hHeld ?_
  simp only [Act.put, List.setIfInBounds_toArray, List.set_cons_zero, List.set_cons_succ]
  refine take_at 6 50 (.int .i64 (15 - q)) _ rfl rfl (by kernel_rfl) (by kernel_rfl) (by kernel_rfl) (fun _ _ _ h => h) (Or.inl ⟨by rfl, fun v hv => by go_simp⟩) hHeld ?_
  simp only [Act.put, List.setIfInBounds_toArray, List.set_cons_zero, List.set_cons_succ]
  refine call_at 7 51 (.int .i64 j) _ rfl rfl (by kernel_rfl) (by kernel_rfl) (by kernel_rfl) (fun _ _ _ h => h) 6 #[.int .i64 to, .int .i64 (15 - q)] ⟨by rfl, fun v hv => by go_simp⟩ (fun v _ => HJ.out v) hHeld ?_
  simp only [Act.put, List.setIfInBounds_toArray, List.set_cons_zero, List.set_cons_succ]
  refine take_at 8 52 (.int .i64 (q + 1 + j)) _ rfl rfl (by kernel_rfl) (by kernel_rfl) (by kernel_rfl) (fun _ _ _ h => h) (Or.inl ⟨by rfl, fun v hv => by go_simp⟩) hHeld ?_
  simp only [Act.put, List.setIfInBounds_toArray, List.set_cons_zero, List.set_cons_succ]
  refine take_at 9 10 (.int .i64 (q + 1 + j)) _ rfl rfl (by kernel_rfl) (by kernel_rfl) (by kernel_rfl) (fun _ _ _ h => h) (Or.inl ⟨by rfl, fun v hv => by go_simp⟩) hHeld ?_
  simp only [Act.put, List.setIfInBounds_toArray, List.set_cons_zero, List.set_cons_succ]
  refine wpAnyH_done (by kernel_rfl) ?_ _
  have H5n : Hid (Blk W3.drew (w.heap.size) #[.int .i64 x0, .int .i64 x1, .int .i64 x2, .int .i64 x3] 23) := H4n.out
  have H5x : Hid (Blk W3.drew (w.heap.size + 1) #[.int .i64 y0, .int .i64 y1, .int .i64 y2, .int .i64 y3] 25) := H4x.out
  have H5y : Hid (Blk W3.drew (w.heap.size + 2) #[.int .i64 z0, .int .i64 z1, .int .i64 z2, .int .i64 z3] 25) := H4y.out
  have H5m : Hid (Blk W3.drew (w1.heap.size) #[.int .i64 p, .int .i64 q, .int .i64 0, .int .i64 0, .int .u64 0, .int .i64 s, .int .i64 0] 30) := H4m.out
  have H5B : Hid (Below w.heap.size w W3.drew) := bel_drew H4B.out 1
  clear hv1 hv2 hv3 hHeld HJ H4n H4x H4y H4m H4B
  generalize W3.drew = W4 at *
  go_wp2_with (first
    | (refine wp_let1 rfl 3 _ _ rfl (w.heap.size + 1) 0 rfl .i64 0 rfl (by kernel_rfl) #[.int .i64 y0, .int .i64 y1, .int .i64 y2, .int .i64 y3] 25 H5x.out (by simp) ?_)
    | (refine wp_whole rfl 23 _ rfl (w.heap.size) rfl 23 #[.int .i64 x0, .int .i64 x1, .int .i64 x2, .int .i64 x3] _ H5n.out Tryd.underlying23 rfl (by kernel_rfl) ?_)
    | (refine wp_wholeG (by rfl) 23 _ rfl (w.heap.size) rfl 23 #[.int .i64 x0, .int .i64 x1, .int .i64 x2, .int .i64 x3] _ H5n.out Tryd.underlying23 rfl (by kernel_rfl) ?_)
    | (refine wp_whole rfl 25 _ rfl (w.heap.size + 1) rfl 25 #[.int .i64 y0, .int .i64 y1, .int .i64 y2, .int .i64 y3] _ H5x.out Tryd.underlying25 rfl (by kernel_rfl) ?_)
    | (refine wp_wholeG (by rfl) 25 _ rfl (w.heap.size + 1) rfl 25 #[.int .i64 y0, .int .i64 y1, .int .i64 y2, .int .i64 y3] _ H5x.out Tryd.underlying25 rfl (by kernel_rfl) ?_)
    | (refine wp_whole rfl 25 _ rfl (w.heap.size + 2) rfl 25 #[.int .i64 z0, .int .i64 z1, .int .i64 z2, .int .i64 z3] _ H5y.out Tryd.underlying25 rfl (by kernel_rfl) ?_)
    | (refine wp_wholeG (by rfl) 25 _ rfl (w.heap.size + 2) rfl 25 #[.int .i64 z0, .int .i64 z1, .int .i64 z2, .int .i64 z3] _ H5y.out Tryd.underlying25 rfl (by kernel_rfl) ?_)
    | (refine wp_whole rfl 30 _ rfl (w1.heap.size) rfl 30 #[.int .i64 p, .int .i64 q, .int .i64 0, .int .i64 0, .int .u64 0, .int .i64 s, .int .i64 0] _ H5m.out Tryd.underlying30 rfl (by kernel_rfl) ?_)
    | (refine wp_wholeG (by rfl) 30 _ rfl (w1.heap.size) rfl 30 #[.int .i64 p, .int .i64 q, .int .i64 0, .int .i64 0, .int .u64 0, .int .i64 s, .int .i64 0] _ H5m.out Tryd.underlying30 rfl (by kernel_rfl) ?_)
    | fail)
  intro W5 hU
  have hL2mn := L2mn.out
  have hL2mx := L2mx.out
  have hL2my := L2my.out
  have hL20 := L20.out
  have H6n : Hid (Blk W5 (w.heap.size) #[.int .i64 x0, .int .i64 x1, .int .i64 x2, .int .i64 x3] 23) := hU.keep H5n.out (by omega)
  have H6x : Hid (Blk W5 (w.heap.size + 1) #[.int .i64 0, .int .i64 y1, .int .i64 y2, .int .i64 y3] 25) := hU.blk
  have H6y : Hid (Blk W5 (w.heap.size + 2) #[.int .i64 z0, .int .i64 z1, .int .i64 z2, .int .i64 z3] 25) := hU.keep H5y.out (by omega)
  have H6m : Hid (Blk W5 (w1.heap.size) #[.int .i64 p, .int .i64 q, .int .i64 0, .int .i64 0, .int .u64 0, .int .i64 s, .int .i64 0] 30) := hU.keep H5m.out (by omega)
  have H6B : Hid (Below w.heap.size w W5) := hU.bel _ _ (by omega) H5B.out
  clear hU H5n H5x H5y H5m H5B hL2mn hL2mx hL2my hL20 
  go_wp2_with (first
    | (refine wp_let1 rfl 3 _ _ rfl (w.heap.size + 2) 0 rfl .i64 0 rfl (by kernel_rfl) #[.int .i64 z0, .int .i64 z1, .int .i64 z2, .int .i64 z3] 25 H6y.out (by simp) ?_)
    | (refine wp_whole rfl 23 _ rfl (w.heap.size) rfl 23 #[.int .i64 x0, .int .i64 x1, .int .i64 x2, .int .i64 x3] _ H6n.out Tryd.underlying23 rfl (by kernel_rfl) ?_)
    | (refine wp_wholeG (by rfl) 23 _ rfl (w.heap.size) rfl 23 #[.int .i64 x0, .int .i64 x1, .int .i64 x2, .int .i64 x3] _ H6n.out Tryd.underlying23 rfl (by kernel_rfl) ?_)
    | (refine wp_whole rfl 25 _ rfl (w.heap.size + 1) rfl 25 #[.int .i64 0, .int .i64 y1, .int .i64 y2, .int .i64 y3] _ H6x.out Tryd.underlying25 rfl (by kernel_rfl) ?_)
    | (refine wp_wholeG (by rfl) 25 _ rfl (w.heap.size + 1) rfl 25 #[.int .i64 0, .int .i64 y1, .int .i64 y2, .int .i64 y3] _ H6x.out Tryd.underlying25 rfl (by kernel_rfl) ?_)
    | (refine wp_whole rfl 25 _ rfl (w.heap.size + 2) rfl 25 #[.int .i64 z0, .int .i64 z1, .int .i64 z2, .int .i64 z3] _ H6y.out Tryd.underlying25 rfl (by kernel_rfl) ?_)
    | (refine wp_wholeG (by rfl) 25 _ rfl (w.heap.size + 2) rfl 25 #[.int .i64 z0, .int .i64 z1, .int .i64 z2, .int .i64 z3] _ H6y.out Tryd.underlying25 rfl (by kernel_rfl) ?_)
    | (refine wp_whole rfl 30 _ rfl (w1.heap.size) rfl 30 #[.int .i64 p, .int .i64 q, .int .i64 0, .int .i64 0, .int .u64 0, .int .i64 s, .int .i64 0] _ H6m.out Tryd.underlying30 rfl (by kernel_rfl) ?_)
    | (refine wp_wholeG (by rfl) 30 _ rfl (w1.heap.size) rfl 30 #[.int .i64 p, .int .i64 q, .int .i64 0, .int .i64 0, .int .u64 0, .int .i64 s, .int .i64 0] _ H6m.out Tryd.underlying30 rfl (by kernel_rfl) ?_)
    | fail)
  intro W6 hU
  have hL2mn := L2mn.out
  have hL2mx := L2mx.out
  have hL2my := L2my.out
  have hL20 := L20.out
  have H7n : Hid (Blk W6 (w.heap.size) #[.int .i64 x0, .int .i64 x1, .int .i64 x2, .int .i64 x3] 23) := hU.keep H6n.out (by omega)
  have H7x : Hid (Blk W6 (w.heap.size + 1) #[.int .i64 0, .int .i64 y1, .int .i64 y2, .int .i64 y3] 25) := hU.keep H6x.out (by omega)
  have H7y : Hid (Blk W6 (w.heap.size + 2) #[.int .i64 0, .int .i64 z1, .int .i64 z2, .int .i64 z3] 25) := hU.blk
  have H7m : Hid (Blk W6 (w1.heap.size) #[.int .i64 p, .int .i64 q, .int .i64 0, .int .i64 0, .int .u64 0, .int .i64 s, .int .i64 0] 30) := hU.keep H6m.out (by omega)
  have H7B : Hid (Below w.heap.size w W6) := hU.bel _ _ (by omega) H6B.out
  clear hU H6n H6x H6y H6m H6B hL2mn hL2mx hL2my hL20 
  go_wp2_with (first
    | (refine wp_whole rfl 23 _ rfl (w.heap.size) rfl 23 #[.int .i64 x0, .int .i64 x1, .int .i64 x2, .int .i64 x3] _ H7n.out Tryd.underlying23 rfl (by kernel_rfl) ?_)
    | (refine wp_wholeG (by rfl) 23 _ rfl (w.heap.size) rfl 23 #[.int .i64 x0, .int .i64 x1, .int .i64 x2, .int .i64 x3] _ H7n.out Tryd.underlying23 rfl (by kernel_rfl) ?_)
    | (refine wp_whole rfl 25 _ rfl (w.heap.size + 1) rfl 25 #[.int .i64 0, .int .i64 y1, .int .i64 y2, .int .i64 y3] _ H7x.out Tryd.underlying25 rfl (by kernel_rfl) ?_)
    | (refine wp_wholeG (by rfl) 25 _ rfl (w.heap.size + 1) rfl 25 #[.int .i64 0, .int .i64 y1, .int .i64 y2, .int .i64 y3] _ H7x.out Tryd.underlying25 rfl (by kernel_rfl) ?_)
    | (refine wp_whole rfl 25 _ rfl (w.heap.size + 2) rfl 25 #[.int .i64 0, .int .i64 z1, .int .i64 z2, .int .i64 z3] _ H7y.out Tryd.underlying25 rfl (by kernel_rfl) ?_)
    | (refine wp_wholeG (by rfl) 25 _ rfl (w.heap.size + 2) rfl 25 #[.int .i64 0, .int .i64 z1, .int .i64 z2, .int .i64 z3] _ H7y.out Tryd.underlying25 rfl (by kernel_rfl) ?_)
    | (refine wp_whole rfl 30 _ rfl (w1.heap.size) rfl 30 #[.int .i64 p, .int .i64 q, .int .i64 0, .int .i64 0, .int .u64 0, .int .i64 s, .int .i64 0] _ H7m.out Tryd.underlying30 rfl (by kernel_rfl) ?_)
    | (refine wp_wholeG (by rfl) 30 _ rfl (w1.heap.size) rfl 30 #[.int .i64 p, .int .i64 q, .int .i64 0, .int .i64 0, .int .u64 0, .int .i64 s, .int .i64 0] _ H7m.out Tryd.underlying30 rfl (by kernel_rfl) ?_)
    | fail)
  refine (HMX.out _).mono ?_
  rintro e w7 ⟨rfl, hb⟩
  have H8n : Hid (Blk w7 (w.heap.size) #[.int .i64 x0, .int .i64 x1, .int .i64 x2, .int .i64 x3] 23) := H7n.out.next hb
  have H8x : Hid (Blk w7 (w.heap.size + 1) #[.int .i64 0, .int .i64 y1, .int .i64 y2, .int .i64 y3] 25) := H7x.out.next hb
  have H8y : Hid (Blk w7 (w.heap.size + 2) #[.int .i64 0, .int .i64 z1, .int .i64 z2, .int .i64 z3] 25) := H7y.out.next hb
  have H8m : Hid (Blk w7 (w1.heap.size) #[.int .i64 p, .int .i64 q, .int .i64 0, .int .i64 0, .int .u64 0, .int .i64 s, .int .i64 0] 30) := H7m.out.next hb
  have H8B : Hid (Below w.heap.size w w7) := bel_step H7B.out hb
  have H9n : Hid (Blk (w7.alloc (.cells #[.int .i64 0, .int .i64 oi, .int .i64 oa, .int .i64 ot] 36)) (w.heap.size) #[.int .i64 x0, .int .i64 x1, .int .i64 x2, .int .i64 x3] 23) := (H8n.out).alloc _
  have H9x : Hid (Blk (w7.alloc (.cells #[.int .i64 0, .int .i64 oi, .int .i64 oa, .int .i64 ot] 36)) (w.heap.size + 1) #[.int .i64 0, .int .i64 y1, .int .i64 y2, .int .i64 y3] 25) := (H8x.out).alloc _
  have H9y : Hid (Blk (w7.alloc (.cells #[.int .i64 0, .int .i64 oi, .int .i64 oa, .int .i64 ot] 36)) (w.heap.size + 2) #[.int .i64 0, .int .i64 z1, .int .i64 z2, .int .i64 z3] 25) := (H8y.out).alloc _
  have H9m : Hid (Blk (w7.alloc (.cells #[.int .i64 0, .int .i64 oi, .int .i64 oa, .int .i64 ot] 36)) (w1.heap.size) #[.int .i64 p, .int .i64 q, .int .i64 0, .int .i64 0, .int .u64 0, .int .i64 s, .int .i64 0] 30) := (H8m.out).alloc _
  have H9o : Hid (Blk (w7.alloc (.cells #[.int .i64 0, .int .i64 oi, .int .i64 oa, .int .i64 ot] 36)) (w7.heap.size) #[.int .i64 0, .int .i64 oi, .int .i64 oa, .int .i64 ot] 36) := (Blk.new w7 _ _)
  have L9on : Hid (w.heap.size < w7.heap.size) := Nat.lt_of_lt_of_le H8n.out.lt (by simp)
  have L9ox : Hid (w.heap.size + 1 < w7.heap.size) := Nat.lt_of_lt_of_le H8x.out.lt (by simp)
  have L9oy : Hid (w.heap.size + 2 < w7.heap.size) := Nat.lt_of_lt_of_le H8y.out.lt (by simp)
  have L9om : Hid (w1.heap.size < w7.heap.size) := Nat.lt_of_lt_of_le H8m.out.lt (by simp)
  have H9B : Hid (Below w.heap.size w (w7.alloc (.cells #[.int .i64 0, .int .i64 oi, .int .i64 oa, .int .i64 ot] 36))) := (H8B.out).alloc (Nat.le_trans H8B.out.size (by simp)) _
  have L90 : Hid (w.heap.size ≤ w7.heap.size) := H8B.out.size
  clear H7n H7x H7y H7m H7B H8n H8x H8y H8m H8B hb HMX
  go_wp2_with (first
    | (refine wp_whole rfl 23 _ rfl (w.heap.size) rfl 23 #[.int .i64 x0, .int .i64 x1, .int .i64 x2, .int .i64 x3] _ H9n.out Tryd.underlying23 rfl (by kernel_rfl) ?_)
    | (refine wp_wholeG (by rfl) 23 _ rfl (w.heap.size) rfl 23 #[.int .i64 x0, .int .i64 x1, .int .i64 x2, .int .i64 x3] _ H9n.out Tryd.underlying23 rfl (by kernel_rfl) ?_)
    | (refine wp_whole rfl 25 _ rfl (w.heap.size + 1) rfl 25 #[.int .i64 0, .int .i64 y1, .int .i64 y2, .int .i64 y3] _ H9x.out Tryd.underlying25 rfl (by kernel_rfl) ?_)
    | (refine wp_wholeG (by rfl) 25 _ rfl (w.heap.size + 1) rfl 25 #[.int .i64 0, .int .i64 y1, .int .i64 y2, .int .i64 y3] _ H9x.out Tryd.underlying25 rfl (by kernel_rfl) ?_)
    | (refine wp_whole rfl 25 _ rfl (w.heap.size + 2) rfl 25 #[.int .i64 0, .int .i64 z1, .int .i64 z2, .int .i64 z3] _ H9y.out Tryd.underlying25 rfl (by kernel_rfl) ?_)
    | (refine wp_wholeG (by rfl) 25 _ rfl (w.heap.size + 2) rfl 25 #[.int .i64 0, .int .i64 z1, .int .i64 z2, .int .i64 z3] _ H9y.out Tryd.underlying25 rfl (by kernel_rfl) ?_)
    | (refine wp_whole rfl 30 _ rfl (w1.heap.size) rfl 30 #[.int .i64 p, .int .i64 q, .int .i64 0, .int .i64 0, .int .u64 0, .int .i64 s, .int .i64 0] _ H9m.out Tryd.underlying30 rfl (by kernel_rfl) ?_)
    | (refine wp_wholeG (by rfl) 30 _ rfl (w1.heap.size) rfl 30 #[.int .i64 p, .int .i64 q, .int .i64 0, .int .i64 0, .int .u64 0, .int .i64 s, .int .i64 0] _ H9m.out Tryd.underlying30 rfl (by kernel_rfl) ?_)
    | (refine wp_whole rfl 36 _ rfl (w7.heap.size) rfl 36 #[.int .i64 0, .int .i64 oi, .int .i64 oa, .int .i64 ot] _ H9o.out Tryd.underlying36 rfl (by kernel_rfl) ?_)
    | (refine wp_wholeG (by rfl) 36 _ rfl (w7.heap.size) rfl 36 #[.int .i64 0, .int .i64 oi, .int .i64 oa, .int .i64 ot] _ H9o.out Tryd.underlying36 rfl (by kernel_rfl) ?_)
    | fail)
  refine (HMY.out _).mono ?_
  rintro e w8 ⟨rfl, hb⟩
  have H10n : Hid (Blk w8 (w.heap.size) #[.int .i64 x0, .int .i64 x1, .int .i64 x2, .int .i64 x3] 23) := H9n.out.next hb
  have H10x : Hid (Blk w8 (w.heap.size + 1) #[.int .i64 0, .int .i64 y1, .int .i64 y2, .int .i64 y3] 25) := H9x.out.next hb
  have H10y : Hid (Blk w8 (w.heap.size + 2) #[.int .i64 0, .int .i64 z1, .int .i64 z2, .int .i64 z3] 25) := H9y.out.next hb
  have H10m : Hid (Blk w8 (w1.heap.size) #[.int .i64 p, .int .i64 q, .int .i64 0, .int .i64 0, .int .u64 0, .int .i64 s, .int .i64 0] 30) := H9m.out.next hb
  have H10o : Hid (Blk w8 (w7.heap.size) #[.int .i64 0, .int .i64 oi, .int .i64 oa, .int .i64 ot] 36) := H9o.out.next hb
  have H10B : Hid (Below w.heap.size w w8) := bel_step H9B.out hb
  have H11n : Hid (Blk (w8.alloc (.cells #[.int .i64 0, .int .i64 fi, .int .i64 fa, .int .i64 ft] 36)) (w.heap.size) #[.int .i64 x0, .int .i64 x1, .int .i64 x2, .int .i64 x3] 23) := (H10n.out).alloc _
  have H11x : Hid (Blk (w8.alloc (.cells #[.int .i64 0, .int .i64 fi, .int .i64 fa, .int .i64 ft] 36)) (w.heap.size + 1) #[.int .i64 0, .int .i64 y1, .int .i64 y2, .int .i64 y3] 25) := (H10x.out).alloc _
  have H11y : Hid (Blk (w8.alloc (.cells #[.int .i64 0, .int .i64 fi, .int .i64 fa, .int .i64 ft] 36)) (w.heap.size + 2) #[.int .i64 0, .int .i64 z1, .int .i64 z2, .int .i64 z3] 25) := (H10y.out).alloc _
  have H11m : Hid (Blk (w8.alloc (.cells #[.int .i64 0, .int .i64 fi, .int .i64 fa, .int .i64 ft] 36)) (w1.heap.size) #[.int .i64 p, .int .i64 q, .int .i64 0, .int .i64 0, .int .u64 0, .int .i64 s, .int .i64 0] 30) := (H10m.out).alloc _
  have H11o : Hid (Blk (w8.alloc (.cells #[.int .i64 0, .int .i64 fi, .int .i64 fa, .int .i64 ft] 36)) (w7.heap.size) #[.int .i64 0, .int .i64 oi, .int .i64 oa, .int .i64 ot] 36) := (H10o.out).alloc _
  have H11f : Hid (Blk (w8.alloc (.cells #[.int .i64 0, .int .i64 fi, .int .i64 fa, .int .i64 ft] 36)) (w8.heap.size) #[.int .i64 0, .int .i64 fi, .int .i64 fa, .int .i64 ft] 36) := (Blk.new w8 _ _)
  have L11fn : Hid (w.heap.size < w8.heap.size) := Nat.lt_of_lt_of_le H10n.out.lt (by simp)
  have L11fx : Hid (w.heap.size + 1 < w8.heap.size) := Nat.lt_of_lt_of_le H10x.out.lt (by simp)
  have L11fy : Hid (w.heap.size + 2 < w8.heap.size) := Nat.lt_of_lt_of_le H10y.out.lt (by simp)
  have L11fm : Hid (w1.heap.size < w8.heap.size) := Nat.lt_of_lt_of_le H10m.out.lt (by simp)
  have L11fo : Hid (w7.heap.size < w8.heap.size) := Nat.lt_of_lt_of_le H10o.out.lt (by simp)
  have H11B : Hid (Below w.heap.size w (w8.alloc (.cells #[.int .i64 0, .int .i64 fi, .int .i64 fa, .int .i64 ft] 36))) := (H10B.out).alloc (Nat.le_trans H10B.out.size (by simp)) _
  have L110 : Hid (w.heap.size ≤ w8.heap.size) := H10B.out.size
  clear H9n H9x H9y H9m H9o H9B H10n H10x H10y H10m H10o H10B hb HMY
  go_wp2_with (first
    | (refine wp_let1 rfl 3 _ _ rfl (w7.heap.size) 1 rfl .i64 2 rfl (by kernel_rfl) #[.int .i64 0, .int .i64 oi, .int .i64 oa, .int .i64 ot] 36 H11o.out (by simp) ?_)
    | (refine wp_whole rfl 23 _ rfl (w.heap.size) rfl 23 #[.int .i64 x0, .int .i64 x1, .int .i64 x2, .int .i64 x3] _ H11n.out Tryd.underlying23 rfl (by kernel_rfl) ?_)
    | (refine wp_wholeG (by rfl) 23 _ rfl (w.heap.size) rfl 23 #[.int .i64 x0, .int .i64 x1, .int .i64 x2, .int .i64 x3] _ H11n.out Tryd.underlying23 rfl (by kernel_rfl) ?_)
    | (refine wp_whole rfl 25 _ rfl (w.heap.size + 1) rfl 25 #[.int .i64 0, .int .i64 y1, .int .i64 y2, .int .i64 y3] _ H11x.out Tryd.underlying25 rfl (by kernel_rfl) ?_)
    | (refine wp_wholeG (by rfl) 25 _ rfl (w.heap.size + 1) rfl 25 #[.int .i64 0, .int .i64 y1, .int .i64 y2, .int .i64 y3] _ H11x.out Tryd.underlying25 rfl (by kernel_rfl) ?_)
    | (refine wp_whole rfl 25 _ rfl (w.heap.size + 2) rfl 25 #[.int .i64 0, .int .i64 z1, .int .i64 z2, .int .i64 z3] _ H11y.out Tryd.underlying25 rfl (by kernel_rfl) ?_)
    | (refine wp_wholeG (by rfl) 25 _ rfl (w.heap.size + 2) rfl 25 #[.int .i64 0, .int .i64 z1, .int .i64 z2, .int .i64 z3] _ H11y.out Tryd.underlying25 rfl (by kernel_rfl) ?_)
    | (refine wp_whole rfl 30 _ rfl (w1.heap.size) rfl 30 #[.int .i64 p, .int .i64 q, .int .i64 0, .int .i64 0, .int .u64 0, .int .i64 s, .int .i64 0] _ H11m.out Tryd.underlying30 rfl (by kernel_rfl) ?_)
    | (refine wp_wholeG (by rfl) 30 _ rfl (w1.heap.size) rfl 30 #[.int .i64 p, .int .i64 q, .int .i64 0, .int .i64 0, .int .u64 0, .int .i64 s, .int .i64 0] _ H11m.out Tryd.underlying30 rfl (by kernel_rfl) ?_)
    | (refine wp_whole rfl 36 _ rfl (w7.heap.size) rfl 36 #[.int .i64 0, .int .i64 oi, .int .i64 oa, .int .i64 ot] _ H11o.out Tryd.underlying36 rfl (by kernel_rfl) ?_)
    | (refine wp_wholeG (by rfl) 36 _ rfl (w7.heap.size) rfl 36 #[.int .i64 0, .int .i64 oi, .int .i64 oa, .int .i64 ot] _ H11o.out Tryd.underlying36 rfl (by kernel_rfl) ?_)
    | (refine wp_whole rfl 36 _ rfl (w8.heap.size) rfl 36 #[.int .i64 0, .int .i64 fi, .int .i64 fa, .int .i64 ft] _ H11f.out Tryd.underlying36 rfl (by kernel_rfl) ?_)
    | (refine wp_wholeG (by rfl) 36 _ rfl (w8.heap.size) rfl 36 #[.int .i64 0, .int .i64 fi, .int .i64 fa, .int .i64 ft] _ H11f.out Tryd.underlying36 rfl (by kernel_rfl) ?_)
    | fail)
  intro W9 hU
  have hL2mn := L2mn.out
  have hL2mx := L2mx.out
  have hL2my := L2my.out
  have hL20 := L20.out
  have hL9on := L9on.out
  have hL9ox := L9ox.out
  have hL9oy := L9oy.out
  have hL9om := L9om.out
  have hL90 := L90.out
  have hL11fn := L11fn.out
  have hL11fx := L11fx.out
  have hL11fy := L11fy.out
  have hL11fm := L11fm.out
  have hL11fo := L11fo.out
  have hL110 := L110.out
  have H12n : Hid (Blk W9 (w.heap.size) #[.int .i64 x0, .int .i64 x1, .int .i64 x2, .int .i64 x3] 23) := hU.keep H11n.out (by omega)
  have H12x : Hid (Blk W9 (w.heap.size + 1) #[.int .i64 0, .int .i64 y1, .int .i64 y2, .int .i64 y3] 25) := hU.keep H11x.out (by omega)
  have H12y : Hid (Blk W9 (w.heap.size + 2) #[.int .i64 0, .int .i64 z1, .int .i64 z2, .int .i64 z3] 25) := hU.keep H11y.out (by omega)
  have H12m : Hid (Blk W9 (w1.heap.size) #[.int .i64 p, .int .i64 q, .int .i64 0, .int .i64 0, .int .u64 0, .int .i64 s, .int .i64 0] 30) := hU.keep H11m.out (by omega)
  have H12o : Hid (Blk W9 (w7.heap.size) #[.int .i64 0, .int .i64 2, .int .i64 oa, .int .i64 ot] 36) := hU.blk
  have H12f : Hid (Blk W9 (w8.heap.size) #[.int .i64 0, .int .i64 fi, .int .i64 fa, .int .i64 ft] 36) := hU.keep H11f.out (by omega)
  have H12B : Hid (Below w.heap.size w W9) := hU.bel _ _ (by omega) H11B.out
  clear hU H11n H11x H11y H11m H11o H11f H11B hL2mn hL2mx hL2my hL20 hL9on hL9ox hL9oy hL9om hL90 hL11fn hL11fx hL11fy hL11fm hL11fo hL110 
  go_wp2_with (first
    | (refine wp_let1 rfl 3 _ _ rfl (w8.heap.size) 1 rfl .i64 3 rfl (by kernel_rfl) #[.int .i64 0, .int .i64 fi, .int .i64 fa, .int .i64 ft] 36 H12f.out (by simp) ?_)
    | (refine wp_whole rfl 23 _ rfl (w.heap.size) rfl 23 #[.int .i64 x0, .int .i64 x1, .int .i64 x2, .int .i64 x3] _ H12n.out Tryd.underlying23 rfl (by kernel_rfl) ?_)
    | (refine wp_wholeG (by rfl) 23 _ rfl (w.heap.size) rfl 23 #[.int .i64 x0, .int .i64 x1, .int .i64 x2, .int .i64 x3] _ H12n.out Tryd.underlying23 rfl (by kernel_rfl) ?_)
    | (refine wp_whole rfl 25 _ rfl (w.heap.size + 1) rfl 25 #[.int .i64 0, .int .i64 y1, .int .i64 y2, .int .i64 y3] _ H12x.out Tryd.underlying25 rfl (by kernel_rfl) ?_)
    | (refine wp_wholeG (by rfl) 25 _ rfl (w.heap.size + 1) rfl 25 #[.int .i64 0, .int .i64 y1, .int .i64 y2, .int .i64 y3] _ H12x.out Tryd.underlying25 rfl (by kernel_rfl) ?_)
    | (refine wp_whole rfl 25 _ rfl (w.heap.size + 2) rfl 25 #[.int .i64 0, .int .i64 z1, .int .i64 z2, .int .i64 z3] _ H12y.out Tryd.underlying25 rfl (by kernel_rfl) ?_)
    | (refine wp_wholeG (by rfl) 25 _ rfl (w.heap.size + 2) rfl 25 #[.int .i64 0, .int .i64 z1, .int .i64 z2, .int .i64 z3] _ H12y.out Tryd.underlying25 rfl (by kernel_rfl) ?_)
    | (refine wp_whole rfl 30 _ rfl (w1.heap.size) rfl 30 #[.int .i64 p, .int .i64 q, .int .i64 0, .int .i64 0, .int .u64 0, .int .i64 s, .int .i64 0] _ H12m.out Tryd.underlying30 rfl (by kernel_rfl) ?_)
    | (refine wp_wholeG (by rfl) 30 _ rfl (w1.heap.size) rfl 30 #[.int .i64 p, .int .i64 q, .int .i64 0, .int .i64 0, .int .u64 0, .int .i64 s, .int .i64 0] _ H12m.out Tryd.underlying30 rfl (by kernel_rfl) ?_)
    | (refine wp_whole rfl 36 _ rfl (w7.heap.size) rfl 36 #[.int .i64 0, .int .i64 2, .int .i64 oa, .int .i64 ot] _ H12o.out Tryd.underlying36 rfl (by kernel_rfl) ?_)
    | (refine wp_wholeG (by rfl) 36 _ rfl (w7.heap.size) rfl 36 #[.int .i64 0, .int .i64 2, .int .i64 oa, .int .i64 ot] _ H12o.out Tryd.underlying36 rfl (by kernel_rfl) ?_)
    | (refine wp_whole rfl 36 _ rfl (w8.heap.size) rfl 36 #[.int .i64 0, .int .i64 fi, .int .i64 fa, .int .i64 ft] _ H12f.out Tryd.underlying36 rfl (by kernel_rfl) ?_)
    | (refine wp_wholeG (by rfl) 36 _ rfl (w8.heap.size) rfl 36 #[.int .i64 0, .int .i64 fi, .int .i64 fa, .int .i64 ft] _ H12f.out Tryd.underlying36 rfl (by kernel_rfl) ?_)
    | fail)
  intro W10 hU
  have hL2mn := L2mn.out
  have hL2mx := L2mx.out
  have hL2my := L2my.out
  have hL20 := L20.out
  have hL9on := L9on.out
  have hL9ox := L9ox.out
  have hL9oy := L9oy.out
  have hL9om := L9om.out
  have hL90 := L90.out
  have hL11fn := L11fn.out
  have hL11fx := L11fx.out
  have hL11fy := L11fy.out
  have hL11fm := L11fm.out
  have hL11fo := L11fo.out
  have hL110 := L110.out
  have H13n : Hid (Blk W10 (w.heap.size) #[.int .i64 x0, .int .i64 x1, .int .i64 x2, .int .i64 x3] 23) := hU.keep H12n.out (by omega)
  have H13x : Hid (Blk W10 (w.heap.size + 1) #[.int .i64 0, .int .i64 y1, .int .i64 y2, .int .i64 y3] 25) := hU.keep H12x.out (by omega)
  have H13y : Hid (Blk W10 (w.heap.size + 2) #[.int .i64 0, .int .i64 z1, .int .i64 z2, .int .i64 z3] 25) := hU.keep H12y.out (by omega)
  have H13m : Hid (Blk W10 (w1.heap.size) #[.int .i64 p, .int .i64 q, .int .i64 0, .int .i64 0, .int .u64 0, .int .i64 s, .int .i64 0] 30) := hU.keep H12m.out (by omega)
  have H13o : Hid (Blk W10 (w7.heap.size) #[.int .i64 0, .int .i64 2, .int .i64 oa, .int .i64 ot] 36) := hU.keep H12o.out (by omega)
  have H13f : Hid (Blk W10 (w8.heap.size) #[.int .i64 0, .int .i64 3, .int .i64 fa, .int .i64 ft] 36) := hU.blk
  have H13B : Hid (Below w.heap.size w W10) := hU.bel _ _ (by omega) H12B.out
  clear hU H12n H12x H12y H12m H12o H12f H12B hL2mn hL2mx hL2my hL20 hL9on hL9ox hL9oy hL9om hL90 hL11fn hL11fx hL11fy hL11fm hL11fo hL110 
  have H14n : Hid (Blk (W10.alloc (.cells #[.int .i64 2, .int .i64 1, .int .i64 (q + 1 + j), .int .i64 0] 36)) (w.heap.size) #[.int .i64 x0, .int .i64 x1, .int .i64 x2, .int .i64 x3] 23) := (H13n.out).alloc _
  have H14x : Hid (Blk (W10.alloc (.cells #[.int .i64 2, .int .i64 1, .int .i64 (q + 1 + j), .int .i64 0] 36)) (w.heap.size + 1) #[.int .i64 0, .int .i64 y1, .int .i64 y2, .int .i64 y3] 25) := (H13x.out).alloc _
  have H14y : Hid (Blk (W10.alloc (.cells #[.int .i64 2, .int .i64 1, .int .i64 (q + 1 + j), .int .i64 0] 36)) (w.heap.size + 2) #[.int .i64 0, .int .i64 z1, .int .i64 z2, .int .i64 z3] 25) := (H13y.out).alloc _
  have H14m : Hid (Blk (W10.alloc (.cells #[.int .i64 2, .int .i64 1, .int .i64 (q + 1 + j), .int .i64 0] 36)) (w1.heap.size) #[.int .i64 p, .int .i64 q, .int .i64 0, .int .i64 0, .int .u64 0, .int .i64 s, .int .i64 0] 30) := (H13m.out).alloc _
  have H14o : Hid (Blk (W10.alloc (.cells #[.int .i64 2, .int .i64 1, .int .i64 (q + 1 + j), .int .i64 0] 36)) (w7.heap.size) #[.int .i64 0, .int .i64 2, .int .i64 oa, .int .i64 ot] 36) := (H13o.out).alloc _
  have H14f : Hid (Blk (W10.alloc (.cells #[.int .i64 2, .int .i64 1, .int .i64 (q + 1 + j), .int .i64 0] 36)) (w8.heap.size) #[.int .i64 0, .int .i64 3, .int .i64 fa, .int .i64 ft] 36) := (H13f.out).alloc _
  have H14c : Hid (Blk (W10.alloc (.cells #[.int .i64 2, .int .i64 1, .int .i64 (q + 1 + j), .int .i64 0] 36)) (W10.heap.size) #[.int .i64 2, .int .i64 1, .int .i64 (q + 1 + j), .int .i64 0] 36) := (Blk.new W10 _ _)
  have L14cn : Hid (w.heap.size < W10.heap.size) := Nat.lt_of_lt_of_le H13n.out.lt (by simp)
  have L14cx : Hid (w.heap.size + 1 < W10.heap.size) := Nat.lt_of_lt_of_le H13x.out.lt (by simp)
  have L14cy : Hid (w.heap.size + 2 < W10.heap.size) := Nat.lt_of_lt_of_le H13y.out.lt (by simp)
  have L14cm : Hid (w1.heap.size < W10.heap.size) := Nat.lt_of_lt_of_le H13m.out.lt (by simp)
  have L14co : Hid (w7.heap.size < W10.heap.size) := Nat.lt_of_lt_of_le H13o.out.lt (by simp)
  have L14cf : Hid (w8.heap.size < W10.heap.size) := Nat.lt_of_lt_of_le H13f.out.lt (by simp)
  have H14B : Hid (Below w.heap.size w (W10.alloc (.cells #[.int .i64 2, .int .i64 1, .int .i64 (q + 1 + j), .int .i64 0] 36))) := (H13B.out).alloc (Nat.le_trans H13B.out.size (by simp)) _
  have L140 : Hid (w.heap.size ≤ W10.heap.size) := H13B.out.size
  clear H13n H13x H13y H13m H13o H13f H13B 
  go_wp2_with (first
    | (refine wp_whole rfl 23 _ rfl (w.heap.size) rfl 23 #[.int .i64 x0, .int .i64 x1, .int .i64 x2, .int .i64 x3] _ H14n.out Tryd.underlying23 rfl (by kernel_rfl) ?_)
    | (refine wp_wholeG (by rfl) 23 _ rfl (w.heap.size) rfl 23 #[.int .i64 x0, .int .i64 x1, .int .i64 x2, .int .i64 x3] _ H14n.out Tryd.underlying23 rfl (by kernel_rfl) ?_)
    | (refine wp_whole rfl 25 _ rfl (w.heap.size + 1) rfl 25 #[.int .i64 0, .int .i64 y1, .int .i64 y2, .int .i64 y3] _ H14x.out Tryd.underlying25 rfl (by kernel_rfl) ?_)
    | (refine wp_wholeG (by rfl) 25 _ rfl (w.heap.size + 1) rfl 25 #[.int .i64 0, .int .i64 y1, .int .i64 y2, .int .i64 y3] _ H14x.out Tryd.underlying25 rfl (by kernel_rfl) ?_)
    | (refine wp_whole rfl 25 _ rfl (w.heap.size + 2) rfl 25 #[.int .i64 0, .int .i64 z1, .int .i64 z2, .int .i64 z3] _ H14y.out Tryd.underlying25 rfl (by kernel_rfl) ?_)
    | (refine wp_wholeG (by rfl) 25 _ rfl (w.heap.size + 2) rfl 25 #[.int .i64 0, .int .i64 z1, .int .i64 z2, .int .i64 z3] _ H14y.out Tryd.underlying25 rfl (by kernel_rfl) ?_)
    | (refine wp_whole rfl 30 _ rfl (w1.heap.size) rfl 30 #[.int .i64 p, .int .i64 q, .int .i64 0, .int .i64 0, .int .u64 0, .int .i64 s, .int .i64 0] _ H14m.out Tryd.underlying30 rfl (by kernel_rfl) ?_)
    | (refine wp_wholeG (by rfl) 30 _ rfl (w1.heap.size) rfl 30 #[.int .i64 p, .int .i64 q, .int .i64 0, .int .i64 0, .int .u64 0, .int .i64 s, .int .i64 0] _ H14m.out Tryd.underlying30 rfl (by kernel_rfl) ?_)
    | (refine wp_whole rfl 36 _ rfl (w7.heap.size) rfl 36 #[.int .i64 0, .int .i64 2, .int .i64 oa, .int .i64 ot] _ H14o.out Tryd.underlying36 rfl (by kernel_rfl) ?_)
    | (refine wp_wholeG (by rfl) 36 _ rfl (w7.heap.size) rfl 36 #[.int .i64 0, .int .i64 2, .int .i64 oa, .int .i64 ot] _ H14o.out Tryd.underlying36 rfl (by kernel_rfl) ?_)
    | (refine wp_whole rfl 36 _ rfl (w8.heap.size) rfl 36 #[.int .i64 0, .int .i64 3, .int .i64 fa, .int .i64 ft] _ H14f.out Tryd.underlying36 rfl (by kernel_rfl) ?_)
    | (refine wp_wholeG (by rfl) 36 _ rfl (w8.heap.size) rfl 36 #[.int .i64 0, .int .i64 3, .int .i64 fa, .int .i64 ft] _ H14f.out Tryd.underlying36 rfl (by kernel_rfl) ?_)
    | (refine wp_whole rfl 36 _ rfl (W10.heap.size) rfl 36 #[.int .i64 2, .int .i64 1, .int .i64 (q + 1 + j), .int .i64 0] _ H14c.out Tryd.underlying36 rfl (by kernel_rfl) ?_)
    | (refine wp_wholeG (by rfl) 36 _ rfl (W10.heap.size) rfl 36 #[.int .i64 2, .int .i64 1, .int .i64 (q + 1 + j), .int .i64 0] _ H14c.out Tryd.underlying36 rfl (by kernel_rfl) ?_)
    | fail)
  refine (HBO.out _ H14B.out).mono ?_
  rintro e w11 ⟨rfl, hb⟩
  have H15n : Hid (Blk w11 (w.heap.size) #[.int .i64 x0, .int .i64 x1, .int .i64 x2, .int .i64 x3] 23) := H14n.out.next hb
  have H15x : Hid (Blk w11 (w.heap.size + 1) #[.int .i64 0, .int .i64 y1, .int .i64 y2, .int .i64 y3] 25) := H14x.out.next hb
  have H15y : Hid (Blk w11 (w.heap.size + 2) #[.int .i64 0, .int .i64 z1, .int .i64 z2, .int .i64 z3] 25) := H14y.out.next hb
  have H15m : Hid (Blk w11 (w1.heap.size) #[.int .i64 p, .int .i64 q, .int .i64 0, .int .i64 0, .int .u64 0, .int .i64 s, .int .i64 0] 30) := H14m.out.next hb
  have H15o : Hid (Blk w11 (w7.heap.size) #[.int .i64 0, .int .i64 2, .int .i64 oa, .int .i64 ot] 36) := H14o.out.next hb
  have H15f : Hid (Blk w11 (w8.heap.size) #[.int .i64 0, .int .i64 3, .int .i64 fa, .int .i64 ft] 36) := H14f.out.next hb
  have H15c : Hid (Blk w11 (W10.heap.size) #[.int .i64 2, .int .i64 1, .int .i64 (q + 1 + j), .int .i64 0] 36) := H14c.out.next hb
  have H15B : Hid (Below w.heap.size w w11) := bel_step H14B.out hb
  clear H14n H14x H14y H14m H14o H14f H14c H14B hb HBO
  go_wp2_with (first
    | (refine wp_whole rfl 23 _ rfl (w.heap.size) rfl 23 #[.int .i64 x0, .int .i64 x1, .int .i64 x2, .int .i64 x3] _ H15n.out Tryd.underlying23 rfl (by kernel_rfl) ?_)
    | (refine wp_wholeG (by rfl) 23 _ rfl (w.heap.size) rfl 23 #[.int .i64 x0, .int .i64 x1, .int .i64 x2, .int .i64 x3] _ H15n.out Tryd.underlying23 rfl (by kernel_rfl) ?_)
    | (refine wp_whole rfl 25 _ rfl (w.heap.size + 1) rfl 25 #[.int .i64 0, .int .i64 y1, .int .i64 y2, .int .i64 y3] _ H15x.out Tryd.underlying25 rfl (by kernel_rfl) ?_)
    | (refine wp_wholeG (by rfl) 25 _ rfl (w.heap.size + 1) rfl 25 #[.int .i64 0, .int .i64 y1, .int .i64 y2, .int .i64 y3] _ H15x.out Tryd.underlying25 rfl (by kernel_rfl) ?_)
    | (refine wp_whole rfl 25 _ rfl (w.heap.size + 2) rfl 25 #[.int .i64 0, .int .i64 z1, .int .i64 z2, .int .i64 z3] _ H15y.out Tryd.underlying25 rfl (by kernel_rfl) ?_)
    | (refine wp_wholeG (by rfl) 25 _ rfl (w.heap.size + 2) rfl 25 #[.int .i64 0, .int .i64 z1, .int .i64 z2, .int .i64 z3] _ H15y.out Tryd.underlying25 rfl (by kernel_rfl) ?_)
    | (refine wp_whole rfl 30 _ rfl (w1.heap.size) rfl 30 #[.int .i64 p, .int .i64 q, .int .i64 0, .int .i64 0, .int .u64 0, .int .i64 s, .int .i64 0] _ H15m.out Tryd.underlying30 rfl (by kernel_rfl) ?_)
    | (refine wp_wholeG (by rfl) 30 _ rfl (w1.heap.size) rfl 30 #[.int .i64 p, .int .i64 q, .int .i64 0, .int .i64 0, .int .u64 0, .int .i64 s, .int .i64 0] _ H15m.out Tryd.underlying30 rfl (by kernel_rfl) ?_)
    | (refine wp_whole rfl 36 _ rfl (w7.heap.size) rfl 36 #[.int .i64 0, .int .i64 2, .int .i64 oa, .int .i64 ot] _ H15o.out Tryd.underlying36 rfl (by kernel_rfl) ?_)
    | (refine wp_wholeG (by rfl) 36 _ rfl (w7.heap.size) rfl 36 #[.int .i64 0, .int .i64 2, .int .i64 oa, .int .i64 ot] _ H15o.out Tryd.underlying36 rfl (by kernel_rfl) ?_)
    | (refine wp_whole rfl 36 _ rfl (w8.heap.size) rfl 36 #[.int .i64 0, .int .i64 3, .int .i64 fa, .int .i64 ft] _ H15f.out Tryd.underlying36 rfl (by kernel_rfl) ?_)
    | (refine wp_wholeG (by rfl) 36 _ rfl (w8.heap.size) rfl 36 #[.int .i64 0, .int .i64 3, .int .i64 fa, .int .i64 ft] _ H15f.out Tryd.underlying36 rfl (by kernel_rfl) ?_)
    | (refine wp_whole rfl 36 _ rfl (W10.heap.size) rfl 36 #[.int .i64 2, .int .i64 1, .int .i64 (q + 1 + j), .int .i64 0] _ H15c.out Tryd.underlying36 rfl (by kernel_rfl) ?_)
    | (refine wp_wholeG (by rfl) 36 _ rfl (W10.heap.size) rfl 36 #[.int .i64 2, .int .i64 1, .int .i64 (q + 1 + j), .int .i64 0] _ H15c.out Tryd.underlying36 rfl (by kernel_rfl) ?_)
    | fail)
  refine (HBC.out _ H15B.out).mono ?_
  rintro e w12 ⟨rfl, hb⟩
  have H16n : Hid (Blk w12 (w.heap.size) #[.int .i64 x0, .int .i64 x1, .int .i64 x2, .int .i64 x3] 23) := H15n.out.next hb
  have H16x : Hid (Blk w12 (w.heap.size + 1) #[.int .i64 0, .int .i64 y1, .int .i64 y2, .int .i64 y3] 25) := H15x.out.next hb
  have H16y : Hid (Blk w12 (w.heap.size + 2) #[.int .i64 0, .int .i64 z1, .int .i64 z2, .int .i64 z3] 25) := H15y.out.next hb
  have H16m : Hid (Blk w12 (w1.heap.size) #[.int .i64 p, .int .i64 q, .int .i64 0, .int .i64 0, .int .u64 0, .int .i64 s, .int .i64 0] 30) := H15m.out.next hb
  have H16o : Hid (Blk w12 (w7.heap.size) #[.int .i64 0, .int .i64 2, .int .i64 oa, .int .i64 ot] 36) := H15o.out.next hb
  have H16f : Hid (Blk w12 (w8.heap.size) #[.int .i64 0, .int .i64 3, .int .i64 fa, .int .i64 ft] 36) := H15f.out.next hb
  have H16c : Hid (Blk w12 (W10.heap.size) #[.int .i64 2, .int .i64 1, .int .i64 (q + 1 + j), .int .i64 0] 36) := H15c.out.next hb
  have H16B : Hid (Below w.heap.size w w12) := bel_step H15B.out hb
  clear H15n H15x H15y H15m H15o H15f H15c H15B hb HBC
  go_wp2_with (first
    | (refine wp_whole rfl 23 _ rfl (w.heap.size) rfl 23 #[.int .i64 x0, .int .i64 x1, .int .i64 x2, .int .i64 x3] _ H16n.out Tryd.underlying23 rfl (by kernel_rfl) ?_)
    | (refine wp_wholeG (by rfl) 23 _ rfl (w.heap.size) rfl 23 #[.int .i64 x0, .int .i64 x1, .int .i64 x2, .int .i64 x3] _ H16n.out Tryd.underlying23 rfl (by kernel_rfl) ?_)
    | (refine wp_whole rfl 25 _ rfl (w.heap.size + 1) rfl 25 #[.int .i64 0, .int .i64 y1, .int .i64 y2, .int .i64 y3] _ H16x.out Tryd.underlying25 rfl (by kernel_rfl) ?_)
    | (refine wp_wholeG (by rfl) 25 _ rfl (w.heap.size + 1) rfl 25 #[.int .i64 0, .int .i64 y1, .int .i64 y2, .int .i64 y3] _ H16x.out Tryd.underlying25 rfl (by kernel_rfl) ?_)
    | (refine wp_whole rfl 25 _ rfl (w.heap.size + 2) rfl 25 #[.int .i64 0, .int .i64 z1, .int .i64 z2, .int .i64 z3] _ H16y.out Tryd.underlying25 rfl (by kernel_rfl) ?_)
    | (refine wp_wholeG (by rfl) 25 _ rfl (w.heap.size + 2) rfl 25 #[.int .i64 0, .int .i64 z1, .int .i64 z2, .int .i64 z3] _ H16y.out Tryd.underlying25 rfl (by kernel_rfl) ?_)
    | (refine wp_whole rfl 30 _ rfl (w1.heap.size) rfl 30 #[.int .i64 p, .int .i64 q, .int .i64 0, .int .i64 0, .int .u64 0, .int .i64 s, .int .i64 0] _ H16m.out Tryd.underlying30 rfl (by kernel_rfl) ?_)
    | (refine wp_wholeG (by rfl) 30 _ rfl (w1.heap.size) rfl 30 #[.int .i64 p, .int .i64 q, .int .i64 0, .int .i64 0, .int .u64 0, .int .i64 s, .int .i64 0] _ H16m.out Tryd.underlying30 rfl (by kernel_rfl) ?_)
    | (refine wp_whole rfl 36 _ rfl (w7.heap.size) rfl 36 #[.int .i64 0, .int .i64 2, .int .i64 oa, .int .i64 ot] _ H16o.out Tryd.underlying36 rfl (by kernel_rfl) ?_)
    | (refine wp_wholeG (by rfl) 36 _ rfl (w7.heap.size) rfl 36 #[.int .i64 0, .int .i64 2, .int .i64 oa, .int .i64 ot] _ H16o.out Tryd.underlying36 rfl (by kernel_rfl) ?_)
    | (refine wp_whole rfl 36 _ rfl (w8.heap.size) rfl 36 #[.int .i64 0, .int .i64 3, .int .i64 fa, .int .i64 ft] _ H16f.out Tryd.underlying36 rfl (by kernel_rfl) ?_)
    | (refine wp_wholeG (by rfl) 36 _ rfl (w8.heap.size) rfl 36 #[.int .i64 0, .int .i64 3, .int .i64 fa, .int .i64 ft] _ H16f.out Tryd.underlying36 rfl (by kernel_rfl) ?_)
    | (refine wp_whole rfl 36 _ rfl (W10.heap.size) rfl 36 #[.int .i64 2, .int .i64 1, .int .i64 (q + 1 + j), .int .i64 0] _ H16c.out Tryd.underlying36 rfl (by kernel_rfl) ?_)
    | (refine wp_wholeG (by rfl) 36 _ rfl (W10.heap.size) rfl 36 #[.int .i64 2, .int .i64 1, .int .i64 (q + 1 + j), .int .i64 0] _ H16c.out Tryd.underlying36 rfl (by kernel_rfl) ?_)
    | fail)
  refine (HBF.out _ H16B.out).mono ?_
  rintro e w13 ⟨rfl, hb⟩
  have H17n : Hid (Blk w13 (w.heap.size) #[.int .i64 x0, .int .i64 x1, .int .i64 x2, .int .i64 x3] 23) := H16n.out.next hb
  have H17x : Hid (Blk w13 (w.heap.size + 1) #[.int .i64 0, .int .i64 y1, .int .i64 y2, .int .i64 y3] 25) := H16x.out.next hb
  have H17y : Hid (Blk w13 (w.heap.size + 2) #[.int .i64 0, .int .i64 z1, .int .i64 z2, .int .i64 z3] 25) := H16y.out.next hb
  have H17m : Hid (Blk w13 (w1.heap.size) #[.int .i64 p, .int .i64 q, .int .i64 0, .int .i64 0, .int .u64 0, .int .i64 s, .int .i64 0] 30) := H16m.out.next hb
  have H17o : Hid (Blk w13 (w7.heap.size) #[.int .i64 0, .int .i64 2, .int .i64 oa, .int .i64 ot] 36) := H16o.out.next hb
  have H17f : Hid (Blk w13 (w8.heap.size) #[.int .i64 0, .int .i64 3, .int .i64 fa, .int .i64 ft] 36) := H16f.out.next hb
  have H17c : Hid (Blk w13 (W10.heap.size) #[.int .i64 2, .int .i64 1, .int .i64 (q + 1 + j), .int .i64 0] 36) := H16c.out.next hb
  have H17B : Hid (Below w.heap.size w w13) := bel_step H16B.out hb
  clear H16n H16x H16y H16m H16o H16f H16c H16B hb HBF
  have q_m_0 : w13.cell? ⟨w1.heap.size, 0, none⟩ = some (.int .i64 p) := H17m.out.cell 0
  have q_m_1 : w13.cell? ⟨w1.heap.size, 1, none⟩ = some (.int .i64 q) := H17m.out.cell 1
  have q_o_3 : w13.cell? ⟨w7.heap.size, 3, none⟩ = some (.int .i64 ot) := H17o.out.cell 3
  go_wp2_with (first
    | (refine wp_whole rfl 23 _ rfl (w.heap.size) rfl 23 #[.int .i64 x0, .int .i64 x1, .int .i64 x2, .int .i64 x3] _ H17n.out Tryd.underlying23 rfl (by kernel_rfl) ?_)
    | (refine wp_wholeG (by rfl) 23 _ rfl (w.heap.size) rfl 23 #[.int .i64 x0, .int .i64 x1, .int .i64 x2, .int .i64 x3] _ H17n.out Tryd.underlying23 rfl (by kernel_rfl) ?_)
    | (refine wp_whole rfl 25 _ rfl (w.heap.size + 1) rfl 25 #[.int .i64 0, .int .i64 y1, .int .i64 y2, .int .i64 y3] _ H17x.out Tryd.underlying25 rfl (by kernel_rfl) ?_)
    | (refine wp_wholeG (by rfl) 25 _ rfl (w.heap.size + 1) rfl 25 #[.int .i64 0, .int .i64 y1, .int .i64 y2, .int .i64 y3] _ H17x.out Tryd.underlying25 rfl (by kernel_rfl) ?_)
    | (refine wp_whole rfl 25 _ rfl (w.heap.size + 2) rfl 25 #[.int .i64 0, .int .i64 z1, .int .i64 z2, .int .i64 z3] _ H17y.out Tryd.underlying25 rfl (by kernel_rfl) ?_)
    | (refine wp_wholeG (by rfl) 25 _ rfl (w.heap.size + 2) rfl 25 #[.int .i64 0, .int .i64 z1, .int .i64 z2, .int .i64 z3] _ H17y.out Tryd.underlying25 rfl (by kernel_rfl) ?_)
    | (refine wp_whole rfl 30 _ rfl (w1.heap.size) rfl 30 #[.int .i64 p, .int .i64 q, .int .i64 0, .int .i64 0, .int .u64 0, .int .i64 s, .int .i64 0] _ H17m.out Tryd.underlying30 rfl (by kernel_rfl) ?_)
    | (refine wp_wholeG (by rfl) 30 _ rfl (w1.heap.size) rfl 30 #[.int .i64 p, .int .i64 q, .int .i64 0, .int .i64 0, .int .u64 0, .int .i64 s, .int .i64 0] _ H17m.out Tryd.underlying30 rfl (by kernel_rfl) ?_)
    | (refine wp_whole rfl 36 _ rfl (w7.heap.size) rfl 36 #[.int .i64 0, .int .i64 2, .int .i64 oa, .int .i64 ot] _ H17o.out Tryd.underlying36 rfl (by kernel_rfl) ?_)
    | (refine wp_wholeG (by rfl) 36 _ rfl (w7.heap.size) rfl 36 #[.int .i64 0, .int .i64 2, .int .i64 oa, .int .i64 ot] _ H17o.out Tryd.underlying36 rfl (by kernel_rfl) ?_)
    | (refine wp_whole rfl 36 _ rfl (w8.heap.size) rfl 36 #[.int .i64 0, .int .i64 3, .int .i64 fa, .int .i64 ft] _ H17f.out Tryd.underlying36 rfl (by kernel_rfl) ?_)
    | (refine wp_wholeG (by rfl) 36 _ rfl (w8.heap.size) rfl 36 #[.int .i64 0, .int .i64 3, .int .i64 fa, .int .i64 ft] _ H17f.out Tryd.underlying36 rfl (by kernel_rfl) ?_)
    | (refine wp_whole rfl 36 _ rfl (W10.heap.size) rfl 36 #[.int .i64 2, .int .i64 1, .int .i64 (q + 1 + j), .int .i64 0] _ H17c.out Tryd.underlying36 rfl (by kernel_rfl) ?_)
    | (refine wp_wholeG (by rfl) 36 _ rfl (W10.heap.size) rfl 36 #[.int .i64 2, .int .i64 1, .int .i64 (q + 1 + j), .int .i64 0] _ H17c.out Tryd.underlying36 rfl (by kernel_rfl) ?_)
    | fail)
  have L13 : Hid (w7.heap.size < w13.heap.size ∧ w8.heap.size < w13.heap.size ∧ W10.heap.size < w13.heap.size) := ⟨H17o.out.lt, H17f.out.lt, H17c.out.lt⟩
  refine (HI1.out _ H17B.out).mono ?_
  rintro e w14 ⟨a1, n1, cap1, rfl, hc, hal, hnr, hb⟩
  have H18n : Hid (Blk w14 (w.heap.size) #[.int .i64 x0, .int .i64 x1, .int .i64 x2, .int .i64 x3] 23) := H17n.out.next hb
  have H18x : Hid (Blk w14 (w.heap.size + 1) #[.int .i64 0, .int .i64 y1, .int .i64 y2, .int .i64 y3] 25) := H17x.out.next hb
  have H18y : Hid (Blk w14 (w.heap.size + 2) #[.int .i64 0, .int .i64 z1, .int .i64 z2, .int .i64 z3] 25) := H17y.out.next hb
  have H18m : Hid (Blk w14 (w1.heap.size) #[.int .i64 p, .int .i64 q, .int .i64 0, .int .i64 0, .int .u64 0, .int .i64 s, .int .i64 0] 30) := H17m.out.next hb
  have H18o : Hid (Blk w14 (w7.heap.size) #[.int .i64 0, .int .i64 2, .int .i64 oa, .int .i64 ot] 36) := H17o.out.next hb
  have H18f : Hid (Blk w14 (w8.heap.size) #[.int .i64 0, .int .i64 3, .int .i64 fa, .int .i64 ft] 36) := H17f.out.next hb
  have H18c : Hid (Blk w14 (W10.heap.size) #[.int .i64 2, .int .i64 1, .int .i64 (q + 1 + j), .int .i64 0] 36) := H17c.out.next hb
  have H18B : Hid (Below w.heap.size w w14) := bel_step H17B.out hb
  clear q_m_0 q_m_1 q_o_3
  have HCr : Hid (Came w14 a1 n1 cap1 L1) := hc
  have H19n : Hid (Blk (w14.alloc (.cells #[.slice a1 n1 cap1] 35)) (w.heap.size) #[.int .i64 x0, .int .i64 x1, .int .i64 x2, .int .i64 x3] 23) := (H18n.out).alloc _
  have H19x : Hid (Blk (w14.alloc (.cells #[.slice a1 n1 cap1] 35)) (w.heap.size + 1) #[.int .i64 0, .int .i64 y1, .int .i64 y2, .int .i64 y3] 25) := (H18x.out).alloc _
  have H19y : Hid (Blk (w14.alloc (.cells #[.slice a1 n1 cap1] 35)) (w.heap.size + 2) #[.int .i64 0, .int .i64 z1, .int .i64 z2, .int .i64 z3] 25) := (H18y.out).alloc _
  have H19m : Hid (Blk (w14.alloc (.cells #[.slice a1 n1 cap1] 35)) (w1.heap.size) #[.int .i64 p, .int .i64 q, .int .i64 0, .int .i64 0, .int .u64 0, .int .i64 s, .int .i64 0] 30) := (H18m.out).alloc _
  have H19o : Hid (Blk (w14.alloc (.cells #[.slice a1 n1 cap1] 35)) (w7.heap.size) #[.int .i64 0, .int .i64 2, .int .i64 oa, .int .i64 ot] 36) := (H18o.out).alloc _
  have H19f : Hid (Blk (w14.alloc (.cells #[.slice a1 n1 cap1] 35)) (w8.heap.size) #[.int .i64 0, .int .i64 3, .int .i64 fa, .int .i64 ft] 36) := (H18f.out).alloc _
  have H19c : Hid (Blk (w14.alloc (.cells #[.slice a1 n1 cap1] 35)) (W10.heap.size) #[.int .i64 2, .int .i64 1, .int .i64 (q + 1 + j), .int .i64 0] 36) := (H18c.out).alloc _
  have H19r : Hid (Blk (w14.alloc (.cells #[.slice a1 n1 cap1] 35)) (w14.heap.size) #[.slice a1 n1 cap1] 35) := (Blk.new w14 _ _)
  have L19rn : Hid (w.heap.size < w14.heap.size) := Nat.lt_of_lt_of_le H18n.out.lt (by simp)
  have L19rx : Hid (w.heap.size + 1 < w14.heap.size) := Nat.lt_of_lt_of_le H18x.out.lt (by simp)
  have L19ry : Hid (w.heap.size + 2 < w14.heap.size) := Nat.lt_of_lt_of_le H18y.out.lt (by simp)
  have L19rm : Hid (w1.heap.size < w14.heap.size) := Nat.lt_of_lt_of_le H18m.out.lt (by simp)
  have L19ro : Hid (w7.heap.size < w14.heap.size) := Nat.lt_of_lt_of_le H18o.out.lt (by simp)
  have L19rf : Hid (w8.heap.size < w14.heap.size) := Nat.lt_of_lt_of_le H18f.out.lt (by simp)
  have L19rc : Hid (W10.heap.size < w14.heap.size) := Nat.lt_of_lt_of_le H18c.out.lt (by simp)
  have H19B : Hid (Below w.heap.size w (w14.alloc (.cells #[.slice a1 n1 cap1] 35))) := (H18B.out).alloc (Nat.le_trans H18B.out.size (by simp)) _
  have L190 : Hid (w.heap.size ≤ w14.heap.size) := H18B.out.size
  have H19Cr : Hid (Came (w14.alloc (.cells #[.slice a1 n1 cap1] 35)) a1 n1 cap1 L1) := HCr.out.below ((Below.refl w14.heap.size w14).alloc (by simp) _)
  have HFR1 : Hid (∀ yy, a1 = some yy → yy.block ≠ w7.heap.size ∧ yy.block ≠ w8.heap.size ∧ yy.block ≠ W10.heap.size ∧ yy.block ≠ w14.heap.size) := fun yy hy => by
    obtain ⟨e1, e2, e3⟩ := L13.out
    have e4 := hal yy hy
    rcases hnr yy hy with h | ⟨zz, hz, _⟩
    · exact ⟨by omega, by omega, by omega, by omega⟩
    · cases hz
  have HAL1 : Hid (Alive (w14.alloc (.cells #[.slice a1 n1 cap1] 35)) a1) := Alive.below hal ((Below.refl _ _).alloc (Nat.le_refl _) _)
  clear H17n H17x H17y H17m H17o H17f H17c H17B H18n H18x H18y H18m H18o H18f H18c HCr H18B hb hc hal hnr HI1
  have q_m_0 : (w14.alloc (.cells #[.slice a1 n1 cap1] 35)).cell? ⟨w1.heap.size, 0, none⟩ = some (.int .i64 p) := H19m.out.cell 0
  have q_m_1 : (w14.alloc (.cells #[.slice a1 n1 cap1] 35)).cell? ⟨w1.heap.size, 1, none⟩ = some (.int .i64 q) := H19m.out.cell 1
  have q_r_0 : (w14.alloc (.cells #[.slice a1 n1 cap1] 35)).cell? ⟨w14.heap.size, 0, none⟩ = some (.slice a1 n1 cap1) := H19r.out.cell 0
  go_wp2_with (first
    | (refine wp_whole rfl 23 _ rfl (w.heap.size) rfl 23 #[.int .i64 x0, .int .i64 x1, .int .i64 x2, .int .i64 x3] _ H19n.out Tryd.underlying23 rfl (by kernel_rfl) ?_)
    | (refine wp_wholeG (by rfl) 23 _ rfl (w.heap.size) rfl 23 #[.int .i64 x0, .int .i64 x1, .int .i64 x2, .int .i64 x3] _ H19n.out Tryd.underlying23 rfl (by kernel_rfl) ?_)
    | (refine wp_whole rfl 25 _ rfl (w.heap.size + 1) rfl 25 #[.int .i64 0, .int .i64 y1, .int .i64 y2, .int .i64 y3] _ H19x.out Tryd.underlying25 rfl (by kernel_rfl) ?_)
    | (refine wp_wholeG (by rfl) 25 _ rfl (w.heap.size + 1) rfl 25 #[.int .i64 0, .int .i64 y1, .int .i64 y2, .int .i64 y3] _ H19x.out Tryd.underlying25 rfl (by kernel_rfl) ?_)
    | (refine wp_whole rfl 25 _ rfl (w.heap.size + 2) rfl 25 #[.int .i64 0, .int .i64 z1, .int .i64 z2, .int .i64 z3] _ H19y.out Tryd.underlying25 rfl (by kernel_rfl) ?_)
    | (refine wp_wholeG (by rfl) 25 _ rfl (w.heap.size + 2) rfl 25 #[.int .i64 0, .int .i64 z1, .int .i64 z2, .int .i64 z3] _ H19y.out Tryd.underlying25 rfl (by kernel_rfl) ?_)
    | (refine wp_whole rfl 30 _ rfl (w1.heap.size) rfl 30 #[.int .i64 p, .int .i64 q, .int .i64 0, .int .i64 0, .int .u64 0, .int .i64 s, .int .i64 0] _ H19m.out Tryd.underlying30 rfl (by kernel_rfl) ?_)
    | (refine wp_wholeG (by rfl) 30 _ rfl (w1.heap.size) rfl 30 #[.int .i64 p, .int .i64 q, .int .i64 0, .int .i64 0, .int .u64 0, .int .i64 s, .int .i64 0] _ H19m.out Tryd.underlying30 rfl (by kernel_rfl) ?_)
    | (refine wp_whole rfl 36 _ rfl (w7.heap.size) rfl 36 #[.int .i64 0, .int .i64 2, .int .i64 oa, .int .i64 ot] _ H19o.out Tryd.underlying36 rfl (by kernel_rfl) ?_)
    | (refine wp_wholeG (by rfl) 36 _ rfl (w7.heap.size) rfl 36 #[.int .i64 0, .int .i64 2, .int .i64 oa, .int .i64 ot] _ H19o.out Tryd.underlying36 rfl (by kernel_rfl) ?_)
    | (refine wp_whole rfl 36 _ rfl (w8.heap.size) rfl 36 #[.int .i64 0, .int .i64 3, .int .i64 fa, .int .i64 ft] _ H19f.out Tryd.underlying36 rfl (by kernel_rfl) ?_)
    | (refine wp_wholeG (by rfl) 36 _ rfl (w8.heap.size) rfl 36 #[.int .i64 0, .int .i64 3, .int .i64 fa, .int .i64 ft] _ H19f.out Tryd.underlying36 rfl (by kernel_rfl) ?_)
    | (refine wp_whole rfl 36 _ rfl (W10.heap.size) rfl 36 #[.int .i64 2, .int .i64 1, .int .i64 (q + 1 + j), .int .i64 0] _ H19c.out Tryd.underlying36 rfl (by kernel_rfl) ?_)
    | (refine wp_wholeG (by rfl) 36 _ rfl (W10.heap.size) rfl 36 #[.int .i64 2, .int .i64 1, .int .i64 (q + 1 + j), .int .i64 0] _ H19c.out Tryd.underlying36 rfl (by kernel_rfl) ?_)
    | (refine wp_whole rfl 35 _ rfl (w14.heap.size) rfl 35 #[.slice a1 n1 cap1] _ H19r.out Tryd.underlying35 rfl (by kernel_rfl) ?_)
    | (refine wp_wholeG (by rfl) 35 _ rfl (w14.heap.size) rfl 35 #[.slice a1 n1 cap1] _ H19r.out Tryd.underlying35 rfl (by kernel_rfl) ?_)
    | fail)
  have HII := HI2.out _ a1 n1 cap1 H19B.out H19Cr.out HAL1.out
  have LX : Hid (w7.heap.size < (w14.alloc (.cells #[.slice a1 n1 cap1] 35)).heap.size ∧ w8.heap.size < (w14.alloc (.cells #[.slice a1 n1 cap1] 35)).heap.size ∧ W10.heap.size < (w14.alloc (.cells #[.slice a1 n1 cap1] 35)).heap.size ∧ w14.heap.size < (w14.alloc (.cells #[.slice a1 n1 cap1] 35)).heap.size) := ⟨H19o.out.lt, H19f.out.lt, H19c.out.lt, H19r.out.lt⟩
  refine HII.mono ?_
  rintro e w16 ⟨a2, n2, cap2, rfl, hc, hal, hnr, hb⟩
  have H20n : Hid (Blk w16 (w.heap.size) #[.int .i64 x0, .int .i64 x1, .int .i64 x2, .int .i64 x3] 23) := H19n.out.next hb
  have H20x : Hid (Blk w16 (w.heap.size + 1) #[.int .i64 0, .int .i64 y1, .int .i64 y2, .int .i64 y3] 25) := H19x.out.next hb
  have H20y : Hid (Blk w16 (w.heap.size + 2) #[.int .i64 0, .int .i64 z1, .int .i64 z2, .int .i64 z3] 25) := H19y.out.next hb
  have H20m : Hid (Blk w16 (w1.heap.size) #[.int .i64 p, .int .i64 q, .int .i64 0, .int .i64 0, .int .u64 0, .int .i64 s, .int .i64 0] 30) := H19m.out.next hb
  have H20o : Hid (Blk w16 (w7.heap.size) #[.int .i64 0, .int .i64 2, .int .i64 oa, .int .i64 ot] 36) := H19o.out.next hb
  have H20f : Hid (Blk w16 (w8.heap.size) #[.int .i64 0, .int .i64 3, .int .i64 fa, .int .i64 ft] 36) := H19f.out.next hb
  have H20c : Hid (Blk w16 (W10.heap.size) #[.int .i64 2, .int .i64 1, .int .i64 (q + 1 + j), .int .i64 0] 36) := H19c.out.next hb
  have H20r : Hid (Blk w16 (w14.heap.size) #[.slice a1 n1 cap1] 35) := H19r.out.next hb
  have H20B : Hid (Below w.heap.size w w16) := bel_step H19B.out hb
  clear q_m_0 q_m_1 q_r_0
  have HFR2 : Hid (∀ yy, a2 = some yy → yy.block ≠ w7.heap.size ∧ yy.block ≠ w8.heap.size ∧ yy.block ≠ W10.heap.size ∧ yy.block ≠ w14.heap.size) := fun yy hy => by
    obtain ⟨e1, e2, e3, e4⟩ := LX.out
    rcases hnr yy hy with h | ⟨zz, hz, hzy⟩
    · exact ⟨by omega, by omega, by omega, by omega⟩
    · obtain ⟨f1, f2, f3, f4⟩ := HFR1.out zz hz
      exact ⟨by omega, by omega, by omega, by omega⟩
  have HCr : Hid (Came w16 a2 n2 cap2 L2) := hc
  have HALX : Hid (Alive w16 a2) := hal
  clear H19n H19x H19y H19m H19o H19f H19c H19r H19B hb hc hal hnr HII LX HAL1 HFR1 HI2
  go_wp2_with (first
    | (refine wp_letAll rfl 35 _ _ rfl (w14.heap.size) rfl #[.slice a2 n2 cap2] rfl (by kernel_rfl) (by simp [Value.oneCell']) #[.slice a1 n1 cap1] 35 H20r.out rfl ?_)
    | (refine wp_whole rfl 23 _ rfl (w.heap.size) rfl 23 #[.int .i64 x0, .int .i64 x1, .int .i64 x2, .int .i64 x3] _ H20n.out Tryd.underlying23 rfl (by kernel_rfl) ?_)
    | (refine wp_wholeG (by rfl) 23 _ rfl (w.heap.size) rfl 23 #[.int .i64 x0, .int .i64 x1, .int .i64 x2, .int .i64 x3] _ H20n.out Tryd.underlying23 rfl (by kernel_rfl) ?_)
    | (refine wp_whole rfl 25 _ rfl (w.heap.size + 1) rfl 25 #[.int .i64 0, .int .i64 y1, .int .i64 y2, .int .i64 y3] _ H20x.out Tryd.underlying25 rfl (by kernel_rfl) ?_)
    | (refine wp_wholeG (by rfl) 25 _ rfl (w.heap.size + 1) rfl 25 #[.int .i64 0, .int .i64 y1, .int .i64 y2, .int .i64 y3] _ H20x.out Tryd.underlying25 rfl (by kernel_rfl) ?_)
    | (refine wp_whole rfl 25 _ rfl (w.heap.size + 2) rfl 25 #[.int .i64 0, .int .i64 z1, .int .i64 z2, .int .i64 z3] _ H20y.out Tryd.underlying25 rfl (by kernel_rfl) ?_)
    | (refine wp_wholeG (by rfl) 25 _ rfl (w.heap.size + 2) rfl 25 #[.int .i64 0, .int .i64 z1, .int .i64 z2, .int .i64 z3] _ H20y.out Tryd.underlying25 rfl (by kernel_rfl) ?_)
    | (refine wp_whole rfl 30 _ rfl (w1.heap.size) rfl 30 #[.int .i64 p, .int .i64 q, .int .i64 0, .int .i64 0, .int .u64 0, .int .i64 s, .int .i64 0] _ H20m.out Tryd.underlying30 rfl (by kernel_rfl) ?_)
    | (refine wp_wholeG (by rfl) 30 _ rfl (w1.heap.size) rfl 30 #[.int .i64 p, .int .i64 q, .int .i64 0, .int .i64 0, .int .u64 0, .int .i64 s, .int .i64 0] _ H20m.out Tryd.underlying30 rfl (by kernel_rfl) ?_)
    | (refine wp_whole rfl 36 _ rfl (w7.heap.size) rfl 36 #[.int .i64 0, .int .i64 2, .int .i64 oa, .int .i64 ot] _ H20o.out Tryd.underlying36 rfl (by kernel_rfl) ?_)
    | (refine wp_wholeG (by rfl) 36 _ rfl (w7.heap.size) rfl 36 #[.int .i64 0, .int .i64 2, .int .i64 oa, .int .i64 ot] _ H20o.out Tryd.underlying36 rfl (by kernel_rfl) ?_)
    | (refine wp_whole rfl 36 _ rfl (w8.heap.size) rfl 36 #[.int .i64 0, .int .i64 3, .int .i64 fa, .int .i64 ft] _ H20f.out Tryd.underlying36 rfl (by kernel_rfl) ?_)
    | (refine wp_wholeG (by rfl) 36 _ rfl (w8.heap.size) rfl 36 #[.int .i64 0, .int .i64 3, .int .i64 fa, .int .i64 ft] _ H20f.out Tryd.underlying36 rfl (by kernel_rfl) ?_)
    | (refine wp_whole rfl 36 _ rfl (W10.heap.size) rfl 36 #[.int .i64 2, .int .i64 1, .int .i64 (q + 1 + j), .int .i64 0] _ H20c.out Tryd.underlying36 rfl (by kernel_rfl) ?_)
    | (refine wp_wholeG (by rfl) 36 _ rfl (W10.heap.size) rfl 36 #[.int .i64 2, .int .i64 1, .int .i64 (q + 1 + j), .int .i64 0] _ H20c.out Tryd.underlying36 rfl (by kernel_rfl) ?_)
    | (refine wp_whole rfl 35 _ rfl (w14.heap.size) rfl 35 #[.slice a1 n1 cap1] _ H20r.out Tryd.underlying35 rfl (by kernel_rfl) ?_)
    | (refine wp_wholeG (by rfl) 35 _ rfl (w14.heap.size) rfl 35 #[.slice a1 n1 cap1] _ H20r.out Tryd.underlying35 rfl (by kernel_rfl) ?_)
    | fail)
  intro W17 hU
  have hL2mn := L2mn.out
  have hL2mx := L2mx.out
  have hL2my := L2my.out
  have hL20 := L20.out
  have hL9on := L9on.out
  have hL9ox := L9ox.out
  have hL9oy := L9oy.out
  have hL9om := L9om.out
  have hL90 := L90.out
  have hL11fn := L11fn.out
  have hL11fx := L11fx.out
  have hL11fy := L11fy.out
  have hL11fm := L11fm.out
  have hL11fo := L11fo.out
  have hL110 := L110.out
  have hL14cn := L14cn.out
  have hL14cx := L14cx.out
  have hL14cy := L14cy.out
  have hL14cm := L14cm.out
  have hL14co := L14co.out
  have hL14cf := L14cf.out
  have hL140 := L140.out
  have hL19rn := L19rn.out
  have hL19rx := L19rx.out
  have hL19ry := L19ry.out
  have hL19rm := L19rm.out
  have hL19ro := L19ro.out
  have hL19rf := L19rf.out
  have hL19rc := L19rc.out
  have hL190 := L190.out
  have H21n : Hid (Blk W17 (w.heap.size) #[.int .i64 x0, .int .i64 x1, .int .i64 x2, .int .i64 x3] 23) := hU.keep H20n.out (by omega)
  have H21x : Hid (Blk W17 (w.heap.size + 1) #[.int .i64 0, .int .i64 y1, .int .i64 y2, .int .i64 y3] 25) := hU.keep H20x.out (by omega)
  have H21y : Hid (Blk W17 (w.heap.size + 2) #[.int .i64 0, .int .i64 z1, .int .i64 z2, .int .i64 z3] 25) := hU.keep H20y.out (by omega)
  have H21m : Hid (Blk W17 (w1.heap.size) #[.int .i64 p, .int .i64 q, .int .i64 0, .int .i64 0, .int .u64 0, .int .i64 s, .int .i64 0] 30) := hU.keep H20m.out (by omega)
  have H21o : Hid (Blk W17 (w7.heap.size) #[.int .i64 0, .int .i64 2, .int .i64 oa, .int .i64 ot] 36) := hU.keep H20o.out (by omega)
  have H21f : Hid (Blk W17 (w8.heap.size) #[.int .i64 0, .int .i64 3, .int .i64 fa, .int .i64 ft] 36) := hU.keep H20f.out (by omega)
  have H21c : Hid (Blk W17 (W10.heap.size) #[.int .i64 2, .int .i64 1, .int .i64 (q + 1 + j), .int .i64 0] 36) := hU.keep H20c.out (by omega)
  have H21r : Hid (Blk W17 (w14.heap.size) #[.slice a2 n2 cap2] 35) := hU.blk
  have H21B : Hid (Below w.heap.size w W17) := hU.bel _ _ (by omega) H20B.out
  have H21C : Hid (Came W17 a2 n2 cap2 L2) := upd_came hU HCr.out (fun yy hy => (HFR2.out yy hy).2.2.2)
  have HAL2 : Hid (Alive W17 a2) := fun yy hy => by rw [hU.size]; exact HALX.out yy hy
  clear hU H20n H20x H20y H20m H20o H20f H20c H20r H20B HCr HALX hL2mn hL2mx hL2my hL20 hL9on hL9ox hL9oy hL9om hL90 hL11fn hL11fx hL11fy hL11fm hL11fo hL110 hL14cn hL14cx hL14cy hL14cm hL14co hL14cf hL140 hL19rn hL19rx hL19ry hL19rm hL19ro hL19rf hL19rc hL190
  have q_m_0 : W17.cell? ⟨w1.heap.size, 0, none⟩ = some (.int .i64 p) := H21m.out.cell 0
  have q_f_3 : W17.cell? ⟨w8.heap.size, 3, none⟩ = some (.int .i64 ft) := H21f.out.cell 3
  have q_r_0 : W17.cell? ⟨w14.heap.size, 0, none⟩ = some (.slice a2 n2 cap2) := H21r.out.cell 0
  go_wp2_with (first
    | (refine wp_whole rfl 23 _ rfl (w.heap.size) rfl 23 #[.int .i64 x0, .int .i64 x1, .int .i64 x2, .int .i64 x3] _ H21n.out Tryd.underlying23 rfl (by kernel_rfl) ?_)
    | (refine wp_wholeG (by rfl) 23 _ rfl (w.heap.size) rfl 23 #[.int .i64 x0, .int .i64 x1, .int .i64 x2, .int .i64 x3] _ H21n.out Tryd.underlying23 rfl (by kernel_rfl) ?_)
    | (refine wp_whole rfl 25 _ rfl (w.heap.size + 1) rfl 25 #[.int .i64 0, .int .i64 y1, .int .i64 y2, .int .i64 y3] _ H21x.out Tryd.underlying25 rfl (by kernel_rfl) ?_)
    | (refine wp_wholeG (by rfl) 25 _ rfl (w.heap.size + 1) rfl 25 #[.int .i64 0, .int .i64 y1, .int .i64 y2, .int .i64 y3] _ H21x.out Tryd.underlying25 rfl (by kernel_rfl) ?_)
    | (refine wp_whole rfl 25 _ rfl (w.heap.size + 2) rfl 25 #[.int .i64 0, .int .i64 z1, .int .i64 z2, .int .i64 z3] _ H21y.out Tryd.underlying25 rfl (by kernel_rfl) ?_)
    | (refine wp_wholeG (by rfl) 25 _ rfl (w.heap.size + 2) rfl 25 #[.int .i64 0, .int .i64 z1, .int .i64 z2, .int .i64 z3] _ H21y.out Tryd.underlying25 rfl (by kernel_rfl) ?_)
    | (refine wp_whole rfl 30 _ rfl (w1.heap.size) rfl 30 #[.int .i64 p, .int .i64 q, .int .i64 0, .int .i64 0, .int .u64 0, .int .i64 s, .int .i64 0] _ H21m.out Tryd.underlying30 rfl (by kernel_rfl) ?_)
    | (refine wp_wholeG (by rfl) 30 _ rfl (w1.heap.size) rfl 30 #[.int .i64 p, .int .i64 q, .int .i64 0, .int .i64 0, .int .u64 0, .int .i64 s, .int .i64 0] _ H21m.out Tryd.underlying30 rfl (by kernel_rfl) ?_)
    | (refine wp_whole rfl 36 _ rfl (w7.heap.size) rfl 36 #[.int .i64 0, .int .i64 2, .int .i64 oa, .int .i64 ot] _ H21o.out Tryd.underlying36 rfl (by kernel_rfl) ?_)
    | (refine wp_wholeG (by rfl) 36 _ rfl (w7.heap.size) rfl 36 #[.int .i64 0, .int .i64 2, .int .i64 oa, .int .i64 ot] _ H21o.out Tryd.underlying36 rfl (by kernel_rfl) ?_)
    | (refine wp_whole rfl 36 _ rfl (w8.heap.size) rfl 36 #[.int .i64 0, .int .i64 3, .int .i64 fa, .int .i64 ft] _ H21f.out Tryd.underlying36 rfl (by kernel_rfl) ?_)
    | (refine wp_wholeG (by rfl) 36 _ rfl (w8.heap.size) rfl 36 #[.int .i64 0, .int .i64 3, .int .i64 fa, .int .i64 ft] _ H21f.out Tryd.underlying36 rfl (by kernel_rfl) ?_)
    | (refine wp_whole rfl 36 _ rfl (W10.heap.size) rfl 36 #[.int .i64 2, .int .i64 1, .int .i64 (q + 1 + j), .int .i64 0] _ H21c.out Tryd.underlying36 rfl (by kernel_rfl) ?_)
    | (refine wp_wholeG (by rfl) 36 _ rfl (W10.heap.size) rfl 36 #[.int .i64 2, .int .i64 1, .int .i64 (q + 1 + j), .int .i64 0] _ H21c.out Tryd.underlying36 rfl (by kernel_rfl) ?_)
    | (refine wp_whole rfl 35 _ rfl (w14.heap.size) rfl 35 #[.slice a2 n2 cap2] _ H21r.out Tryd.underlying35 rfl (by kernel_rfl) ?_)
    | (refine wp_wholeG (by rfl) 35 _ rfl (w14.heap.size) rfl 35 #[.slice a2 n2 cap2] _ H21r.out Tryd.underlying35 rfl (by kernel_rfl) ?_)
    | fail)
  have HII := HI3.out _ a2 n2 cap2 H21B.out H21C.out HAL2.out
  have LX : Hid (w7.heap.size < W17.heap.size ∧ w8.heap.size < W17.heap.size ∧ W10.heap.size < W17.heap.size ∧ w14.heap.size < W17.heap.size) := ⟨H21o.out.lt, H21f.out.lt, H21c.out.lt, H21r.out.lt⟩
  refine HII.mono ?_
  rintro e w18 ⟨a3, n3, cap3, rfl, hc, hal, hnr, hb⟩
  have H22n : Hid (Blk w18 (w.heap.size) #[.int .i64 x0, .int .i64 x1, .int .i64 x2, .int .i64 x3] 23) := H21n.out.next hb
  have H22x : Hid (Blk w18 (w.heap.size + 1) #[.int .i64 0, .int .i64 y1, .int .i64 y2, .int .i64 y3] 25) := H21x.out.next hb
  have H22y : Hid (Blk w18 (w.heap.size + 2) #[.int .i64 0, .int .i64 z1, .int .i64 z2, .int .i64 z3] 25) := H21y.out.next hb
  have H22m : Hid (Blk w18 (w1.heap.size) #[.int .i64 p, .int .i64 q, .int .i64 0, .int .i64 0, .int .u64 0, .int .i64 s, .int .i64 0] 30) := H21m.out.next hb
  have H22o : Hid (Blk w18 (w7.heap.size) #[.int .i64 0, .int .i64 2, .int .i64 oa, .int .i64 ot] 36) := H21o.out.next hb
  have H22f : Hid (Blk w18 (w8.heap.size) #[.int .i64 0, .int .i64 3, .int .i64 fa, .int .i64 ft] 36) := H21f.out.next hb
  have H22c : Hid (Blk w18 (W10.heap.size) #[.int .i64 2, .int .i64 1, .int .i64 (q + 1 + j), .int .i64 0] 36) := H21c.out.next hb
  have H22r : Hid (Blk w18 (w14.heap.size) #[.slice a2 n2 cap2] 35) := H21r.out.next hb
  have H22B : Hid (Below w.heap.size w w18) := bel_step H21B.out hb
  clear q_m_0 q_f_3 q_r_0
  have HFR3 : Hid (∀ yy, a3 = some yy → yy.block ≠ w7.heap.size ∧ yy.block ≠ w8.heap.size ∧ yy.block ≠ W10.heap.size ∧ yy.block ≠ w14.heap.size) := fun yy hy => by
    obtain ⟨e1, e2, e3, e4⟩ := LX.out
    rcases hnr yy hy with h | ⟨zz, hz, hzy⟩
    · exact ⟨by omega, by omega, by omega, by omega⟩
    · obtain ⟨f1, f2, f3, f4⟩ := HFR2.out zz hz
      exact ⟨by omega, by omega, by omega, by omega⟩
  have HCr : Hid (Came w18 a3 n3 cap3 L3) := hc
  have HALX : Hid (Alive w18 a3) := hal
  clear H21n H21x H21y H21m H21o H21f H21c H21r H21B hb hc hal hnr HII LX HAL2 HFR2 HI3
  go_wp2_with (first
    | (refine wp_letAll rfl 35 _ _ rfl (w14.heap.size) rfl #[.slice a3 n3 cap3] rfl (by kernel_rfl) (by simp [Value.oneCell']) #[.slice a2 n2 cap2] 35 H22r.out rfl ?_)
    | (refine wp_whole rfl 23 _ rfl (w.heap.size) rfl 23 #[.int .i64 x0, .int .i64 x1, .int .i64 x2, .int .i64 x3] _ H22n.out Tryd.underlying23 rfl (by kernel_rfl) ?_)
    | (refine wp_wholeG (by rfl) 23 _ rfl (w.heap.size) rfl 23 #[.int .i64 x0, .int .i64 x1, .int .i64 x2, .int .i64 x3] _ H22n.out Tryd.underlying23 rfl (by kernel_rfl) ?_)
    | (refine wp_whole rfl 25 _ rfl (w.heap.size + 1) rfl 25 #[.int .i64 0, .int .i64 y1, .int .i64 y2, .int .i64 y3] _ H22x.out Tryd.underlying25 rfl (by kernel_rfl) ?_)
    | (refine wp_wholeG (by rfl) 25 _ rfl (w.heap.size + 1) rfl 25 #[.int .i64 0, .int .i64 y1, .int .i64 y2, .int .i64 y3] _ H22x.out Tryd.underlying25 rfl (by kernel_rfl) ?_)
    | (refine wp_whole rfl 25 _ rfl (w.heap.size + 2) rfl 25 #[.int .i64 0, .int .i64 z1, .int .i64 z2, .int .i64 z3] _ H22y.out Tryd.underlying25 rfl (by kernel_rfl) ?_)
    | (refine wp_wholeG (by rfl) 25 _ rfl (w.heap.size + 2) rfl 25 #[.int .i64 0, .int .i64 z1, .int .i64 z2, .int .i64 z3] _ H22y.out Tryd.underlying25 rfl (by kernel_rfl) ?_)
    | (refine wp_whole rfl 30 _ rfl (w1.heap.size) rfl 30 #[.int .i64 p, .int .i64 q, .int .i64 0, .int .i64 0, .int .u64 0, .int .i64 s, .int .i64 0] _ H22m.out Tryd.underlying30 rfl (by kernel_rfl) ?_)
    | (refine wp_wholeG (by rfl) 30 _ rfl (w1.heap.size) rfl 30 #[.int .i64 p, .int .i64 q, .int .i64 0, .int .i64 0, .int .u64 0, .int .i64 s, .int .i64 0] _ H22m.out Tryd.underlying30 rfl (by kernel_rfl) ?_)
    | (refine wp_whole rfl 36 _ rfl (w7.heap.size) rfl 36 #[.int .i64 0, .int .i64 2, .int .i64 oa, .int .i64 ot] _ H22o.out Tryd.underlying36 rfl (by kernel_rfl) ?_)
    | (refine wp_wholeG (by rfl) 36 _ rfl (w7.heap.size) rfl 36 #[.int .i64 0, .int .i64 2, .int .i64 oa, .int .i64 ot] _ H22o.out Tryd.underlying36 rfl (by kernel_rfl) ?_)
    | (refine wp_whole rfl 36 _ rfl (w8.heap.size) rfl 36 #[.int .i64 0, .int .i64 3, .int .i64 fa, .int .i64 ft] _ H22f.out Tryd.underlying36 rfl (by kernel_rfl) ?_)
    | (refine wp_wholeG (by rfl) 36 _ rfl (w8.heap.size) rfl 36 #[.int .i64 0, .int .i64 3, .int .i64 fa, .int .i64 ft] _ H22f.out Tryd.underlying36 rfl (by kernel_rfl) ?_)
    | (refine wp_whole rfl 36 _ rfl (W10.heap.size) rfl 36 #[.int .i64 2, .int .i64 1, .int .i64 (q + 1 + j), .int .i64 0] _ H22c.out Tryd.underlying36 rfl (by kernel_rfl) ?_)
    | (refine wp_wholeG (by rfl) 36 _ rfl (W10.heap.size) rfl 36 #[.int .i64 2, .int .i64 1, .int .i64 (q + 1 + j), .int .i64 0] _ H22c.out Tryd.underlying36 rfl (by kernel_rfl) ?_)
    | (refine wp_whole rfl 35 _ rfl (w14.heap.size) rfl 35 #[.slice a2 n2 cap2] _ H22r.out Tryd.underlying35 rfl (by kernel_rfl) ?_)
    | (refine wp_wholeG (by rfl) 35 _ rfl (w14.heap.size) rfl 35 #[.slice a2 n2 cap2] _ H22r.out Tryd.underlying35 rfl (by kernel_rfl) ?_)
    | fail)
  intro W19 hU
  have hL2mn := L2mn.out
  have hL2mx := L2mx.out
  have hL2my := L2my.out
  have hL20 := L20.out
  have hL9on := L9on.out
  have hL9ox := L9ox.out
  have hL9oy := L9oy.out
  have hL9om := L9om.out
  have hL90 := L90.out
  have hL11fn := L11fn.out
  have hL11fx := L11fx.out
  have hL11fy := L11fy.out
  have hL11fm := L11fm.out
  have hL11fo := L11fo.out
  have hL110 := L110.out
  have hL14cn := L14cn.out
  have hL14cx := L14cx.out
  have hL14cy := L14cy.out
  have hL14cm := L14cm.out
  have hL14co := L14co.out
  have hL14cf := L14cf.out
  have hL140 := L140.out
  have hL19rn := L19rn.out
  have hL19rx := L19rx.out
  have hL19ry := L19ry.out
  have hL19rm := L19rm.out
  have hL19ro := L19ro.out
  have hL19rf := L19rf.out
  have hL19rc := L19rc.out
  have hL190 := L190.out
  have H23n : Hid (Blk W19 (w.heap.size) #[.int .i64 x0, .int .i64 x1, .int .i64 x2, .int .i64 x3] 23) := hU.keep H22n.out (by omega)
  have H23x : Hid (Blk W19 (w.heap.size + 1) #[.int .i64 0, .int .i64 y1, .int .i64 y2, .int .i64 y3] 25) := hU.keep H22x.out (by omega)
  have H23y : Hid (Blk W19 (w.heap.size + 2) #[.int .i64 0, .int .i64 z1, .int .i64 z2, .int .i64 z3] 25) := hU.keep H22y.out (by omega)
  have H23m : Hid (Blk W19 (w1.heap.size) #[.int .i64 p, .int .i64 q, .int .i64 0, .int .i64 0, .int .u64 0, .int .i64 s, .int .i64 0] 30) := hU.keep H22m.out (by omega)
  have H23o : Hid (Blk W19 (w7.heap.size) #[.int .i64 0, .int .i64 2, .int .i64 oa, .int .i64 ot] 36) := hU.keep H22o.out (by omega)
  have H23f : Hid (Blk W19 (w8.heap.size) #[.int .i64 0, .int .i64 3, .int .i64 fa, .int .i64 ft] 36) := hU.keep H22f.out (by omega)
  have H23c : Hid (Blk W19 (W10.heap.size) #[.int .i64 2, .int .i64 1, .int .i64 (q + 1 + j), .int .i64 0] 36) := hU.keep H22c.out (by omega)
  have H23r : Hid (Blk W19 (w14.heap.size) #[.slice a3 n3 cap3] 35) := hU.blk
  have H23B : Hid (Below w.heap.size w W19) := hU.bel _ _ (by omega) H22B.out
  have H23C : Hid (Came W19 a3 n3 cap3 L3) := upd_came hU HCr.out (fun yy hy => (HFR3.out yy hy).2.2.2)
  have HAL3 : Hid (Alive W19 a3) := fun yy hy => by rw [hU.size]; exact HALX.out yy hy
  clear hU H22n H22x H22y H22m H22o H22f H22c H22r H22B HCr HALX hL2mn hL2mx hL2my hL20 hL9on hL9ox hL9oy hL9om hL90 hL11fn hL11fx hL11fy hL11fm hL11fo hL110 hL14cn hL14cx hL14cy hL14cm hL14co hL14cf hL140 hL19rn hL19rx hL19ry hL19rm hL19ro hL19rf hL19rc hL190
  clear HAL3
  go_wp2_with (first
    | (refine wp_let1 rfl 3 _ _ rfl (w7.heap.size) 3 rfl .i64 ot rfl (by kernel_rfl) #[.int .i64 0, .int .i64 2, .int .i64 oa, .int .i64 ot] 36 H23o.out (by simp) ?_)
    | (refine wp_whole rfl 23 _ rfl (w.heap.size) rfl 23 #[.int .i64 x0, .int .i64 x1, .int .i64 x2, .int .i64 x3] _ H23n.out Tryd.underlying23 rfl (by kernel_rfl) ?_)
    | (refine wp_wholeG (by rfl) 23 _ rfl (w.heap.size) rfl 23 #[.int .i64 x0, .int .i64 x1, .int .i64 x2, .int .i64 x3] _ H23n.out Tryd.underlying23 rfl (by kernel_rfl) ?_)
    | (refine wp_whole rfl 25 _ rfl (w.heap.size + 1) rfl 25 #[.int .i64 0, .int .i64 y1, .int .i64 y2, .int .i64 y3] _ H23x.out Tryd.underlying25 rfl (by kernel_rfl) ?_)
    | (refine wp_wholeG (by rfl) 25 _ rfl (w.heap.size + 1) rfl 25 #[.int .i64 0, .int .i64 y1, .int .i64 y2, .int .i64 y3] _ H23x.out Tryd.underlying25 rfl (by kernel_rfl) ?_)
    | (refine wp_whole rfl 25 _ rfl (w.heap.size + 2) rfl 25 #[.int .i64 0, .int .i64 z1, .int .i64 z2, .int .i64 z3] _ H23y.out Tryd.underlying25 rfl (by kernel_rfl) ?_)
    | (refine wp_wholeG (by rfl) 25 _ rfl (w.heap.size + 2) rfl 25 #[.int .i64 0, .int .i64 z1, .int .i64 z2, .int .i64 z3] _ H23y.out Tryd.underlying25 rfl (by kernel_rfl) ?_)
    | (refine wp_whole rfl 30 _ rfl (w1.heap.size) rfl 30 #[.int .i64 p, .int .i64 q, .int .i64 0, .int .i64 0, .int .u64 0, .int .i64 s, .int .i64 0] _ H23m.out Tryd.underlying30 rfl (by kernel_rfl) ?_)
    | (refine wp_wholeG (by rfl) 30 _ rfl (w1.heap.size) rfl 30 #[.int .i64 p, .int .i64 q, .int .i64 0, .int .i64 0, .int .u64 0, .int .i64 s, .int .i64 0] _ H23m.out Tryd.underlying30 rfl (by kernel_rfl) ?_)
    | (refine wp_whole rfl 36 _ rfl (w7.heap.size) rfl 36 #[.int .i64 0, .int .i64 2, .int .i64 oa, .int .i64 ot] _ H23o.out Tryd.underlying36 rfl (by kernel_rfl) ?_)
    | (refine wp_wholeG (by rfl) 36 _ rfl (w7.heap.size) rfl 36 #[.int .i64 0, .int .i64 2, .int .i64 oa, .int .i64 ot] _ H23o.out Tryd.underlying36 rfl (by kernel_rfl) ?_)
    | (refine wp_whole rfl 36 _ rfl (w8.heap.size) rfl 36 #[.int .i64 0, .int .i64 3, .int .i64 fa, .int .i64 ft] _ H23f.out Tryd.underlying36 rfl (by kernel_rfl) ?_)
    | (refine wp_wholeG (by rfl) 36 _ rfl (w8.heap.size) rfl 36 #[.int .i64 0, .int .i64 3, .int .i64 fa, .int .i64 ft] _ H23f.out Tryd.underlying36 rfl (by kernel_rfl) ?_)
    | (refine wp_whole rfl 36 _ rfl (W10.heap.size) rfl 36 #[.int .i64 2, .int .i64 1, .int .i64 (q + 1 + j), .int .i64 0] _ H23c.out Tryd.underlying36 rfl (by kernel_rfl) ?_)
    | (refine wp_wholeG (by rfl) 36 _ rfl (W10.heap.size) rfl 36 #[.int .i64 2, .int .i64 1, .int .i64 (q + 1 + j), .int .i64 0] _ H23c.out Tryd.underlying36 rfl (by kernel_rfl) ?_)
    | (refine wp_whole rfl 35 _ rfl (w14.heap.size) rfl 35 #[.slice a3 n3 cap3] _ H23r.out Tryd.underlying35 rfl (by kernel_rfl) ?_)
    | (refine wp_wholeG (by rfl) 35 _ rfl (w14.heap.size) rfl 35 #[.slice a3 n3 cap3] _ H23r.out Tryd.underlying35 rfl (by kernel_rfl) ?_)
    | fail)
  intro W20 hU
  have hL2mn := L2mn.out
  have hL2mx := L2mx.out
  have hL2my := L2my.out
  have hL20 := L20.out
  have hL9on := L9on.out
  have hL9ox := L9ox.out
  have hL9oy := L9oy.out
  have hL9om := L9om.out
  have hL90 := L90.out
  have hL11fn := L11fn.out
  have hL11fx := L11fx.out
  have hL11fy := L11fy.out
  have hL11fm := L11fm.out
  have hL11fo := L11fo.out
  have hL110 := L110.out
  have hL14cn := L14cn.out
  have hL14cx := L14cx.out
  have hL14cy := L14cy.out
  have hL14cm := L14cm.out
  have hL14co := L14co.out
  have hL14cf := L14cf.out
  have hL140 := L140.out
  have hL19rn := L19rn.out
  have hL19rx := L19rx.out
  have hL19ry := L19ry.out
  have hL19rm := L19rm.out
  have hL19ro := L19ro.out
  have hL19rf := L19rf.out
  have hL19rc := L19rc.out
  have hL190 := L190.out
  have H24n : Hid (Blk W20 (w.heap.size) #[.int .i64 x0, .int .i64 x1, .int .i64 x2, .int .i64 x3] 23) := hU.keep H23n.out (by omega)
  have H24x : Hid (Blk W20 (w.heap.size + 1) #[.int .i64 0, .int .i64 y1, .int .i64 y2, .int .i64 y3] 25) := hU.keep H23x.out (by omega)
  have H24y : Hid (Blk W20 (w.heap.size + 2) #[.int .i64 0, .int .i64 z1, .int .i64 z2, .int .i64 z3] 25) := hU.keep H23y.out (by omega)
  have H24m : Hid (Blk W20 (w1.heap.size) #[.int .i64 p, .int .i64 q, .int .i64 0, .int .i64 0, .int .u64 0, .int .i64 s, .int .i64 0] 30) := hU.keep H23m.out (by omega)
  have H24o : Hid (Blk W20 (w7.heap.size) #[.int .i64 0, .int .i64 2, .int .i64 oa, .int .i64 ot] 36) := hU.blk
  have H24f : Hid (Blk W20 (w8.heap.size) #[.int .i64 0, .int .i64 3, .int .i64 fa, .int .i64 ft] 36) := hU.keep H23f.out (by omega)
  have H24c : Hid (Blk W20 (W10.heap.size) #[.int .i64 2, .int .i64 1, .int .i64 (q + 1 + j), .int .i64 0] 36) := hU.keep H23c.out (by omega)
  have H24r : Hid (Blk W20 (w14.heap.size) #[.slice a3 n3 cap3] 35) := hU.keep H23r.out (by omega)
  have H24B : Hid (Below w.heap.size w W20) := hU.bel _ _ (by omega) H23B.out
  have H24Cr : Hid (Came W20 a3 n3 cap3 L3) := upd_came hU H23C.out (fun yy hy => (HFR3.out yy hy).1)
  clear hU H23n H23x H23y H23m H23o H23f H23c H23r H23C H23B hL2mn hL2mx hL2my hL20 hL9on hL9ox hL9oy hL9om hL90 hL11fn hL11fx hL11fy hL11fm hL11fo hL110 hL14cn hL14cx hL14cy hL14cm hL14co hL14cf hL140 hL19rn hL19rx hL19ry hL19rm hL19ro hL19rf hL19rc hL190 
  go_wp2_with (first
    | (refine wp_let1 rfl 3 _ _ rfl (W10.heap.size) 3 rfl .i64 5 rfl (by kernel_rfl) #[.int .i64 2, .int .i64 1, .int .i64 (q + 1 + j), .int .i64 0] 36 H24c.out (by simp) ?_)
    | (refine wp_whole rfl 23 _ rfl (w.heap.size) rfl 23 #[.int .i64 x0, .int .i64 x1, .int .i64 x2, .int .i64 x3] _ H24n.out Tryd.underlying23 rfl (by kernel_rfl) ?_)
    | (refine wp_wholeG (by rfl) 23 _ rfl (w.heap.size) rfl 23 #[.int .i64 x0, .int .i64 x1, .int .i64 x2, .int .i64 x3] _ H24n.out Tryd.underlying23 rfl (by kernel_rfl) ?_)
    | (refine wp_whole rfl 25 _ rfl (w.heap.size + 1) rfl 25 #[.int .i64 0, .int .i64 y1, .int .i64 y2, .int .i64 y3] _ H24x.out Tryd.underlying25 rfl (by kernel_rfl) ?_)
    | (refine wp_wholeG (by rfl) 25 _ rfl (w.heap.size + 1) rfl 25 #[.int .i64 0, .int .i64 y1, .int .i64 y2, .int .i64 y3] _ H24x.out Tryd.underlying25 rfl (by kernel_rfl) ?_)
    | (refine wp_whole rfl 25 _ rfl (w.heap.size + 2) rfl 25 #[.int .i64 0, .int .i64 z1, .int .i64 z2, .int .i64 z3] _ H24y.out Tryd.underlying25 rfl (by kernel_rfl) ?_)
    | (refine wp_wholeG (by rfl) 25 _ rfl (w.heap.size + 2) rfl 25 #[.int .i64 0, .int .i64 z1, .int .i64 z2, .int .i64 z3] _ H24y.out Tryd.underlying25 rfl (by kernel_rfl) ?_)
    | (refine wp_whole rfl 30 _ rfl (w1.heap.size) rfl 30 #[.int .i64 p, .int .i64 q, .int .i64 0, .int .i64 0, .int .u64 0, .int .i64 s, .int .i64 0] _ H24m.out Tryd.underlying30 rfl (by kernel_rfl) ?_)
    | (refine wp_wholeG (by rfl) 30 _ rfl (w1.heap.size) rfl 30 #[.int .i64 p, .int .i64 q, .int .i64 0, .int .i64 0, .int .u64 0, .int .i64 s, .int .i64 0] _ H24m.out Tryd.underlying30 rfl (by kernel_rfl) ?_)
    | (refine wp_whole rfl 36 _ rfl (w7.heap.size) rfl 36 #[.int .i64 0, .int .i64 2, .int .i64 oa, .int .i64 ot] _ H24o.out Tryd.underlying36 rfl (by kernel_rfl) ?_)
    | (refine wp_wholeG (by rfl) 36 _ rfl (w7.heap.size) rfl 36 #[.int .i64 0, .int .i64 2, .int .i64 oa, .int .i64 ot] _ H24o.out Tryd.underlying36 rfl (by kernel_rfl) ?_)
    | (refine wp_whole rfl 36 _ rfl (w8.heap.size) rfl 36 #[.int .i64 0, .int .i64 3, .int .i64 fa, .int .i64 ft] _ H24f.out Tryd.underlying36 rfl (by kernel_rfl) ?_)
    | (refine wp_wholeG (by rfl) 36 _ rfl (w8.heap.size) rfl 36 #[.int .i64 0, .int .i64 3, .int .i64 fa, .int .i64 ft] _ H24f.out Tryd.underlying36 rfl (by kernel_rfl) ?_)
    | (refine wp_whole rfl 36 _ rfl (W10.heap.size) rfl 36 #[.int .i64 2, .int .i64 1, .int .i64 (q + 1 + j), .int .i64 0] _ H24c.out Tryd.underlying36 rfl (by kernel_rfl) ?_)
    | (refine wp_wholeG (by rfl) 36 _ rfl (W10.heap.size) rfl 36 #[.int .i64 2, .int .i64 1, .int .i64 (q + 1 + j), .int .i64 0] _ H24c.out Tryd.underlying36 rfl (by kernel_rfl) ?_)
    | (refine wp_whole rfl 35 _ rfl (w14.heap.size) rfl 35 #[.slice a3 n3 cap3] _ H24r.out Tryd.underlying35 rfl (by kernel_rfl) ?_)
    | (refine wp_wholeG (by rfl) 35 _ rfl (w14.heap.size) rfl 35 #[.slice a3 n3 cap3] _ H24r.out Tryd.underlying35 rfl (by kernel_rfl) ?_)
    | fail)
  intro W21 hU
  have hL2mn := L2mn.out
  have hL2mx := L2mx.out
  have hL2my := L2my.out
  have hL20 := L20.out
  have hL9on := L9on.out
  have hL9ox := L9ox.out
  have hL9oy := L9oy.out
  have hL9om := L9om.out
  have hL90 := L90.out
  have hL11fn := L11fn.out
  have hL11fx := L11fx.out
  have hL11fy := L11fy.out
  have hL11fm := L11fm.out
  have hL11fo := L11fo.out
  have hL110 := L110.out
  have hL14cn := L14cn.out
  have hL14cx := L14cx.out
  have hL14cy := L14cy.out
  have hL14cm := L14cm.out
  have hL14co := L14co.out
  have hL14cf := L14cf.out
  have hL140 := L140.out
  have hL19rn := L19rn.out
  have hL19rx := L19rx.out
  have hL19ry := L19ry.out
  have hL19rm := L19rm.out
  have hL19ro := L19ro.out
  have hL19rf := L19rf.out
  have hL19rc := L19rc.out
  have hL190 := L190.out
  have H25n : Hid (Blk W21 (w.heap.size) #[.int .i64 x0, .int .i64 x1, .int .i64 x2, .int .i64 x3] 23) := hU.keep H24n.out (by omega)
  have H25x : Hid (Blk W21 (w.heap.size + 1) #[.int .i64 0, .int .i64 y1, .int .i64 y2, .int .i64 y3] 25) := hU.keep H24x.out (by omega)
  have H25y : Hid (Blk W21 (w.heap.size + 2) #[.int .i64 0, .int .i64 z1, .int .i64 z2, .int .i64 z3] 25) := hU.keep H24y.out (by omega)
  have H25m : Hid (Blk W21 (w1.heap.size) #[.int .i64 p, .int .i64 q, .int .i64 0, .int .i64 0, .int .u64 0, .int .i64 s, .int .i64 0] 30) := hU.keep H24m.out (by omega)
  have H25o : Hid (Blk W21 (w7.heap.size) #[.int .i64 0, .int .i64 2, .int .i64 oa, .int .i64 ot] 36) := hU.keep H24o.out (by omega)
  have H25f : Hid (Blk W21 (w8.heap.size) #[.int .i64 0, .int .i64 3, .int .i64 fa, .int .i64 ft] 36) := hU.keep H24f.out (by omega)
  have H25c : Hid (Blk W21 (W10.heap.size) #[.int .i64 2, .int .i64 1, .int .i64 (q + 1 + j), .int .i64 5] 36) := hU.blk
  have H25r : Hid (Blk W21 (w14.heap.size) #[.slice a3 n3 cap3] 35) := hU.keep H24r.out (by omega)
  have H25B : Hid (Below w.heap.size w W21) := hU.bel _ _ (by omega) H24B.out
  have H25Cr : Hid (Came W21 a3 n3 cap3 L3) := upd_came hU H24Cr.out (fun yy hy => (HFR3.out yy hy).2.2.1)
  clear hU H24n H24x H24y H24m H24o H24f H24c H24r H24Cr H24B hL2mn hL2mx hL2my hL20 hL9on hL9ox hL9oy hL9om hL90 hL11fn hL11fx hL11fy hL11fm hL11fo hL110 hL14cn hL14cx hL14cy hL14cm hL14co hL14cf hL140 hL19rn hL19rx hL19ry hL19rm hL19ro hL19rf hL19rc hL190 
  go_wp2_with (first
    | (refine wp_let1 rfl 3 _ _ rfl (w8.heap.size) 3 rfl .i64 ft rfl (by kernel_rfl) #[.int .i64 0, .int .i64 3, .int .i64 fa, .int .i64 ft] 36 H25f.out (by simp) ?_)
    | (refine wp_whole rfl 23 _ rfl (w.heap.size) rfl 23 #[.int .i64 x0, .int .i64 x1, .int .i64 x2, .int .i64 x3] _ H25n.out Tryd.underlying23 rfl (by kernel_rfl) ?_)
    | (refine wp_wholeG (by rfl) 23 _ rfl (w.heap.size) rfl 23 #[.int .i64 x0, .int .i64 x1, .int .i64 x2, .int .i64 x3] _ H25n.out Tryd.underlying23 rfl (by kernel_rfl) ?_)
    | (refine wp_whole rfl 25 _ rfl (w.heap.size + 1) rfl 25 #[.int .i64 0, .int .i64 y1, .int .i64 y2, .int .i64 y3] _ H25x.out Tryd.underlying25 rfl (by kernel_rfl) ?_)
    | (refine wp_wholeG (by rfl) 25 _ rfl (w.heap.size + 1) rfl 25 #[.int .i64 0, .int .i64 y1, .int .i64 y2, .int .i64 y3] _ H25x.out Tryd.underlying25 rfl (by kernel_rfl) ?_)
    | (refine wp_whole rfl 25 _ rfl (w.heap.size + 2) rfl 25 #[.int .i64 0, .int .i64 z1, .int .i64 z2, .int .i64 z3] _ H25y.out Tryd.underlying25 rfl (by kernel_rfl) ?_)
    | (refine wp_wholeG (by rfl) 25 _ rfl (w.heap.size + 2) rfl 25 #[.int .i64 0, .int .i64 z1, .int .i64 z2, .int .i64 z3] _ H25y.out Tryd.underlying25 rfl (by kernel_rfl) ?_)
    | (refine wp_whole rfl 30 _ rfl (w1.heap.size) rfl 30 #[.int .i64 p, .int .i64 q, .int .i64 0, .int .i64 0, .int .u64 0, .int .i64 s, .int .i64 0] _ H25m.out Tryd.underlying30 rfl (by kernel_rfl) ?_)
    | (refine wp_wholeG (by rfl) 30 _ rfl (w1.heap.size) rfl 30 #[.int .i64 p, .int .i64 q, .int .i64 0, .int .i64 0, .int .u64 0, .int .i64 s, .int .i64 0] _ H25m.out Tryd.underlying30 rfl (by kernel_rfl) ?_)
    | (refine wp_whole rfl 36 _ rfl (w7.heap.size) rfl 36 #[.int .i64 0, .int .i64 2, .int .i64 oa, .int .i64 ot] _ H25o.out Tryd.underlying36 rfl (by kernel_rfl) ?_)
    | (refine wp_wholeG (by rfl) 36 _ rfl (w7.heap.size) rfl 36 #[.int .i64 0, .int .i64 2, .int .i64 oa, .int .i64 ot] _ H25o.out Tryd.underlying36 rfl (by kernel_rfl) ?_)
    | (refine wp_whole rfl 36 _ rfl (w8.heap.size) rfl 36 #[.int .i64 0, .int .i64 3, .int .i64 fa, .int .i64 ft] _ H25f.out Tryd.underlying36 rfl (by kernel_rfl) ?_)
    | (refine wp_wholeG (by rfl) 36 _ rfl (w8.heap.size) rfl 36 #[.int .i64 0, .int .i64 3, .int .i64 fa, .int .i64 ft] _ H25f.out Tryd.underlying36 rfl (by kernel_rfl) ?_)
    | (refine wp_whole rfl 36 _ rfl (W10.heap.size) rfl 36 #[.int .i64 2, .int .i64 1, .int .i64 (q + 1 + j), .int .i64 5] _ H25c.out Tryd.underlying36 rfl (by kernel_rfl) ?_)
    | (refine wp_wholeG (by rfl) 36 _ rfl (W10.heap.size) rfl 36 #[.int .i64 2, .int .i64 1, .int .i64 (q + 1 + j), .int .i64 5] _ H25c.out Tryd.underlying36 rfl (by kernel_rfl) ?_)
    | (refine wp_whole rfl 35 _ rfl (w14.heap.size) rfl 35 #[.slice a3 n3 cap3] _ H25r.out Tryd.underlying35 rfl (by kernel_rfl) ?_)
    | (refine wp_wholeG (by rfl) 35 _ rfl (w14.heap.size) rfl 35 #[.slice a3 n3 cap3] _ H25r.out Tryd.underlying35 rfl (by kernel_rfl) ?_)
    | fail)
  intro W22 hU
  have hL2mn := L2mn.out
  have hL2mx := L2mx.out
  have hL2my := L2my.out
  have hL20 := L20.out
  have hL9on := L9on.out
  have hL9ox := L9ox.out
  have hL9oy := L9oy.out
  have hL9om := L9om.out
  have hL90 := L90.out
  have hL11fn := L11fn.out
  have hL11fx := L11fx.out
  have hL11fy := L11fy.out
  have hL11fm := L11fm.out
  have hL11fo := L11fo.out
  have hL110 := L110.out
  have hL14cn := L14cn.out
  have hL14cx := L14cx.out
  have hL14cy := L14cy.out
  have hL14cm := L14cm.out
  have hL14co := L14co.out
  have hL14cf := L14cf.out
  have hL140 := L140.out
  have hL19rn := L19rn.out
  have hL19rx := L19rx.out
  have hL19ry := L19ry.out
  have hL19rm := L19rm.out
  have hL19ro := L19ro.out
  have hL19rf := L19rf.out
  have hL19rc := L19rc.out
  have hL190 := L190.out
  have H26n : Hid (Blk W22 (w.heap.size) #[.int .i64 x0, .int .i64 x1, .int .i64 x2, .int .i64 x3] 23) := hU.keep H25n.out (by omega)
  have H26x : Hid (Blk W22 (w.heap.size + 1) #[.int .i64 0, .int .i64 y1, .int .i64 y2, .int .i64 y3] 25) := hU.keep H25x.out (by omega)
  have H26y : Hid (Blk W22 (w.heap.size + 2) #[.int .i64 0, .int .i64 z1, .int .i64 z2, .int .i64 z3] 25) := hU.keep H25y.out (by omega)
  have H26m : Hid (Blk W22 (w1.heap.size) #[.int .i64 p, .int .i64 q, .int .i64 0, .int .i64 0, .int .u64 0, .int .i64 s, .int .i64 0] 30) := hU.keep H25m.out (by omega)
  have H26o : Hid (Blk W22 (w7.heap.size) #[.int .i64 0, .int .i64 2, .int .i64 oa, .int .i64 ot] 36) := hU.keep H25o.out (by omega)
  have H26f : Hid (Blk W22 (w8.heap.size) #[.int .i64 0, .int .i64 3, .int .i64 fa, .int .i64 ft] 36) := hU.blk
  have H26c : Hid (Blk W22 (W10.heap.size) #[.int .i64 2, .int .i64 1, .int .i64 (q + 1 + j), .int .i64 5] 36) := hU.keep H25c.out (by omega)
  have H26r : Hid (Blk W22 (w14.heap.size) #[.slice a3 n3 cap3] 35) := hU.keep H25r.out (by omega)
  have H26B : Hid (Below w.heap.size w W22) := hU.bel _ _ (by omega) H25B.out
  have H26Cr : Hid (Came W22 a3 n3 cap3 L3) := upd_came hU H25Cr.out (fun yy hy => (HFR3.out yy hy).2.1)
  clear hU H25n H25x H25y H25m H25o H25f H25c H25r H25Cr H25B hL2mn hL2mx hL2my hL20 hL9on hL9ox hL9oy hL9om hL90 hL11fn hL11fx hL11fy hL11fm hL11fo hL110 hL14cn hL14cx hL14cy hL14cm hL14co hL14cf hL140 hL19rn hL19rx hL19ry hL19rm hL19ro hL19rf hL19rc hL190 
  have q_r_0 : W22.cell? ⟨w14.heap.size, 0, none⟩ = some (.slice a3 n3 cap3) := H26r.out.cell 0
  go_wp2_with (first
    | (refine wp_whole rfl 23 _ rfl (w.heap.size) rfl 23 #[.int .i64 x0, .int .i64 x1, .int .i64 x2, .int .i64 x3] _ H26n.out Tryd.underlying23 rfl (by kernel_rfl) ?_)
    | (refine wp_wholeG (by rfl) 23 _ rfl (w.heap.size) rfl 23 #[.int .i64 x0, .int .i64 x1, .int .i64 x2, .int .i64 x3] _ H26n.out Tryd.underlying23 rfl (by kernel_rfl) ?_)
    | (refine wp_whole rfl 25 _ rfl (w.heap.size + 1) rfl 25 #[.int .i64 0, .int .i64 y1, .int .i64 y2, .int .i64 y3] _ H26x.out Tryd.underlying25 rfl (by kernel_rfl) ?_)
    | (refine wp_wholeG (by rfl) 25 _ rfl (w.heap.size + 1) rfl 25 #[.int .i64 0, .int .i64 y1, .int .i64 y2, .int .i64 y3] _ H26x.out Tryd.underlying25 rfl (by kernel_rfl) ?_)
    | (refine wp_whole rfl 25 _ rfl (w.heap.size + 2) rfl 25 #[.int .i64 0, .int .i64 z1, .int .i64 z2, .int .i64 z3] _ H26y.out Tryd.underlying25 rfl (by kernel_rfl) ?_)
    | (refine wp_wholeG (by rfl) 25 _ rfl (w.heap.size + 2) rfl 25 #[.int .i64 0, .int .i64 z1, .int .i64 z2, .int .i64 z3] _ H26y.out Tryd.underlying25 rfl (by kernel_rfl) ?_)
    | (refine wp_whole rfl 30 _ rfl (w1.heap.size) rfl 30 #[.int .i64 p, .int .i64 q, .int .i64 0, .int .i64 0, .int .u64 0, .int .i64 s, .int .i64 0] _ H26m.out Tryd.underlying30 rfl (by kernel_rfl) ?_)
    | (refine wp_wholeG (by rfl) 30 _ rfl (w1.heap.size) rfl 30 #[.int .i64 p, .int .i64 q, .int .i64 0, .int .i64 0, .int .u64 0, .int .i64 s, .int .i64 0] _ H26m.out Tryd.underlying30 rfl (by kernel_rfl) ?_)
    | (refine wp_whole rfl 36 _ rfl (w7.heap.size) rfl 36 #[.int .i64 0, .int .i64 2, .int .i64 oa, .int .i64 ot] _ H26o.out Tryd.underlying36 rfl (by kernel_rfl) ?_)
    | (refine wp_wholeG (by rfl) 36 _ rfl (w7.heap.size) rfl 36 #[.int .i64 0, .int .i64 2, .int .i64 oa, .int .i64 ot] _ H26o.out Tryd.underlying36 rfl (by kernel_rfl) ?_)
    | (refine wp_whole rfl 36 _ rfl (w8.heap.size) rfl 36 #[.int .i64 0, .int .i64 3, .int .i64 fa, .int .i64 ft] _ H26f.out Tryd.underlying36 rfl (by kernel_rfl) ?_)
    | (refine wp_wholeG (by rfl) 36 _ rfl (w8.heap.size) rfl 36 #[.int .i64 0, .int .i64 3, .int .i64 fa, .int .i64 ft] _ H26f.out Tryd.underlying36 rfl (by kernel_rfl) ?_)
    | (refine wp_whole rfl 36 _ rfl (W10.heap.size) rfl 36 #[.int .i64 2, .int .i64 1, .int .i64 (q + 1 + j), .int .i64 5] _ H26c.out Tryd.underlying36 rfl (by kernel_rfl) ?_)
    | (refine wp_wholeG (by rfl) 36 _ rfl (W10.heap.size) rfl 36 #[.int .i64 2, .int .i64 1, .int .i64 (q + 1 + j), .int .i64 5] _ H26c.out Tryd.underlying36 rfl (by kernel_rfl) ?_)
    | (refine wp_whole rfl 35 _ rfl (w14.heap.size) rfl 35 #[.slice a3 n3 cap3] _ H26r.out Tryd.underlying35 rfl (by kernel_rfl) ?_)
    | (refine wp_wholeG (by rfl) 35 _ rfl (w14.heap.size) rfl 35 #[.slice a3 n3 cap3] _ H26r.out Tryd.underlying35 rfl (by kernel_rfl) ?_)
    | fail)
  have HKK := HK1.out _ a3 n3 cap3 H26B.out H26Cr.out
  refine HKK.mono ?_
  rintro e w23 ⟨rfl, hb⟩
  have H27n : Hid (Blk w23 (w.heap.size) #[.int .i64 x0, .int .i64 x1, .int .i64 x2, .int .i64 x3] 23) := H26n.out.next hb
  have H27x : Hid (Blk w23 (w.heap.size + 1) #[.int .i64 0, .int .i64 y1, .int .i64 y2, .int .i64 y3] 25) := H26x.out.next hb
  have H27y : Hid (Blk w23 (w.heap.size + 2) #[.int .i64 0, .int .i64 z1, .int .i64 z2, .int .i64 z3] 25) := H26y.out.next hb
  have H27m : Hid (Blk w23 (w1.heap.size) #[.int .i64 p, .int .i64 q, .int .i64 0, .int .i64 0, .int .u64 0, .int .i64 s, .int .i64 0] 30) := H26m.out.next hb
  have H27o : Hid (Blk w23 (w7.heap.size) #[.int .i64 0, .int .i64 2, .int .i64 oa, .int .i64 ot] 36) := H26o.out.next hb
  have H27f : Hid (Blk w23 (w8.heap.size) #[.int .i64 0, .int .i64 3, .int .i64 fa, .int .i64 ft] 36) := H26f.out.next hb
  have H27c : Hid (Blk w23 (W10.heap.size) #[.int .i64 2, .int .i64 1, .int .i64 (q + 1 + j), .int .i64 5] 36) := H26c.out.next hb
  have H27r : Hid (Blk w23 (w14.heap.size) #[.slice a3 n3 cap3] 35) := H26r.out.next hb
  have H27B : Hid (Below w.heap.size w w23) := bel_step H26B.out hb
  have H27Cr : Hid (Came w23 a3 n3 cap3 L3) := H26Cr.out.below hb
  clear q_r_0
  have H28n : Hid (Blk (w23.alloc (.cells #[.int .i64 p, .int .i64 q, .int .i64 0, .int .i64 0, .int .u64 0, .int .i64 s1, .int .i64 k1] 30)) (w.heap.size) #[.int .i64 x0, .int .i64 x1, .int .i64 x2, .int .i64 x3] 23) := (H27n.out).alloc _
  have H28x : Hid (Blk (w23.alloc (.cells #[.int .i64 p, .int .i64 q, .int .i64 0, .int .i64 0, .int .u64 0, .int .i64 s1, .int .i64 k1] 30)) (w.heap.size + 1) #[.int .i64 0, .int .i64 y1, .int .i64 y2, .int .i64 y3] 25) := (H27x.out).alloc _
  have H28y : Hid (Blk (w23.alloc (.cells #[.int .i64 p, .int .i64 q, .int .i64 0, .int .i64 0, .int .u64 0, .int .i64 s1, .int .i64 k1] 30)) (w.heap.size + 2) #[.int .i64 0, .int .i64 z1, .int .i64 z2, .int .i64 z3] 25) := (H27y.out).alloc _
  have H28m : Hid (Blk (w23.alloc (.cells #[.int .i64 p, .int .i64 q, .int .i64 0, .int .i64 0, .int .u64 0, .int .i64 s1, .int .i64 k1] 30)) (w1.heap.size) #[.int .i64 p, .int .i64 q, .int .i64 0, .int .i64 0, .int .u64 0, .int .i64 s, .int .i64 0] 30) := (H27m.out).alloc _
  have H28o : Hid (Blk (w23.alloc (.cells #[.int .i64 p, .int .i64 q, .int .i64 0, .int .i64 0, .int .u64 0, .int .i64 s1, .int .i64 k1] 30)) (w7.heap.size) #[.int .i64 0, .int .i64 2, .int .i64 oa, .int .i64 ot] 36) := (H27o.out).alloc _
  have H28f : Hid (Blk (w23.alloc (.cells #[.int .i64 p, .int .i64 q, .int .i64 0, .int .i64 0, .int .u64 0, .int .i64 s1, .int .i64 k1] 30)) (w8.heap.size) #[.int .i64 0, .int .i64 3, .int .i64 fa, .int .i64 ft] 36) := (H27f.out).alloc _
  have H28c : Hid (Blk (w23.alloc (.cells #[.int .i64 p, .int .i64 q, .int .i64 0, .int .i64 0, .int .u64 0, .int .i64 s1, .int .i64 k1] 30)) (W10.heap.size) #[.int .i64 2, .int .i64 1, .int .i64 (q + 1 + j), .int .i64 5] 36) := (H27c.out).alloc _
  have H28r : Hid (Blk (w23.alloc (.cells #[.int .i64 p, .int .i64 q, .int .i64 0, .int .i64 0, .int .u64 0, .int .i64 s1, .int .i64 k1] 30)) (w14.heap.size) #[.slice a3 n3 cap3] 35) := (H27r.out).alloc _
  have H28e : Hid (Blk (w23.alloc (.cells #[.int .i64 p, .int .i64 q, .int .i64 0, .int .i64 0, .int .u64 0, .int .i64 s1, .int .i64 k1] 30)) (w23.heap.size) #[.int .i64 p, .int .i64 q, .int .i64 0, .int .i64 0, .int .u64 0, .int .i64 s1, .int .i64 k1] 30) := (Blk.new w23 _ _)
  have L28en : Hid (w.heap.size < w23.heap.size) := Nat.lt_of_lt_of_le H27n.out.lt (by simp)
  have L28ex : Hid (w.heap.size + 1 < w23.heap.size) := Nat.lt_of_lt_of_le H27x.out.lt (by simp)
  have L28ey : Hid (w.heap.size + 2 < w23.heap.size) := Nat.lt_of_lt_of_le H27y.out.lt (by simp)
  have L28em : Hid (w1.heap.size < w23.heap.size) := Nat.lt_of_lt_of_le H27m.out.lt (by simp)
  have L28eo : Hid (w7.heap.size < w23.heap.size) := Nat.lt_of_lt_of_le H27o.out.lt (by simp)
  have L28ef : Hid (w8.heap.size < w23.heap.size) := Nat.lt_of_lt_of_le H27f.out.lt (by simp)
  have L28ec : Hid (W10.heap.size < w23.heap.size) := Nat.lt_of_lt_of_le H27c.out.lt (by simp)
  have L28er : Hid (w14.heap.size < w23.heap.size) := Nat.lt_of_lt_of_le H27r.out.lt (by simp)
  have H28B : Hid (Below w.heap.size w (w23.alloc (.cells #[.int .i64 p, .int .i64 q, .int .i64 0, .int .i64 0, .int .u64 0, .int .i64 s1, .int .i64 k1] 30))) := (H27B.out).alloc (Nat.le_trans H27B.out.size (by simp)) _
  have L280 : Hid (w.heap.size ≤ w23.heap.size) := H27B.out.size
  have H28Cr : Hid (Came (w23.alloc (.cells #[.int .i64 p, .int .i64 q, .int .i64 0, .int .i64 0, .int .u64 0, .int .i64 s1, .int .i64 k1] 30)) a3 n3 cap3 L3) := H27Cr.out.below ((Below.refl w23.heap.size w23).alloc (by simp) _)
  clear H26n H26x H26y H26m H26o H26f H26c H26r H26Cr H26B H27n H27x H27y H27m H27o H27f H27c H27r H27Cr H27B hb HKK HK1
  have q_r_0 : (w23.alloc (.cells #[.int .i64 p, .int .i64 q, .int .i64 0, .int .i64 0, .int .u64 0, .int .i64 s1, .int .i64 k1] 30)).cell? ⟨w14.heap.size, 0, none⟩ = some (.slice a3 n3 cap3) := H28r.out.cell 0
  go_wp2_with (first
    | (refine wp_whole rfl 23 _ rfl (w.heap.size) rfl 23 #[.int .i64 x0, .int .i64 x1, .int .i64 x2, .int .i64 x3] _ H28n.out Tryd.underlying23 rfl (by kernel_rfl) ?_)
    | (refine wp_wholeG (by rfl) 23 _ rfl (w.heap.size) rfl 23 #[.int .i64 x0, .int .i64 x1, .int .i64 x2, .int .i64 x3] _ H28n.out Tryd.underlying23 rfl (by kernel_rfl) ?_)
    | (refine wp_whole rfl 25 _ rfl (w.heap.size + 1) rfl 25 #[.int .i64 0, .int .i64 y1, .int .i64 y2, .int .i64 y3] _ H28x.out Tryd.underlying25 rfl (by kernel_rfl) ?_)
    | (refine wp_wholeG (by rfl) 25 _ rfl (w.heap.size + 1) rfl 25 #[.int .i64 0, .int .i64 y1, .int .i64 y2, .int .i64 y3] _ H28x.out Tryd.underlying25 rfl (by kernel_rfl) ?_)
    | (refine wp_whole rfl 25 _ rfl (w.heap.size + 2) rfl 25 #[.int .i64 0, .int .i64 z1, .int .i64 z2, .int .i64 z3] _ H28y.out Tryd.underlying25 rfl (by kernel_rfl) ?_)
    | (refine wp_wholeG (by rfl) 25 _ rfl (w.heap.size + 2) rfl 25 #[.int .i64 0, .int .i64 z1, .int .i64 z2, .int .i64 z3] _ H28y.out Tryd.underlying25 rfl (by kernel_rfl) ?_)
    | (refine wp_whole rfl 30 _ rfl (w1.heap.size) rfl 30 #[.int .i64 p, .int .i64 q, .int .i64 0, .int .i64 0, .int .u64 0, .int .i64 s, .int .i64 0] _ H28m.out Tryd.underlying30 rfl (by kernel_rfl) ?_)
    | (refine wp_wholeG (by rfl) 30 _ rfl (w1.heap.size) rfl 30 #[.int .i64 p, .int .i64 q, .int .i64 0, .int .i64 0, .int .u64 0, .int .i64 s, .int .i64 0] _ H28m.out Tryd.underlying30 rfl (by kernel_rfl) ?_)
    | (refine wp_whole rfl 36 _ rfl (w7.heap.size) rfl 36 #[.int .i64 0, .int .i64 2, .int .i64 oa, .int .i64 ot] _ H28o.out Tryd.underlying36 rfl (by kernel_rfl) ?_)
    | (refine wp_wholeG (by rfl) 36 _ rfl (w7.heap.size) rfl 36 #[.int .i64 0, .int .i64 2, .int .i64 oa, .int .i64 ot] _ H28o.out Tryd.underlying36 rfl (by kernel_rfl) ?_)
    | (refine wp_whole rfl 36 _ rfl (w8.heap.size) rfl 36 #[.int .i64 0, .int .i64 3, .int .i64 fa, .int .i64 ft] _ H28f.out Tryd.underlying36 rfl (by kernel_rfl) ?_)
    | (refine wp_wholeG (by rfl) 36 _ rfl (w8.heap.size) rfl 36 #[.int .i64 0, .int .i64 3, .int .i64 fa, .int .i64 ft] _ H28f.out Tryd.underlying36 rfl (by kernel_rfl) ?_)
    | (refine wp_whole rfl 36 _ rfl (W10.heap.size) rfl 36 #[.int .i64 2, .int .i64 1, .int .i64 (q + 1 + j), .int .i64 5] _ H28c.out Tryd.underlying36 rfl (by kernel_rfl) ?_)
    | (refine wp_wholeG (by rfl) 36 _ rfl (W10.heap.size) rfl 36 #[.int .i64 2, .int .i64 1, .int .i64 (q + 1 + j), .int .i64 5] _ H28c.out Tryd.underlying36 rfl (by kernel_rfl) ?_)
    | (refine wp_whole rfl 35 _ rfl (w14.heap.size) rfl 35 #[.slice a3 n3 cap3] _ H28r.out Tryd.underlying35 rfl (by kernel_rfl) ?_)
    | (refine wp_wholeG (by rfl) 35 _ rfl (w14.heap.size) rfl 35 #[.slice a3 n3 cap3] _ H28r.out Tryd.underlying35 rfl (by kernel_rfl) ?_)
    | (refine wp_whole rfl 30 _ rfl (w23.heap.size) rfl 30 #[.int .i64 p, .int .i64 q, .int .i64 0, .int .i64 0, .int .u64 0, .int .i64 s1, .int .i64 k1] _ H28e.out Tryd.underlying30 rfl (by kernel_rfl) ?_)
    | (refine wp_wholeG (by rfl) 30 _ rfl (w23.heap.size) rfl 30 #[.int .i64 p, .int .i64 q, .int .i64 0, .int .i64 0, .int .u64 0, .int .i64 s1, .int .i64 k1] _ H28e.out Tryd.underlying30 rfl (by kernel_rfl) ?_)
    | fail)
  have HKK := HK2.out _ a3 n3 cap3 H28B.out H28Cr.out
  refine HKK.mono ?_
  rintro e w24 ⟨rfl, hb⟩
  have H29n : Hid (Blk w24 (w.heap.size) #[.int .i64 x0, .int .i64 x1, .int .i64 x2, .int .i64 x3] 23) := H28n.out.next hb
  have H29x : Hid (Blk w24 (w.heap.size + 1) #[.int .i64 0, .int .i64 y1, .int .i64 y2, .int .i64 y3] 25) := H28x.out.next hb
  have H29y : Hid (Blk w24 (w.heap.size + 2) #[.int .i64 0, .int .i64 z1, .int .i64 z2, .int .i64 z3] 25) := H28y.out.next hb
  have H29m : Hid (Blk w24 (w1.heap.size) #[.int .i64 p, .int .i64 q, .int .i64 0, .int .i64 0, .int .u64 0, .int .i64 s, .int .i64 0] 30) := H28m.out.next hb
  have H29o : Hid (Blk w24 (w7.heap.size) #[.int .i64 0, .int .i64 2, .int .i64 oa, .int .i64 ot] 36) := H28o.out.next hb
  have H29f : Hid (Blk w24 (w8.heap.size) #[.int .i64 0, .int .i64 3, .int .i64 fa, .int .i64 ft] 36) := H28f.out.next hb
  have H29c : Hid (Blk w24 (W10.heap.size) #[.int .i64 2, .int .i64 1, .int .i64 (q + 1 + j), .int .i64 5] 36) := H28c.out.next hb
  have H29r : Hid (Blk w24 (w14.heap.size) #[.slice a3 n3 cap3] 35) := H28r.out.next hb
  have H29e : Hid (Blk w24 (w23.heap.size) #[.int .i64 p, .int .i64 q, .int .i64 0, .int .i64 0, .int .u64 0, .int .i64 s1, .int .i64 k1] 30) := H28e.out.next hb
  have H29B : Hid (Below w.heap.size w w24) := bel_step H28B.out hb
  have H29Cr : Hid (Came w24 a3 n3 cap3 L3) := H28Cr.out.below hb
  clear q_r_0
  have H30n : Hid (Blk (w24.alloc (.cells #[.int .i64 p, .int .i64 (q + 1 + j), .int .i64 0, .int .i64 h1, .int .u64 (b1 : Int), .int .i64 0, .int .i64 0] 30)) (w.heap.size) #[.int .i64 x0, .int .i64 x1, .int .i64 x2, .int .i64 x3] 23) := (H29n.out).alloc _
  have H30x : Hid (Blk (w24.alloc (.cells #[.int .i64 p, .int .i64 (q + 1 + j), .int .i64 0, .int .i64 h1, .int .u64 (b1 : Int), .int .i64 0, .int .i64 0] 30)) (w.heap.size + 1) #[.int .i64 0, .int .i64 y1, .int .i64 y2, .int .i64 y3] 25) := (H29x.out).alloc _
  have H30y : Hid (Blk (w24.alloc (.cells #[.int .i64 p, .int .i64 (q + 1 + j), .int .i64 0, .int .i64 h1, .int .u64 (b1 : Int), .int .i64 0, .int .i64 0] 30)) (w.heap.size + 2) #[.int .i64 0, .int .i64 z1, .int .i64 z2, .int .i64 z3] 25) := (H29y.out).alloc _
  have H30m : Hid (Blk (w24.alloc (.cells #[.int .i64 p, .int .i64 (q + 1 + j), .int .i64 0, .int .i64 h1, .int .u64 (b1 : Int), .int .i64 0, .int .i64 0] 30)) (w1.heap.size) #[.int .i64 p, .int .i64 q, .int .i64 0, .int .i64 0, .int .u64 0, .int .i64 s, .int .i64 0] 30) := (H29m.out).alloc _
  have H30o : Hid (Blk (w24.alloc (.cells #[.int .i64 p, .int .i64 (q + 1 + j), .int .i64 0, .int .i64 h1, .int .u64 (b1 : Int), .int .i64 0, .int .i64 0] 30)) (w7.heap.size) #[.int .i64 0, .int .i64 2, .int .i64 oa, .int .i64 ot] 36) := (H29o.out).alloc _
  have H30f : Hid (Blk (w24.alloc (.cells #[.int .i64 p, .int .i64 (q + 1 + j), .int .i64 0, .int .i64 h1, .int .u64 (b1 : Int), .int .i64 0, .int .i64 0] 30)) (w8.heap.size) #[.int .i64 0, .int .i64 3, .int .i64 fa, .int .i64 ft] 36) := (H29f.out).alloc _
  have H30c : Hid (Blk (w24.alloc (.cells #[.int .i64 p, .int .i64 (q + 1 + j), .int .i64 0, .int .i64 h1, .int .u64 (b1 : Int), .int .i64 0, .int .i64 0] 30)) (W10.heap.size) #[.int .i64 2, .int .i64 1, .int .i64 (q + 1 + j), .int .i64 5] 36) := (H29c.out).alloc _
  have H30r : Hid (Blk (w24.alloc (.cells #[.int .i64 p, .int .i64 (q + 1 + j), .int .i64 0, .int .i64 h1, .int .u64 (b1 : Int), .int .i64 0, .int .i64 0] 30)) (w14.heap.size) #[.slice a3 n3 cap3] 35) := (H29r.out).alloc _
  have H30e : Hid (Blk (w24.alloc (.cells #[.int .i64 p, .int .i64 (q + 1 + j), .int .i64 0, .int .i64 h1, .int .u64 (b1 : Int), .int .i64 0, .int .i64 0] 30)) (w23.heap.size) #[.int .i64 p, .int .i64 q, .int .i64 0, .int .i64 0, .int .u64 0, .int .i64 s1, .int .i64 k1] 30) := (H29e.out).alloc _
  have H30t : Hid (Blk (w24.alloc (.cells #[.int .i64 p, .int .i64 (q + 1 + j), .int .i64 0, .int .i64 h1, .int .u64 (b1 : Int), .int .i64 0, .int .i64 0] 30)) (w24.heap.size) #[.int .i64 p, .int .i64 (q + 1 + j), .int .i64 0, .int .i64 h1, .int .u64 (b1 : Int), .int .i64 0, .int .i64 0] 30) := (Blk.new w24 _ _)
  have L30tn : Hid (w.heap.size < w24.heap.size) := Nat.lt_of_lt_of_le H29n.out.lt (by simp)
  have L30tx : Hid (w.heap.size + 1 < w24.heap.size) := Nat.lt_of_lt_of_le H29x.out.lt (by simp)
  have L30ty : Hid (w.heap.size + 2 < w24.heap.size) := Nat.lt_of_lt_of_le H29y.out.lt (by simp)
  have L30tm : Hid (w1.heap.size < w24.heap.size) := Nat.lt_of_lt_of_le H29m.out.lt (by simp)
  have L30to : Hid (w7.heap.size < w24.heap.size) := Nat.lt_of_lt_of_le H29o.out.lt (by simp)
  have L30tf : Hid (w8.heap.size < w24.heap.size) := Nat.lt_of_lt_of_le H29f.out.lt (by simp)
  have L30tc : Hid (W10.heap.size < w24.heap.size) := Nat.lt_of_lt_of_le H29c.out.lt (by simp)
  have L30tr : Hid (w14.heap.size < w24.heap.size) := Nat.lt_of_lt_of_le H29r.out.lt (by simp)
  have L30te : Hid (w23.heap.size < w24.heap.size) := Nat.lt_of_lt_of_le H29e.out.lt (by simp)
  have H30B : Hid (Below w.heap.size w (w24.alloc (.cells #[.int .i64 p, .int .i64 (q + 1 + j), .int .i64 0, .int .i64 h1, .int .u64 (b1 : Int), .int .i64 0, .int .i64 0] 30))) := (H29B.out).alloc (Nat.le_trans H29B.out.size (by simp)) _
  have L300 : Hid (w.heap.size ≤ w24.heap.size) := H29B.out.size
  have H30Cr : Hid (Came (w24.alloc (.cells #[.int .i64 p, .int .i64 (q + 1 + j), .int .i64 0, .int .i64 h1, .int .u64 (b1 : Int), .int .i64 0, .int .i64 0] 30)) a3 n3 cap3 L3) := H29Cr.out.below ((Below.refl w24.heap.size w24).alloc (by simp) _)
  clear H28n H28x H28y H28m H28o H28f H28c H28r H28e H28Cr H28B H29n H29x H29y H29m H29o H29f H29c H29r H29e H29Cr H29B hb HKK HK2
  have q_r_0 : (w24.alloc (.cells #[.int .i64 p, .int .i64 (q + 1 + j), .int .i64 0, .int .i64 h1, .int .u64 (b1 : Int), .int .i64 0, .int .i64 0] 30)).cell? ⟨w14.heap.size, 0, none⟩ = some (.slice a3 n3 cap3) := H30r.out.cell 0
  go_wp2_with (first
    | (refine wp_whole rfl 23 _ rfl (w.heap.size) rfl 23 #[.int .i64 x0, .int .i64 x1, .int .i64 x2, .int .i64 x3] _ H30n.out Tryd.underlying23 rfl (by kernel_rfl) ?_)
    | (refine wp_wholeG (by rfl) 23 _ rfl (w.heap.size) rfl 23 #[.int .i64 x0, .int .i64 x1, .int .i64 x2, .int .i64 x3] _ H30n.out Tryd.underlying23 rfl (by kernel_rfl) ?_)
    | (refine wp_whole rfl 25 _ rfl (w.heap.size + 1) rfl 25 #[.int .i64 0, .int .i64 y1, .int .i64 y2, .int .i64 y3] _ H30x.out Tryd.underlying25 rfl (by kernel_rfl) ?_)
    | (refine wp_wholeG (by rfl) 25 _ rfl (w.heap.size + 1) rfl 25 #[.int .i64 0, .int .i64 y1, .int .i64 y2, .int .i64 y3] _ H30x.out Tryd.underlying25 rfl (by kernel_rfl) ?_)
    | (refine wp_whole rfl 25 _ rfl (w.heap.size + 2) rfl 25 #[.int .i64 0, .int .i64 z1, .int .i64 z2, .int .i64 z3] _ H30y.out Tryd.underlying25 rfl (by kernel_rfl) ?_)
    | (refine wp_wholeG (by rfl) 25 _ rfl (w.heap.size + 2) rfl 25 #[.int .i64 0, .int .i64 z1, .int .i64 z2, .int .i64 z3] _ H30y.out Tryd.underlying25 rfl (by kernel_rfl) ?_)
    | (refine wp_whole rfl 30 _ rfl (w1.heap.size) rfl 30 #[.int .i64 p, .int .i64 q, .int .i64 0, .int .i64 0, .int .u64 0, .int .i64 s, .int .i64 0] _ H30m.out Tryd.underlying30 rfl (by kernel_rfl) ?_)
    | (refine wp_wholeG (by rfl) 30 _ rfl (w1.heap.size) rfl 30 #[.int .i64 p, .int .i64 q, .int .i64 0, .int .i64 0, .int .u64 0, .int .i64 s, .int .i64 0] _ H30m.out Tryd.underlying30 rfl (by kernel_rfl) ?_)
    | (refine wp_whole rfl 36 _ rfl (w7.heap.size) rfl 36 #[.int .i64 0, .int .i64 2, .int .i64 oa, .int .i64 ot] _ H30o.out Tryd.underlying36 rfl (by kernel_rfl) ?_)
    | (refine wp_wholeG (by rfl) 36 _ rfl (w7.heap.size) rfl 36 #[.int .i64 0, .int .i64 2, .int .i64 oa, .int .i64 ot] _ H30o.out Tryd.underlying36 rfl (by kernel_rfl) ?_)
    | (refine wp_whole rfl 36 _ rfl (w8.heap.size) rfl 36 #[.int .i64 0, .int .i64 3, .int .i64 fa, .int .i64 ft] _ H30f.out Tryd.underlying36 rfl (by kernel_rfl) ?_)
    | (refine wp_wholeG (by rfl) 36 _ rfl (w8.heap.size) rfl 36 #[.int .i64 0, .int .i64 3, .int .i64 fa, .int .i64 ft] _ H30f.out Tryd.underlying36 rfl (by kernel_rfl) ?_)
    | (refine wp_whole rfl 36 _ rfl (W10.heap.size) rfl 36 #[.int .i64 2, .int .i64 1, .int .i64 (q + 1 + j), .int .i64 5] _ H30c.out Tryd.underlying36 rfl (by kernel_rfl) ?_)
    | (refine wp_wholeG (by rfl) 36 _ rfl (W10.heap.size) rfl 36 #[.int .i64 2, .int .i64 1, .int .i64 (q + 1 + j), .int .i64 5] _ H30c.out Tryd.underlying36 rfl (by kernel_rfl) ?_)
    | (refine wp_whole rfl 35 _ rfl (w14.heap.size) rfl 35 #[.slice a3 n3 cap3] _ H30r.out Tryd.underlying35 rfl (by kernel_rfl) ?_)
    | (refine wp_wholeG (by rfl) 35 _ rfl (w14.heap.size) rfl 35 #[.slice a3 n3 cap3] _ H30r.out Tryd.underlying35 rfl (by kernel_rfl) ?_)
    | (refine wp_whole rfl 30 _ rfl (w23.heap.size) rfl 30 #[.int .i64 p, .int .i64 q, .int .i64 0, .int .i64 0, .int .u64 0, .int .i64 s1, .int .i64 k1] _ H30e.out Tryd.underlying30 rfl (by kernel_rfl) ?_)
    | (refine wp_wholeG (by rfl) 30 _ rfl (w23.heap.size) rfl 30 #[.int .i64 p, .int .i64 q, .int .i64 0, .int .i64 0, .int .u64 0, .int .i64 s1, .int .i64 k1] _ H30e.out Tryd.underlying30 rfl (by kernel_rfl) ?_)
    | (refine wp_whole rfl 30 _ rfl (w24.heap.size) rfl 30 #[.int .i64 p, .int .i64 (q + 1 + j), .int .i64 0, .int .i64 h1, .int .u64 (b1 : Int), .int .i64 0, .int .i64 0] _ H30t.out Tryd.underlying30 rfl (by kernel_rfl) ?_)
    | (refine wp_wholeG (by rfl) 30 _ rfl (w24.heap.size) rfl 30 #[.int .i64 p, .int .i64 (q + 1 + j), .int .i64 0, .int .i64 h1, .int .u64 (b1 : Int), .int .i64 0, .int .i64 0] _ H30t.out Tryd.underlying30 rfl (by kernel_rfl) ?_)
    | fail)
  have HKK := HK3.out _ a3 n3 cap3 H30B.out H30Cr.out
  refine HKK.mono ?_
  rintro e w25 ⟨rfl, hb⟩
  have H31n : Hid (Blk w25 (w.heap.size) #[.int .i64 x0, .int .i64 x1, .int .i64 x2, .int .i64 x3] 23) := H30n.out.next hb
  have H31x : Hid (Blk w25 (w.heap.size + 1) #[.int .i64 0, .int .i64 y1, .int .i64 y2, .int .i64 y3] 25) := H30x.out.next hb
  have H31y : Hid (Blk w25 (w.heap.size + 2) #[.int .i64 0, .int .i64 z1, .int .i64 z2, .int .i64 z3] 25) := H30y.out.next hb
  have H31m : Hid (Blk w25 (w1.heap.size) #[.int .i64 p, .int .i64 q, .int .i64 0, .int .i64 0, .int .u64 0, .int .i64 s, .int .i64 0] 30) := H30m.out.next hb
  have H31o : Hid (Blk w25 (w7.heap.size) #[.int .i64 0, .int .i64 2, .int .i64 oa, .int .i64 ot] 36) := H30o.out.next hb
  have H31f : Hid (Blk w25 (w8.heap.size) #[.int .i64 0, .int .i64 3, .int .i64 fa, .int .i64 ft] 36) := H30f.out.next hb
  have H31c : Hid (Blk w25 (W10.heap.size) #[.int .i64 2, .int .i64 1, .int .i64 (q + 1 + j), .int .i64 5] 36) := H30c.out.next hb
  have H31r : Hid (Blk w25 (w14.heap.size) #[.slice a3 n3 cap3] 35) := H30r.out.next hb
  have H31e : Hid (Blk w25 (w23.heap.size) #[.int .i64 p, .int .i64 q, .int .i64 0, .int .i64 0, .int .u64 0, .int .i64 s1, .int .i64 k1] 30) := H30e.out.next hb
  have H31t : Hid (Blk w25 (w24.heap.size) #[.int .i64 p, .int .i64 (q + 1 + j), .int .i64 0, .int .i64 h1, .int .u64 (b1 : Int), .int .i64 0, .int .i64 0] 30) := H30t.out.next hb
  have H31B : Hid (Below w.heap.size w w25) := bel_step H30B.out hb
  have H31Cr : Hid (Came w25 a3 n3 cap3 L3) := H30Cr.out.below hb
  clear q_r_0
  have H32n : Hid (Blk (w25.alloc (.cells #[.int .i64 p, .int .i64 (q + 1 + j), .int .i64 0, .int .i64 h1, .int .u64 (b1 : Int), .int .i64 0, .int .i64 0] 30)) (w.heap.size) #[.int .i64 x0, .int .i64 x1, .int .i64 x2, .int .i64 x3] 23) := (H31n.out).alloc _
  have H32x : Hid (Blk (w25.alloc (.cells #[.int .i64 p, .int .i64 (q + 1 + j), .int .i64 0, .int .i64 h1, .int .u64 (b1 : Int), .int .i64 0, .int .i64 0] 30)) (w.heap.size + 1) #[.int .i64 0, .int .i64 y1, .int .i64 y2, .int .i64 y3] 25) := (H31x.out).alloc _
  have H32y : Hid (Blk (w25.alloc (.cells #[.int .i64 p, .int .i64 (q + 1 + j), .int .i64 0, .int .i64 h1, .int .u64 (b1 : Int), .int .i64 0, .int .i64 0] 30)) (w.heap.size + 2) #[.int .i64 0, .int .i64 z1, .int .i64 z2, .int .i64 z3] 25) := (H31y.out).alloc _
  have H32m : Hid (Blk (w25.alloc (.cells #[.int .i64 p, .int .i64 (q + 1 + j), .int .i64 0, .int .i64 h1, .int .u64 (b1 : Int), .int .i64 0, .int .i64 0] 30)) (w1.heap.size) #[.int .i64 p, .int .i64 q, .int .i64 0, .int .i64 0, .int .u64 0, .int .i64 s, .int .i64 0] 30) := (H31m.out).alloc _
  have H32o : Hid (Blk (w25.alloc (.cells #[.int .i64 p, .int .i64 (q + 1 + j), .int .i64 0, .int .i64 h1, .int .u64 (b1 : Int), .int .i64 0, .int .i64 0] 30)) (w7.heap.size) #[.int .i64 0, .int .i64 2, .int .i64 oa, .int .i64 ot] 36) := (H31o.out).alloc _
  have H32f : Hid (Blk (w25.alloc (.cells #[.int .i64 p, .int .i64 (q + 1 + j), .int .i64 0, .int .i64 h1, .int .u64 (b1 : Int), .int .i64 0, .int .i64 0] 30)) (w8.heap.size) #[.int .i64 0, .int .i64 3, .int .i64 fa, .int .i64 ft] 36) := (H31f.out).alloc _
  have H32c : Hid (Blk (w25.alloc (.cells #[.int .i64 p, .int .i64 (q + 1 + j), .int .i64 0, .int .i64 h1, .int .u64 (b1 : Int), .int .i64 0, .int .i64 0] 30)) (W10.heap.size) #[.int .i64 2, .int .i64 1, .int .i64 (q + 1 + j), .int .i64 5] 36) := (H31c.out).alloc _
  have H32r : Hid (Blk (w25.alloc (.cells #[.int .i64 p, .int .i64 (q + 1 + j), .int .i64 0, .int .i64 h1, .int .u64 (b1 : Int), .int .i64 0, .int .i64 0] 30)) (w14.heap.size) #[.slice a3 n3 cap3] 35) := (H31r.out).alloc _
  have H32e : Hid (Blk (w25.alloc (.cells #[.int .i64 p, .int .i64 (q + 1 + j), .int .i64 0, .int .i64 h1, .int .u64 (b1 : Int), .int .i64 0, .int .i64 0] 30)) (w23.heap.size) #[.int .i64 p, .int .i64 q, .int .i64 0, .int .i64 0, .int .u64 0, .int .i64 s1, .int .i64 k1] 30) := (H31e.out).alloc _
  have H32t : Hid (Blk (w25.alloc (.cells #[.int .i64 p, .int .i64 (q + 1 + j), .int .i64 0, .int .i64 h1, .int .u64 (b1 : Int), .int .i64 0, .int .i64 0] 30)) (w24.heap.size) #[.int .i64 p, .int .i64 (q + 1 + j), .int .i64 0, .int .i64 h1, .int .u64 (b1 : Int), .int .i64 0, .int .i64 0] 30) := (H31t.out).alloc _
  have H32l : Hid (Blk (w25.alloc (.cells #[.int .i64 p, .int .i64 (q + 1 + j), .int .i64 0, .int .i64 h1, .int .u64 (b1 : Int), .int .i64 0, .int .i64 0] 30)) (w25.heap.size) #[.int .i64 p, .int .i64 (q + 1 + j), .int .i64 0, .int .i64 h1, .int .u64 (b1 : Int), .int .i64 0, .int .i64 0] 30) := (Blk.new w25 _ _)
  have L32ln : Hid (w.heap.size < w25.heap.size) := Nat.lt_of_lt_of_le H31n.out.lt (by simp)
  have L32lx : Hid (w.heap.size + 1 < w25.heap.size) := Nat.lt_of_lt_of_le H31x.out.lt (by simp)
  have L32ly : Hid (w.heap.size + 2 < w25.heap.size) := Nat.lt_of_lt_of_le H31y.out.lt (by simp)
  have L32lm : Hid (w1.heap.size < w25.heap.size) := Nat.lt_of_lt_of_le H31m.out.lt (by simp)
  have L32lo : Hid (w7.heap.size < w25.heap.size) := Nat.lt_of_lt_of_le H31o.out.lt (by simp)
  have L32lf : Hid (w8.heap.size < w25.heap.size) := Nat.lt_of_lt_of_le H31f.out.lt (by simp)
  have L32lc : Hid (W10.heap.size < w25.heap.size) := Nat.lt_of_lt_of_le H31c.out.lt (by simp)
  have L32lr : Hid (w14.heap.size < w25.heap.size) := Nat.lt_of_lt_of_le H31r.out.lt (by simp)
  have L32le : Hid (w23.heap.size < w25.heap.size) := Nat.lt_of_lt_of_le H31e.out.lt (by simp)
  have L32lt : Hid (w24.heap.size < w25.heap.size) := Nat.lt_of_lt_of_le H31t.out.lt (by simp)
  have H32B : Hid (Below w.heap.size w (w25.alloc (.cells #[.int .i64 p, .int .i64 (q + 1 + j), .int .i64 0, .int .i64 h1, .int .u64 (b1 : Int), .int .i64 0, .int .i64 0] 30))) := (H31B.out).alloc (Nat.le_trans H31B.out.size (by simp)) _
  have L320 : Hid (w.heap.size ≤ w25.heap.size) := H31B.out.size
  have H32Cr : Hid (Came (w25.alloc (.cells #[.int .i64 p, .int .i64 (q + 1 + j), .int .i64 0, .int .i64 h1, .int .u64 (b1 : Int), .int .i64 0, .int .i64 0] 30)) a3 n3 cap3 L3) := H31Cr.out.below ((Below.refl w25.heap.size w25).alloc (by simp) _)
  clear H30n H30x H30y H30m H30o H30f H30c H30r H30e H30t H30Cr H30B H31n H31x H31y H31m H31o H31f H31c H31r H31e H31t H31Cr H31B hb HKK HK3
  have q_r_0 : (w25.alloc (.cells #[.int .i64 p, .int .i64 (q + 1 + j), .int .i64 0, .int .i64 h1, .int .u64 (b1 : Int), .int .i64 0, .int .i64 0] 30)).cell? ⟨w14.heap.size, 0, none⟩ = some (.slice a3 n3 cap3) := H32r.out.cell 0
  go_wp2_with (first
    | (refine wp_whole rfl 23 _ rfl (w.heap.size) rfl 23 #[.int .i64 x0, .int .i64 x1, .int .i64 x2, .int .i64 x3] _ H32n.out Tryd.underlying23 rfl (by kernel_rfl) ?_)
    | (refine wp_wholeG (by rfl) 23 _ rfl (w.heap.size) rfl 23 #[.int .i64 x0, .int .i64 x1, .int .i64 x2, .int .i64 x3] _ H32n.out Tryd.underlying23 rfl (by kernel_rfl) ?_)
    | (refine wp_whole rfl 25 _ rfl (w.heap.size + 1) rfl 25 #[.int .i64 0, .int .i64 y1, .int .i64 y2, .int .i64 y3] _ H32x.out Tryd.underlying25 rfl (by kernel_rfl) ?_)
    | (refine wp_wholeG (by rfl) 25 _ rfl (w.heap.size + 1) rfl 25 #[.int .i64 0, .int .i64 y1, .int .i64 y2, .int .i64 y3] _ H32x.out Tryd.underlying25 rfl (by kernel_rfl) ?_)
    | (refine wp_whole rfl 25 _ rfl (w.heap.size + 2) rfl 25 #[.int .i64 0, .int .i64 z1, .int .i64 z2, .int .i64 z3] _ H32y.out Tryd.underlying25 rfl (by kernel_rfl) ?_)
    | (refine wp_wholeG (by rfl) 25 _ rfl (w.heap.size + 2) rfl 25 #[.int .i64 0, .int .i64 z1, .int .i64 z2, .int .i64 z3] _ H32y.out Tryd.underlying25 rfl (by kernel_rfl) ?_)
    | (refine wp_whole rfl 30 _ rfl (w1.heap.size) rfl 30 #[.int .i64 p, .int .i64 q, .int .i64 0, .int .i64 0, .int .u64 0, .int .i64 s, .int .i64 0] _ H32m.out Tryd.underlying30 rfl (by kernel_rfl) ?_)
    | (refine wp_wholeG (by rfl) 30 _ rfl (w1.heap.size) rfl 30 #[.int .i64 p, .int .i64 q, .int .i64 0, .int .i64 0, .int .u64 0, .int .i64 s, .int .i64 0] _ H32m.out Tryd.underlying30 rfl (by kernel_rfl) ?_)
    | (refine wp_whole rfl 36 _ rfl (w7.heap.size) rfl 36 #[.int .i64 0, .int .i64 2, .int .i64 oa, .int .i64 ot] _ H32o.out Tryd.underlying36 rfl (by kernel_rfl) ?_)
    | (refine wp_wholeG (by rfl) 36 _ rfl (w7.heap.size) rfl 36 #[.int .i64 0, .int .i64 2, .int .i64 oa, .int .i64 ot] _ H32o.out Tryd.underlying36 rfl (by kernel_rfl) ?_)
    | (refine wp_whole rfl 36 _ rfl (w8.heap.size) rfl 36 #[.int .i64 0, .int .i64 3, .int .i64 fa, .int .i64 ft] _ H32f.out Tryd.underlying36 rfl (by kernel_rfl) ?_)
    | (refine wp_wholeG (by rfl) 36 _ rfl (w8.heap.size) rfl 36 #[.int .i64 0, .int .i64 3, .int .i64 fa, .int .i64 ft] _ H32f.out Tryd.underlying36 rfl (by kernel_rfl) ?_)
    | (refine wp_whole rfl 36 _ rfl (W10.heap.size) rfl 36 #[.int .i64 2, .int .i64 1, .int .i64 (q + 1 + j), .int .i64 5] _ H32c.out Tryd.underlying36 rfl (by kernel_rfl) ?_)
    | (refine wp_wholeG (by rfl) 36 _ rfl (W10.heap.size) rfl 36 #[.int .i64 2, .int .i64 1, .int .i64 (q + 1 + j), .int .i64 5] _ H32c.out Tryd.underlying36 rfl (by kernel_rfl) ?_)
    | (refine wp_whole rfl 35 _ rfl (w14.heap.size) rfl 35 #[.slice a3 n3 cap3] _ H32r.out Tryd.underlying35 rfl (by kernel_rfl) ?_)
    | (refine wp_wholeG (by rfl) 35 _ rfl (w14.heap.size) rfl 35 #[.slice a3 n3 cap3] _ H32r.out Tryd.underlying35 rfl (by kernel_rfl) ?_)
    | (refine wp_whole rfl 30 _ rfl (w23.heap.size) rfl 30 #[.int .i64 p, .int .i64 q, .int .i64 0, .int .i64 0, .int .u64 0, .int .i64 s1, .int .i64 k1] _ H32e.out Tryd.underlying30 rfl (by kernel_rfl) ?_)
    | (refine wp_wholeG (by rfl) 30 _ rfl (w23.heap.size) rfl 30 #[.int .i64 p, .int .i64 q, .int .i64 0, .int .i64 0, .int .u64 0, .int .i64 s1, .int .i64 k1] _ H32e.out Tryd.underlying30 rfl (by kernel_rfl) ?_)
    | (refine wp_whole rfl 30 _ rfl (w24.heap.size) rfl 30 #[.int .i64 p, .int .i64 (q + 1 + j), .int .i64 0, .int .i64 h1, .int .u64 (b1 : Int), .int .i64 0, .int .i64 0] _ H32t.out Tryd.underlying30 rfl (by kernel_rfl) ?_)
    | (refine wp_wholeG (by rfl) 30 _ rfl (w24.heap.size) rfl 30 #[.int .i64 p, .int .i64 (q + 1 + j), .int .i64 0, .int .i64 h1, .int .u64 (b1 : Int), .int .i64 0, .int .i64 0] _ H32t.out Tryd.underlying30 rfl (by kernel_rfl) ?_)
    | (refine wp_whole rfl 30 _ rfl (w25.heap.size) rfl 30 #[.int .i64 p, .int .i64 (q + 1 + j), .int .i64 0, .int .i64 h1, .int .u64 (b1 : Int), .int .i64 0, .int .i64 0] _ H32l.out Tryd.underlying30 rfl (by kernel_rfl) ?_)
    | (refine wp_wholeG (by rfl) 30 _ rfl (w25.heap.size) rfl 30 #[.int .i64 p, .int .i64 (q + 1 + j), .int .i64 0, .int .i64 h1, .int .u64 (b1 : Int), .int .i64 0, .int .i64 0] _ H32l.out Tryd.underlying30 rfl (by kernel_rfl) ?_)
    | fail)
  have HKK := HK4.out _ a3 n3 cap3 H32B.out H32Cr.out
  refine HKK.mono ?_
  rintro e w26 ⟨rfl, hb⟩
  have H33n : Hid (Blk w26 (w.heap.size) #[.int .i64 x0, .int .i64 x1, .int .i64 x2, .int .i64 x3] 23) := H32n.out.next hb
  have H33x : Hid (Blk w26 (w.heap.size + 1) #[.int .i64 0, .int .i64 y1, .int .i64 y2, .int .i64 y3] 25) := H32x.out.next hb
  have H33y : Hid (Blk w26 (w.heap.size + 2) #[.int .i64 0, .int .i64 z1, .int .i64 z2, .int .i64 z3] 25) := H32y.out.next hb
  have H33m : Hid (Blk w26 (w1.heap.size) #[.int .i64 p, .int .i64 q, .int .i64 0, .int .i64 0, .int .u64 0, .int .i64 s, .int .i64 0] 30) := H32m.out.next hb
  have H33o : Hid (Blk w26 (w7.heap.size) #[.int .i64 0, .int .i64 2, .int .i64 oa, .int .i64 ot] 36) := H32o.out.next hb
  have H33f : Hid (Blk w26 (w8.heap.size) #[.int .i64 0, .int .i64 3, .int .i64 fa, .int .i64 ft] 36) := H32f.out.next hb
  have H33c : Hid (Blk w26 (W10.heap.size) #[.int .i64 2, .int .i64 1, .int .i64 (q + 1 + j), .int .i64 5] 36) := H32c.out.next hb
  have H33r : Hid (Blk w26 (w14.heap.size) #[.slice a3 n3 cap3] 35) := H32r.out.next hb
  have H33e : Hid (Blk w26 (w23.heap.size) #[.int .i64 p, .int .i64 q, .int .i64 0, .int .i64 0, .int .u64 0, .int .i64 s1, .int .i64 k1] 30) := H32e.out.next hb
  have H33t : Hid (Blk w26 (w24.heap.size) #[.int .i64 p, .int .i64 (q + 1 + j), .int .i64 0, .int .i64 h1, .int .u64 (b1 : Int), .int .i64 0, .int .i64 0] 30) := H32t.out.next hb
  have H33l : Hid (Blk w26 (w25.heap.size) #[.int .i64 p, .int .i64 (q + 1 + j), .int .i64 0, .int .i64 h1, .int .u64 (b1 : Int), .int .i64 0, .int .i64 0] 30) := H32l.out.next hb
  have H33B : Hid (Below w.heap.size w w26) := bel_step H32B.out hb
  have H33Cr : Hid (Came w26 a3 n3 cap3 L3) := H32Cr.out.below hb
  clear q_r_0
  have H34n : Hid (Blk (w26.alloc (.cells #[.int .i64 p, .int .i64 (q + 1 + j), .int .i64 fa, .int .i64 h2, .int .u64 (b2 : Int), .int .i64 0, .int .i64 0] 30)) (w.heap.size) #[.int .i64 x0, .int .i64 x1, .int .i64 x2, .int .i64 x3] 23) := (H33n.out).alloc _
  have H34x : Hid (Blk (w26.alloc (.cells #[.int .i64 p, .int .i64 (q + 1 + j), .int .i64 fa, .int .i64 h2, .int .u64 (b2 : Int), .int .i64 0, .int .i64 0] 30)) (w.heap.size + 1) #[.int .i64 0, .int .i64 y1, .int .i64 y2, .int .i64 y3] 25) := (H33x.out).alloc _
  have H34y : Hid (Blk (w26.alloc (.cells #[.int .i64 p, .int .i64 (q + 1 + j), .int .i64 fa, .int .i64 h2, .int .u64 (b2 : Int), .int .i64 0, .int .i64 0] 30)) (w.heap.size + 2) #[.int .i64 0, .int .i64 z1, .int .i64 z2, .int .i64 z3] 25) := (H33y.out).alloc _
  have H34m : Hid (Blk (w26.alloc (.cells #[.int .i64 p, .int .i64 (q + 1 + j), .int .i64 fa, .int .i64 h2, .int .u64 (b2 : Int), .int .i64 0, .int .i64 0] 30)) (w1.heap.size) #[.int .i64 p, .int .i64 q, .int .i64 0, .int .i64 0, .int .u64 0, .int .i64 s, .int .i64 0] 30) := (H33m.out).alloc _
  have H34o : Hid (Blk (w26.alloc (.cells #[.int .i64 p, .int .i64 (q + 1 + j), .int .i64 fa, .int .i64 h2, .int .u64 (b2 : Int), .int .i64 0, .int .i64 0] 30)) (w7.heap.size) #[.int .i64 0, .int .i64 2, .int .i64 oa, .int .i64 ot] 36) := (H33o.out).alloc _
  have H34f : Hid (Blk (w26.alloc (.cells #[.int .i64 p, .int .i64 (q + 1 + j), .int .i64 fa, .int .i64 h2, .int .u64 (b2 : Int), .int .i64 0, .int .i64 0] 30)) (w8.heap.size) #[.int .i64 0, .int .i64 3, .int .i64 fa, .int .i64 ft] 36) := (H33f.out).alloc _
  have H34c : Hid (Blk (w26.alloc (.cells #[.int .i64 p, .int .i64 (q + 1 + j), .int .i64 fa, .int .i64 h2, .int .u64 (b2 : Int), .int .i64 0, .int .i64 0] 30)) (W10.heap.size) #[.int .i64 2, .int .i64 1, .int .i64 (q + 1 + j), .int .i64 5] 36) := (H33c.out).alloc _
  have H34r : Hid (Blk (w26.alloc (.cells #[.int .i64 p, .int .i64 (q + 1 + j), .int .i64 fa, .int .i64 h2, .int .u64 (b2 : Int), .int .i64 0, .int .i64 0] 30)) (w14.heap.size) #[.slice a3 n3 cap3] 35) := (H33r.out).alloc _
  have H34e : Hid (Blk (w26.alloc (.cells #[.int .i64 p, .int .i64 (q + 1 + j), .int .i64 fa, .int .i64 h2, .int .u64 (b2 : Int), .int .i64 0, .int .i64 0] 30)) (w23.heap.size) #[.int .i64 p, .int .i64 q, .int .i64 0, .int .i64 0, .int .u64 0, .int .i64 s1, .int .i64 k1] 30) := (H33e.out).alloc _
  have H34t : Hid (Blk (w26.alloc (.cells #[.int .i64 p, .int .i64 (q + 1 + j), .int .i64 fa, .int .i64 h2, .int .u64 (b2 : Int), .int .i64 0, .int .i64 0] 30)) (w24.heap.size) #[.int .i64 p, .int .i64 (q + 1 + j), .int .i64 0, .int .i64 h1, .int .u64 (b1 : Int), .int .i64 0, .int .i64 0] 30) := (H33t.out).alloc _
  have H34l : Hid (Blk (w26.alloc (.cells #[.int .i64 p, .int .i64 (q + 1 + j), .int .i64 fa, .int .i64 h2, .int .u64 (b2 : Int), .int .i64 0, .int .i64 0] 30)) (w25.heap.size) #[.int .i64 p, .int .i64 (q + 1 + j), .int .i64 0, .int .i64 h1, .int .u64 (b1 : Int), .int .i64 0, .int .i64 0] 30) := (H33l.out).alloc _
  have H34z : Hid (Blk (w26.alloc (.cells #[.int .i64 p, .int .i64 (q + 1 + j), .int .i64 fa, .int .i64 h2, .int .u64 (b2 : Int), .int .i64 0, .int .i64 0] 30)) (w26.heap.size) #[.int .i64 p, .int .i64 (q + 1 + j), .int .i64 fa, .int .i64 h2, .int .u64 (b2 : Int), .int .i64 0, .int .i64 0] 30) := (Blk.new w26 _ _)
  have L34zn : Hid (w.heap.size < w26.heap.size) := Nat.lt_of_lt_of_le H33n.out.lt (by simp)
  have L34zx : Hid (w.heap.size + 1 < w26.heap.size) := Nat.lt_of_lt_of_le H33x.out.lt (by simp)
  have L34zy : Hid (w.heap.size + 2 < w26.heap.size) := Nat.lt_of_lt_of_le H33y.out.lt (by simp)
  have L34zm : Hid (w1.heap.size < w26.heap.size) := Nat.lt_of_lt_of_le H33m.out.lt (by simp)
  have L34zo : Hid (w7.heap.size < w26.heap.size) := Nat.lt_of_lt_of_le H33o.out.lt (by simp)
  have L34zf : Hid (w8.heap.size < w26.heap.size) := Nat.lt_of_lt_of_le H33f.out.lt (by simp)
  have L34zc : Hid (W10.heap.size < w26.heap.size) := Nat.lt_of_lt_of_le H33c.out.lt (by simp)
  have L34zr : Hid (w14.heap.size < w26.heap.size) := Nat.lt_of_lt_of_le H33r.out.lt (by simp)
  have L34ze : Hid (w23.heap.size < w26.heap.size) := Nat.lt_of_lt_of_le H33e.out.lt (by simp)
  have L34zt : Hid (w24.heap.size < w26.heap.size) := Nat.lt_of_lt_of_le H33t.out.lt (by simp)
  have L34zl : Hid (w25.heap.size < w26.heap.size) := Nat.lt_of_lt_of_le H33l.out.lt (by simp)
  have H34B : Hid (Below w.heap.size w (w26.alloc (.cells #[.int .i64 p, .int .i64 (q + 1 + j), .int .i64 fa, .int .i64 h2, .int .u64 (b2 : Int), .int .i64 0, .int .i64 0] 30))) := (H33B.out).alloc (Nat.le_trans H33B.out.size (by simp)) _
  have L340 : Hid (w.heap.size ≤ w26.heap.size) := H33B.out.size
  have H34Cr : Hid (Came (w26.alloc (.cells #[.int .i64 p, .int .i64 (q + 1 + j), .int .i64 fa, .int .i64 h2, .int .u64 (b2 : Int), .int .i64 0, .int .i64 0] 30)) a3 n3 cap3 L3) := H33Cr.out.below ((Below.refl w26.heap.size w26).alloc (by simp) _)
  clear H32n H32x H32y H32m H32o H32f H32c H32r H32e H32t H32l H32Cr H32B H33n H33x H33y H33m H33o H33f H33c H33r H33e H33t H33l H33Cr H33B hb HKK HK4
  have e1 : ((q + 1 + j) == (q + 1 + j)) = true := by simp
  have e2 : (fa == fa) = true := by simp
  have q_t_1 : (w26.alloc (.cells #[.int .i64 p, .int .i64 (q + 1 + j), .int .i64 fa, .int .i64 h2, .int .u64 (b2 : Int), .int .i64 0, .int .i64 0] 30)).cell? ⟨w24.heap.size, 1, none⟩ = some (.int .i64 (q + 1 + j)) := H34t.out.cell 1
  have q_f_2 : (w26.alloc (.cells #[.int .i64 p, .int .i64 (q + 1 + j), .int .i64 fa, .int .i64 h2, .int .u64 (b2 : Int), .int .i64 0, .int .i64 0] 30)).cell? ⟨w8.heap.size, 2, none⟩ = some (.int .i64 fa) := H34f.out.cell 2
  have q_z_2 : (w26.alloc (.cells #[.int .i64 p, .int .i64 (q + 1 + j), .int .i64 fa, .int .i64 h2, .int .u64 (b2 : Int), .int .i64 0, .int .i64 0] 30)).cell? ⟨w26.heap.size, 2, none⟩ = some (.int .i64 fa) := H34z.out.cell 2
  go_wp2_with (first
    | (refine wp_whole rfl 23 _ rfl (w.heap.size) rfl 23 #[.int .i64 x0, .int .i64 x1, .int .i64 x2, .int .i64 x3] _ H34n.out Tryd.underlying23 rfl (by kernel_rfl) ?_)
    | (refine wp_wholeG (by rfl) 23 _ rfl (w.heap.size) rfl 23 #[.int .i64 x0, .int .i64 x1, .int .i64 x2, .int .i64 x3] _ H34n.out Tryd.underlying23 rfl (by kernel_rfl) ?_)
    | (refine wp_whole rfl 25 _ rfl (w.heap.size + 1) rfl 25 #[.int .i64 0, .int .i64 y1, .int .i64 y2, .int .i64 y3] _ H34x.out Tryd.underlying25 rfl (by kernel_rfl) ?_)
    | (refine wp_wholeG (by rfl) 25 _ rfl (w.heap.size + 1) rfl 25 #[.int .i64 0, .int .i64 y1, .int .i64 y2, .int .i64 y3] _ H34x.out Tryd.underlying25 rfl (by kernel_rfl) ?_)
    | (refine wp_whole rfl 25 _ rfl (w.heap.size + 2) rfl 25 #[.int .i64 0, .int .i64 z1, .int .i64 z2, .int .i64 z3] _ H34y.out Tryd.underlying25 rfl (by kernel_rfl) ?_)
    | (refine wp_wholeG (by rfl) 25 _ rfl (w.heap.size + 2) rfl 25 #[.int .i64 0, .int .i64 z1, .int .i64 z2, .int .i64 z3] _ H34y.out Tryd.underlying25 rfl (by kernel_rfl) ?_)
    | (refine wp_whole rfl 30 _ rfl (w1.heap.size) rfl 30 #[.int .i64 p, .int .i64 q, .int .i64 0, .int .i64 0, .int .u64 0, .int .i64 s, .int .i64 0] _ H34m.out Tryd.underlying30 rfl (by kernel_rfl) ?_)
    | (refine wp_wholeG (by rfl) 30 _ rfl (w1.heap.size) rfl 30 #[.int .i64 p, .int .i64 q, .int .i64 0, .int .i64 0, .int .u64 0, .int .i64 s, .int .i64 0] _ H34m.out Tryd.underlying30 rfl (by kernel_rfl) ?_)
    | (refine wp_whole rfl 36 _ rfl (w7.heap.size) rfl 36 #[.int .i64 0, .int .i64 2, .int .i64 oa, .int .i64 ot] _ H34o.out Tryd.underlying36 rfl (by kernel_rfl) ?_)
    | (refine wp_wholeG (by rfl) 36 _ rfl (w7.heap.size) rfl 36 #[.int .i64 0, .int .i64 2, .int .i64 oa, .int .i64 ot] _ H34o.out Tryd.underlying36 rfl (by kernel_rfl) ?_)
    | (refine wp_whole rfl 36 _ rfl (w8.heap.size) rfl 36 #[.int .i64 0, .int .i64 3, .int .i64 fa, .int .i64 ft] _ H34f.out Tryd.underlying36 rfl (by kernel_rfl) ?_)
    | (refine wp_wholeG (by rfl) 36 _ rfl (w8.heap.size) rfl 36 #[.int .i64 0, .int .i64 3, .int .i64 fa, .int .i64 ft] _ H34f.out Tryd.underlying36 rfl (by kernel_rfl) ?_)
    | (refine wp_whole rfl 36 _ rfl (W10.heap.size) rfl 36 #[.int .i64 2, .int .i64 1, .int .i64 (q + 1 + j), .int .i64 5] _ H34c.out Tryd.underlying36 rfl (by kernel_rfl) ?_)
    | (refine wp_wholeG (by rfl) 36 _ rfl (W10.heap.size) rfl 36 #[.int .i64 2, .int .i64 1, .int .i64 (q + 1 + j), .int .i64 5] _ H34c.out Tryd.underlying36 rfl (by kernel_rfl) ?_)
    | (refine wp_whole rfl 35 _ rfl (w14.heap.size) rfl 35 #[.slice a3 n3 cap3] _ H34r.out Tryd.underlying35 rfl (by kernel_rfl) ?_)
    | (refine wp_wholeG (by rfl) 35 _ rfl (w14.heap.size) rfl 35 #[.slice a3 n3 cap3] _ H34r.out Tryd.underlying35 rfl (by kernel_rfl) ?_)
    | (refine wp_whole rfl 30 _ rfl (w23.heap.size) rfl 30 #[.int .i64 p, .int .i64 q, .int .i64 0, .int .i64 0, .int .u64 0, .int .i64 s1, .int .i64 k1] _ H34e.out Tryd.underlying30 rfl (by kernel_rfl) ?_)
    | (refine wp_wholeG (by rfl) 30 _ rfl (w23.heap.size) rfl 30 #[.int .i64 p, .int .i64 q, .int .i64 0, .int .i64 0, .int .u64 0, .int .i64 s1, .int .i64 k1] _ H34e.out Tryd.underlying30 rfl (by kernel_rfl) ?_)
    | (refine wp_whole rfl 30 _ rfl (w24.heap.size) rfl 30 #[.int .i64 p, .int .i64 (q + 1 + j), .int .i64 0, .int .i64 h1, .int .u64 (b1 : Int), .int .i64 0, .int .i64 0] _ H34t.out Tryd.underlying30 rfl (by kernel_rfl) ?_)
    | (refine wp_wholeG (by rfl) 30 _ rfl (w24.heap.size) rfl 30 #[.int .i64 p, .int .i64 (q + 1 + j), .int .i64 0, .int .i64 h1, .int .u64 (b1 : Int), .int .i64 0, .int .i64 0] _ H34t.out Tryd.underlying30 rfl (by kernel_rfl) ?_)
    | (refine wp_whole rfl 30 _ rfl (w25.heap.size) rfl 30 #[.int .i64 p, .int .i64 (q + 1 + j), .int .i64 0, .int .i64 h1, .int .u64 (b1 : Int), .int .i64 0, .int .i64 0] _ H34l.out Tryd.underlying30 rfl (by kernel_rfl) ?_)
    | (refine wp_wholeG (by rfl) 30 _ rfl (w25.heap.size) rfl 30 #[.int .i64 p, .int .i64 (q + 1 + j), .int .i64 0, .int .i64 h1, .int .u64 (b1 : Int), .int .i64 0, .int .i64 0] _ H34l.out Tryd.underlying30 rfl (by kernel_rfl) ?_)
    | (refine wp_whole rfl 30 _ rfl (w26.heap.size) rfl 30 #[.int .i64 p, .int .i64 (q + 1 + j), .int .i64 fa, .int .i64 h2, .int .u64 (b2 : Int), .int .i64 0, .int .i64 0] _ H34z.out Tryd.underlying30 rfl (by kernel_rfl) ?_)
    | (refine wp_wholeG (by rfl) 30 _ rfl (w26.heap.size) rfl 30 #[.int .i64 p, .int .i64 (q + 1 + j), .int .i64 fa, .int .i64 h2, .int .u64 (b2 : Int), .int .i64 0, .int .i64 0] _ H34z.out Tryd.underlying30 rfl (by kernel_rfl) ?_)
    | fail)
  go_ret
  exact ⟨rfl, H34B.out⟩

end Go.Proofs.YtmpapnblpjnlmacDoor.met
