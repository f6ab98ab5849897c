/- What was sold here adds just its units, if there is room. -/
import Derived.Test.YtmpapnblpjnlmabDoorMjK
import Derived.Test.YtmpapnblpjnlmabDoorMtE
import Derived.Test.YtmpapnblpjnlmabDoorLetG
import Derived.Test.YtmpapnblpjnlmabDoorMtNew
import Derived.Test.YtmpapnblpjnlmabDoorMtSo
import Derived.Test.YtmpapnblpjnlmabDoorMtZ
namespace Go.Proofs.YtmpapnblpjnlmabDoor.met
open Go.RowKit Go.Proofs.YtmpapnblpjnlmabDoor.ora Go.Proofs.YtmpapnblpjnlmabDoor.token Go.Proofs.YtmpapnblpjnlmabDoor.check
set_option maxRecDepth 100000
set_option linter.unusedVariables false
set_option linter.unusedSimpArgs false

set_option maxHeartbeats 4000000 in
theorem adds_abs (x0 x1 x2 x3 y0 y1 y2 y3 p q r s ki ka kt : Int) (L : List Pr) (w : World) (r0 : 0 ≤ r) (r1 : r ≤ 99999999) (a0 : 0 ≤ ka) (a1 : ka ≤ 2097151)
    (hn : ∀ W, Calls Tryd.prog 7 #[.agg #[.int .i64 x0, .int .i64 x1, .int .i64 x2, .int .i64 x3]] W fun e w' => e = .returned (.agg #[.int .i64 p, .int .i64 q, .int .i64 r, .int .i64 0, .int .u64 0, .int .i64 s, .int .i64 0]) ∧ Below W.heap.size W w')
    (hs : ∀ W, Below w.heap.size w W → Calls Tryd.prog 8 #[.agg #[.slice none 0 0], .agg #[.int .i64 p, .int .i64 q, .int .i64 r, .int .i64 0, .int .u64 0, .int .i64 s, .int .i64 0], .agg #[.int .i64 0, .int .i64 y1, .int .i64 y2, .int .i64 y3]] W fun e w' => ∃ a n cap, e = .returned (.tuple #[.agg #[.slice a n cap], .agg #[.int .i64 0, .int .i64 ki, .int .i64 ka, .int .i64 kt], .bool true]) ∧ Came w' a n cap L ∧ Below W.heap.size W w')
    (hk : ∀ W a n cap, Below w.heap.size w W → Came W a n cap L → Calls Tryd.prog 9 #[.agg #[.int .i64 p, .int .i64 q, .int .i64 r, .int .i64 0, .int .u64 0, .int .i64 s, .int .i64 0], .agg #[.slice a n cap], .agg #[.int .i64 0, .int .i64 ki, .int .i64 ka, .int .i64 kt]] W fun e w' => ((99999999 - r < ka ∧ e = .returned (.tuple #[.agg #[.int .i64 p, .int .i64 q, .int .i64 r, .int .i64 0, .int .u64 0, .int .i64 s, .int .i64 0], .int .i64 0, .int .i64 15])) ∨ (¬ 99999999 - r < ka ∧ ∃ (h1 : Int) (b1 : Nat), e = .returned (.tuple #[.agg #[.int .i64 p, .int .i64 q, .int .i64 (r + ka), .int .i64 h1, .int .u64 (b1 : Int), .int .i64 0, .int .i64 0], .int .i64 ka, .int .i64 0]))) ∧ Below W.heap.size W w')
    : Calls Tryd.prog 3 #[.agg #[.int .i64 x0, .int .i64 x1, .int .i64 x2, .int .i64 x3], .agg #[.int .i64 y0, .int .i64 y1, .int .i64 y2, .int .i64 y3]] w fun e w' => e = .returned (.bool true) ∧ Below w.heap.size w w' := by
  have HN : Hid (∀ W, Calls Tryd.prog 7 #[.agg #[.int .i64 x0, .int .i64 x1, .int .i64 x2, .int .i64 x3]] W fun e w' => e = .returned (.agg #[.int .i64 p, .int .i64 q, .int .i64 r, .int .i64 0, .int .u64 0, .int .i64 s, .int .i64 0]) ∧ Below W.heap.size W w') := hn
  have HS : Hid (∀ W, Below w.heap.size w W → Calls Tryd.prog 8 #[.agg #[.slice none 0 0], .agg #[.int .i64 p, .int .i64 q, .int .i64 r, .int .i64 0, .int .u64 0, .int .i64 s, .int .i64 0], .agg #[.int .i64 0, .int .i64 y1, .int .i64 y2, .int .i64 y3]] W fun e w' => ∃ a n cap, e = .returned (.tuple #[.agg #[.slice a n cap], .agg #[.int .i64 0, .int .i64 ki, .int .i64 ka, .int .i64 kt], .bool true]) ∧ Came w' a n cap L ∧ Below W.heap.size W w') := hs
  have HK : Hid (∀ W a n cap, Below w.heap.size w W → Came W a n cap L → Calls Tryd.prog 9 #[.agg #[.int .i64 p, .int .i64 q, .int .i64 r, .int .i64 0, .int .u64 0, .int .i64 s, .int .i64 0], .agg #[.slice a n cap], .agg #[.int .i64 0, .int .i64 ki, .int .i64 ka, .int .i64 kt]] W fun e w' => ((99999999 - r < ka ∧ e = .returned (.tuple #[.agg #[.int .i64 p, .int .i64 q, .int .i64 r, .int .i64 0, .int .u64 0, .int .i64 s, .int .i64 0], .int .i64 0, .int .i64 15])) ∨ (¬ 99999999 - r < ka ∧ ∃ (h1 : Int) (b1 : Nat), e = .returned (.tuple #[.agg #[.int .i64 p, .int .i64 q, .int .i64 (r + ka), .int .i64 h1, .int .u64 (b1 : Int), .int .i64 0, .int .i64 0], .int .i64 ka, .int .i64 0]))) ∧ Below W.heap.size W w') := hk
  clear hn hs hk
  have H0n : Hid (Blk ((w.alloc (.cells #[.int .i64 x0, .int .i64 x1, .int .i64 x2, .int .i64 x3] 23)).alloc (.cells #[.int .i64 y0, .int .i64 y1, .int .i64 y2, .int .i64 y3] 25)) (w.heap.size) #[.int .i64 x0, .int .i64 x1, .int .i64 x2, .int .i64 x3] 23) := (Blk.new w _ _).alloc _
  have H0x : Hid (Blk ((w.alloc (.cells #[.int .i64 x0, .int .i64 x1, .int .i64 x2, .int .i64 x3] 23)).alloc (.cells #[.int .i64 y0, .int .i64 y1, .int .i64 y2, .int .i64 y3] 25)) (w.heap.size + 1) #[.int .i64 y0, .int .i64 y1, .int .i64 y2, .int .i64 y3] 25) := Blk.new1 w _ _ _
  have H0B : Hid (Below w.heap.size w ((w.alloc (.cells #[.int .i64 x0, .int .i64 x1, .int .i64 x2, .int .i64 x3] 23)).alloc (.cells #[.int .i64 y0, .int .i64 y1, .int .i64 y2, .int .i64 y3] 25))) := ((Below.refl w.heap.size w).alloc (by simp) _).alloc (by simp) _
  go_enter Tryd.func3, Tryd.ntmps3
  go_wp2_with (first
    | (refine wp_whole rfl 23 _ rfl (w.heap.size) rfl 23 #[.int .i64 x0, .int .i64 x1, .int .i64 x2, .int .i64 x3] _ H0n.out Tryd.underlying23 rfl (by kernel_rfl) ?_)
    | (refine wp_wholeG (by rfl) 23 _ rfl (w.heap.size) rfl 23 #[.int .i64 x0, .int .i64 x1, .int .i64 x2, .int .i64 x3] _ H0n.out Tryd.underlying23 rfl (by kernel_rfl) ?_)
    | (refine wp_whole rfl 25 _ rfl (w.heap.size + 1) rfl 25 #[.int .i64 y0, .int .i64 y1, .int .i64 y2, .int .i64 y3] _ H0x.out Tryd.underlying25 rfl (by kernel_rfl) ?_)
    | (refine wp_wholeG (by rfl) 25 _ rfl (w.heap.size + 1) rfl 25 #[.int .i64 y0, .int .i64 y1, .int .i64 y2, .int .i64 y3] _ H0x.out Tryd.underlying25 rfl (by kernel_rfl) ?_)
    | fail)
  refine (HN.out _).mono ?_
  rintro e w1 ⟨rfl, hb1⟩
  have H1n : Hid (Blk w1 (w.heap.size) #[.int .i64 x0, .int .i64 x1, .int .i64 x2, .int .i64 x3] 23) := H0n.out.next hb1
  have H1x : Hid (Blk w1 (w.heap.size + 1) #[.int .i64 y0, .int .i64 y1, .int .i64 y2, .int .i64 y3] 25) := H0x.out.next hb1
  have H1B : Hid (Below w.heap.size w w1) := bel_step H0B.out hb1
  have H2n : Hid (Blk (w1.alloc (.cells #[.int .i64 p, .int .i64 q, .int .i64 r, .int .i64 0, .int .u64 0, .int .i64 s, .int .i64 0] 30)) (w.heap.size) #[.int .i64 x0, .int .i64 x1, .int .i64 x2, .int .i64 x3] 23) := (H1n.out).alloc _
  have H2x : Hid (Blk (w1.alloc (.cells #[.int .i64 p, .int .i64 q, .int .i64 r, .int .i64 0, .int .u64 0, .int .i64 s, .int .i64 0] 30)) (w.heap.size + 1) #[.int .i64 y0, .int .i64 y1, .int .i64 y2, .int .i64 y3] 25) := (H1x.out).alloc _
  have H2m : Hid (Blk (w1.alloc (.cells #[.int .i64 p, .int .i64 q, .int .i64 r, .int .i64 0, .int .u64 0, .int .i64 s, .int .i64 0] 30)) (w1.heap.size) #[.int .i64 p, .int .i64 q, .int .i64 r, .int .i64 0, .int .u64 0, .int .i64 s, .int .i64 0] 30) := (Blk.new w1 _ _)
  have L2mn : Hid (w.heap.size < w1.heap.size) := Nat.lt_of_lt_of_le H1n.out.lt (by simp)
  have L2mx : Hid (w.heap.size + 1 < w1.heap.size) := Nat.lt_of_lt_of_le H1x.out.lt (by simp)
  have H2B : Hid (Below w.heap.size w (w1.alloc (.cells #[.int .i64 p, .int .i64 q, .int .i64 r, .int .i64 0, .int .u64 0, .int .i64 s, .int .i64 0] 30))) := (H1B.out).alloc (Nat.le_trans H1B.out.size (by simp)) _
  have L20 : Hid (w.heap.size ≤ w1.heap.size) := H1B.out.size
  clear H0n H0x H0B H1n H1x H1B hb1 HN
  go_wp2_with (first
    | (refine wp_let1 rfl 3 _ _ rfl (w.heap.size + 1) 0 rfl .i64 0 rfl (by kernel_rfl) #[.int .i64 y0, .int .i64 y1, .int .i64 y2, .int .i64 y3] 25 H2x.out (by simp) ?_)
    | (refine wp_whole rfl 23 _ rfl (w.heap.size) rfl 23 #[.int .i64 x0, .int .i64 x1, .int .i64 x2, .int .i64 x3] _ H2n.out Tryd.underlying23 rfl (by kernel_rfl) ?_)
    | (refine wp_wholeG (by rfl) 23 _ rfl (w.heap.size) rfl 23 #[.int .i64 x0, .int .i64 x1, .int .i64 x2, .int .i64 x3] _ H2n.out Tryd.underlying23 rfl (by kernel_rfl) ?_)
    | (refine wp_whole rfl 25 _ rfl (w.heap.size + 1) rfl 25 #[.int .i64 y0, .int .i64 y1, .int .i64 y2, .int .i64 y3] _ H2x.out Tryd.underlying25 rfl (by kernel_rfl) ?_)
    | (refine wp_wholeG (by rfl) 25 _ rfl (w.heap.size + 1) rfl 25 #[.int .i64 y0, .int .i64 y1, .int .i64 y2, .int .i64 y3] _ H2x.out Tryd.underlying25 rfl (by kernel_rfl) ?_)
    | (refine wp_whole rfl 30 _ rfl (w1.heap.size) rfl 30 #[.int .i64 p, .int .i64 q, .int .i64 r, .int .i64 0, .int .u64 0, .int .i64 s, .int .i64 0] _ H2m.out Tryd.underlying30 rfl (by kernel_rfl) ?_)
    | (refine wp_wholeG (by rfl) 30 _ rfl (w1.heap.size) rfl 30 #[.int .i64 p, .int .i64 q, .int .i64 r, .int .i64 0, .int .u64 0, .int .i64 s, .int .i64 0] _ H2m.out Tryd.underlying30 rfl (by kernel_rfl) ?_)
    | fail)
  intro W2 hU
  have hL2mn := L2mn.out
  have hL2mx := L2mx.out
  have hL20 := L20.out
  have H3n : Hid (Blk W2 (w.heap.size) #[.int .i64 x0, .int .i64 x1, .int .i64 x2, .int .i64 x3] 23) := hU.keep H2n.out (by omega)
  have H3x : Hid (Blk W2 (w.heap.size + 1) #[.int .i64 0, .int .i64 y1, .int .i64 y2, .int .i64 y3] 25) := hU.blk
  have H3m : Hid (Blk W2 (w1.heap.size) #[.int .i64 p, .int .i64 q, .int .i64 r, .int .i64 0, .int .u64 0, .int .i64 s, .int .i64 0] 30) := hU.keep H2m.out (by omega)
  have H3B : Hid (Below w.heap.size w W2) := hU.bel _ _ (by omega) H2B.out
  clear hU H2n H2x H2m H2B hL2mn hL2mx hL20 
  go_wp2_with (first
    | (refine wp_whole rfl 23 _ rfl (w.heap.size) rfl 23 #[.int .i64 x0, .int .i64 x1, .int .i64 x2, .int .i64 x3] _ H3n.out Tryd.underlying23 rfl (by kernel_rfl) ?_)
    | (refine wp_wholeG (by rfl) 23 _ rfl (w.heap.size) rfl 23 #[.int .i64 x0, .int .i64 x1, .int .i64 x2, .int .i64 x3] _ H3n.out Tryd.underlying23 rfl (by kernel_rfl) ?_)
    | (refine wp_whole rfl 25 _ rfl (w.heap.size + 1) rfl 25 #[.int .i64 0, .int .i64 y1, .int .i64 y2, .int .i64 y3] _ H3x.out Tryd.underlying25 rfl (by kernel_rfl) ?_)
    | (refine wp_wholeG (by rfl) 25 _ rfl (w.heap.size + 1) rfl 25 #[.int .i64 0, .int .i64 y1, .int .i64 y2, .int .i64 y3] _ H3x.out Tryd.underlying25 rfl (by kernel_rfl) ?_)
    | (refine wp_whole rfl 30 _ rfl (w1.heap.size) rfl 30 #[.int .i64 p, .int .i64 q, .int .i64 r, .int .i64 0, .int .u64 0, .int .i64 s, .int .i64 0] _ H3m.out Tryd.underlying30 rfl (by kernel_rfl) ?_)
    | (refine wp_wholeG (by rfl) 30 _ rfl (w1.heap.size) rfl 30 #[.int .i64 p, .int .i64 q, .int .i64 r, .int .i64 0, .int .u64 0, .int .i64 s, .int .i64 0] _ H3m.out Tryd.underlying30 rfl (by kernel_rfl) ?_)
    | fail)
  refine (HS.out _ H3B.out).mono ?_
  rintro e w3 ⟨a, n, cap, rfl, hc, hb3⟩
  have H4n : Hid (Blk w3 (w.heap.size) #[.int .i64 x0, .int .i64 x1, .int .i64 x2, .int .i64 x3] 23) := H3n.out.next hb3
  have H4x : Hid (Blk w3 (w.heap.size + 1) #[.int .i64 0, .int .i64 y1, .int .i64 y2, .int .i64 y3] 25) := H3x.out.next hb3
  have H4m : Hid (Blk w3 (w1.heap.size) #[.int .i64 p, .int .i64 q, .int .i64 r, .int .i64 0, .int .u64 0, .int .i64 s, .int .i64 0] 30) := H3m.out.next hb3
  have H4B : Hid (Below w.heap.size w w3) := bel_step H3B.out hb3
  have HCo : Hid (Came w3 a n cap L) := hc
  have H5n : Hid (Blk ((w3.alloc (.cells #[.slice a n cap] 34)).alloc (.cells #[.int .i64 0, .int .i64 ki, .int .i64 ka, .int .i64 kt] 35)) (w.heap.size) #[.int .i64 x0, .int .i64 x1, .int .i64 x2, .int .i64 x3] 23) := ((H4n.out).alloc _).alloc _
  have H5x : Hid (Blk ((w3.alloc (.cells #[.slice a n cap] 34)).alloc (.cells #[.int .i64 0, .int .i64 ki, .int .i64 ka, .int .i64 kt] 35)) (w.heap.size + 1) #[.int .i64 0, .int .i64 y1, .int .i64 y2, .int .i64 y3] 25) := ((H4x.out).alloc _).alloc _
  have H5m : Hid (Blk ((w3.alloc (.cells #[.slice a n cap] 34)).alloc (.cells #[.int .i64 0, .int .i64 ki, .int .i64 ka, .int .i64 kt] 35)) (w1.heap.size) #[.int .i64 p, .int .i64 q, .int .i64 r, .int .i64 0, .int .u64 0, .int .i64 s, .int .i64 0] 30) := ((H4m.out).alloc _).alloc _
  have H5o : Hid (Blk ((w3.alloc (.cells #[.slice a n cap] 34)).alloc (.cells #[.int .i64 0, .int .i64 ki, .int .i64 ka, .int .i64 kt] 35)) (w3.heap.size) #[.slice a n cap] 34) := ((Blk.new w3 _ _)).alloc _
  have L5on : Hid (w.heap.size < w3.heap.size) := Nat.lt_of_lt_of_le H4n.out.lt (by simp)
  have L5ox : Hid (w.heap.size + 1 < w3.heap.size) := Nat.lt_of_lt_of_le H4x.out.lt (by simp)
  have L5om : Hid (w1.heap.size < w3.heap.size) := Nat.lt_of_lt_of_le H4m.out.lt (by simp)
  have H5t : Hid (Blk ((w3.alloc (.cells #[.slice a n cap] 34)).alloc (.cells #[.int .i64 0, .int .i64 ki, .int .i64 ka, .int .i64 kt] 35)) (w3.heap.size + 1) #[.int .i64 0, .int .i64 ki, .int .i64 ka, .int .i64 kt] 35) := (Blk.new1 w3 _ _ _)
  have L5tn : Hid (w.heap.size < w3.heap.size + 1) := Nat.lt_of_lt_of_le H4n.out.lt (by simp)
  have L5tx : Hid (w.heap.size + 1 < w3.heap.size + 1) := Nat.lt_of_lt_of_le H4x.out.lt (by simp)
  have L5tm : Hid (w1.heap.size < w3.heap.size + 1) := Nat.lt_of_lt_of_le H4m.out.lt (by simp)
  have H5B : Hid (Below w.heap.size w ((w3.alloc (.cells #[.slice a n cap] 34)).alloc (.cells #[.int .i64 0, .int .i64 ki, .int .i64 ka, .int .i64 kt] 35))) := ((H4B.out).alloc (Nat.le_trans H4B.out.size (by simp)) _).alloc (Nat.le_trans H4B.out.size (by simp)) _
  have L50 : Hid (w.heap.size ≤ w3.heap.size) := H4B.out.size
  have H5Co : Hid (Came ((w3.alloc (.cells #[.slice a n cap] 34)).alloc (.cells #[.int .i64 0, .int .i64 ki, .int .i64 ka, .int .i64 kt] 35)) a n cap L) := HCo.out.below (((Below.refl w3.heap.size w3).alloc (by simp) _).alloc (by simp) _)
  clear H3n H3x H3m H3B H4n H4x H4m HCo H4B hb3 HS hc
  have q_o_0 : ((w3.alloc (.cells #[.slice a n cap] 34)).alloc (.cells #[.int .i64 0, .int .i64 ki, .int .i64 ka, .int .i64 kt] 35)).cell? ⟨w3.heap.size, 0, none⟩ = some (.slice a n cap) := H5o.out.cell 0
  go_wp2_with (first
    | (refine wp_whole rfl 23 _ rfl (w.heap.size) rfl 23 #[.int .i64 x0, .int .i64 x1, .int .i64 x2, .int .i64 x3] _ H5n.out Tryd.underlying23 rfl (by kernel_rfl) ?_)
    | (refine wp_wholeG (by rfl) 23 _ rfl (w.heap.size) rfl 23 #[.int .i64 x0, .int .i64 x1, .int .i64 x2, .int .i64 x3] _ H5n.out Tryd.underlying23 rfl (by kernel_rfl) ?_)
    | (refine wp_whole rfl 25 _ rfl (w.heap.size + 1) rfl 25 #[.int .i64 0, .int .i64 y1, .int .i64 y2, .int .i64 y3] _ H5x.out Tryd.underlying25 rfl (by kernel_rfl) ?_)
    | (refine wp_wholeG (by rfl) 25 _ rfl (w.heap.size + 1) rfl 25 #[.int .i64 0, .int .i64 y1, .int .i64 y2, .int .i64 y3] _ H5x.out Tryd.underlying25 rfl (by kernel_rfl) ?_)
    | (refine wp_whole rfl 30 _ rfl (w1.heap.size) rfl 30 #[.int .i64 p, .int .i64 q, .int .i64 r, .int .i64 0, .int .u64 0, .int .i64 s, .int .i64 0] _ H5m.out Tryd.underlying30 rfl (by kernel_rfl) ?_)
    | (refine wp_wholeG (by rfl) 30 _ rfl (w1.heap.size) rfl 30 #[.int .i64 p, .int .i64 q, .int .i64 r, .int .i64 0, .int .u64 0, .int .i64 s, .int .i64 0] _ H5m.out Tryd.underlying30 rfl (by kernel_rfl) ?_)
    | (refine wp_whole rfl 34 _ rfl (w3.heap.size) rfl 34 #[.slice a n cap] _ H5o.out Tryd.underlying34 rfl (by kernel_rfl) ?_)
    | (refine wp_wholeG (by rfl) 34 _ rfl (w3.heap.size) rfl 34 #[.slice a n cap] _ H5o.out Tryd.underlying34 rfl (by kernel_rfl) ?_)
    | (refine wp_whole rfl 35 _ rfl (w3.heap.size + 1) rfl 35 #[.int .i64 0, .int .i64 ki, .int .i64 ka, .int .i64 kt] _ H5t.out Tryd.underlying35 rfl (by kernel_rfl) ?_)
    | (refine wp_wholeG (by rfl) 35 _ rfl (w3.heap.size + 1) rfl 35 #[.int .i64 0, .int .i64 ki, .int .i64 ka, .int .i64 kt] _ H5t.out Tryd.underlying35 rfl (by kernel_rfl) ?_)
    | fail)
  clear q_o_0
  have HKK := HK.out _ a n cap H5B.out H5Co.out
  clear HK
  refine HKK.mono ?_
  rintro e w4 ⟨hor, hb4⟩
  have H6n : Hid (Blk w4 (w.heap.size) #[.int .i64 x0, .int .i64 x1, .int .i64 x2, .int .i64 x3] 23) := H5n.out.next hb4
  have H6x : Hid (Blk w4 (w.heap.size + 1) #[.int .i64 0, .int .i64 y1, .int .i64 y2, .int .i64 y3] 25) := H5x.out.next hb4
  have H6m : Hid (Blk w4 (w1.heap.size) #[.int .i64 p, .int .i64 q, .int .i64 r, .int .i64 0, .int .u64 0, .int .i64 s, .int .i64 0] 30) := H5m.out.next hb4
  have H6o : Hid (Blk w4 (w3.heap.size) #[.slice a n cap] 34) := H5o.out.next hb4
  have H6t : Hid (Blk w4 (w3.heap.size + 1) #[.int .i64 0, .int .i64 ki, .int .i64 ka, .int .i64 kt] 35) := H5t.out.next hb4
  have H6B : Hid (Below w.heap.size w w4) := bel_step H5B.out hb4
  have H6Co : Hid (Came w4 a n cap L) := H5Co.out.below hb4
  clear H5n H5x H5m H5o H5t H5Co H5B hb4 HKK
  rcases hor with ⟨hfu, rfl⟩ | ⟨hfu, h1, b1, rfl⟩
  · have H7n : Hid (Blk (w4.alloc (.cells #[.int .i64 p, .int .i64 q, .int .i64 r, .int .i64 0, .int .u64 0, .int .i64 s, .int .i64 0] 30)) (w.heap.size) #[.int .i64 x0, .int .i64 x1, .int .i64 x2, .int .i64 x3] 23) := (H6n.out).alloc _
    have H7x : Hid (Blk (w4.alloc (.cells #[.int .i64 p, .int .i64 q, .int .i64 r, .int .i64 0, .int .u64 0, .int .i64 s, .int .i64 0] 30)) (w.heap.size + 1) #[.int .i64 0, .int .i64 y1, .int .i64 y2, .int .i64 y3] 25) := (H6x.out).alloc _
    have H7m : Hid (Blk (w4.alloc (.cells #[.int .i64 p, .int .i64 q, .int .i64 r, .int .i64 0, .int .u64 0, .int .i64 s, .int .i64 0] 30)) (w1.heap.size) #[.int .i64 p, .int .i64 q, .int .i64 r, .int .i64 0, .int .u64 0, .int .i64 s, .int .i64 0] 30) := (H6m.out).alloc _
    have H7o : Hid (Blk (w4.alloc (.cells #[.int .i64 p, .int .i64 q, .int .i64 r, .int .i64 0, .int .u64 0, .int .i64 s, .int .i64 0] 30)) (w3.heap.size) #[.slice a n cap] 34) := (H6o.out).alloc _
    have H7t : Hid (Blk (w4.alloc (.cells #[.int .i64 p, .int .i64 q, .int .i64 r, .int .i64 0, .int .u64 0, .int .i64 s, .int .i64 0] 30)) (w3.heap.size + 1) #[.int .i64 0, .int .i64 ki, .int .i64 ka, .int .i64 kt] 35) := (H6t.out).alloc _
    have H7g : Hid (Blk (w4.alloc (.cells #[.int .i64 p, .int .i64 q, .int .i64 r, .int .i64 0, .int .u64 0, .int .i64 s, .int .i64 0] 30)) (w4.heap.size) #[.int .i64 p, .int .i64 q, .int .i64 r, .int .i64 0, .int .u64 0, .int .i64 s, .int .i64 0] 30) := (Blk.new w4 _ _)
    have L7gn : Hid (w.heap.size < w4.heap.size) := Nat.lt_of_lt_of_le H6n.out.lt (by simp)
    have L7gx : Hid (w.heap.size + 1 < w4.heap.size) := Nat.lt_of_lt_of_le H6x.out.lt (by simp)
    have L7gm : Hid (w1.heap.size < w4.heap.size) := Nat.lt_of_lt_of_le H6m.out.lt (by simp)
    have L7go : Hid (w3.heap.size < w4.heap.size) := Nat.lt_of_lt_of_le H6o.out.lt (by simp)
    have L7gt : Hid (w3.heap.size + 1 < w4.heap.size) := Nat.lt_of_lt_of_le H6t.out.lt (by simp)
    have H7B : Hid (Below w.heap.size w (w4.alloc (.cells #[.int .i64 p, .int .i64 q, .int .i64 r, .int .i64 0, .int .u64 0, .int .i64 s, .int .i64 0] 30))) := (H6B.out).alloc (Nat.le_trans H6B.out.size (by simp)) _
    have L70 : Hid (w.heap.size ≤ w4.heap.size) := H6B.out.size
    have H7Co : Hid (Came (w4.alloc (.cells #[.int .i64 p, .int .i64 q, .int .i64 r, .int .i64 0, .int .u64 0, .int .i64 s, .int .i64 0] 30)) a n cap L) := H6Co.out.below ((Below.refl w4.heap.size w4).alloc (by simp) _)
    clear H6n H6x H6m H6o H6t H6Co H6B 
    have d1 : decide (99999999 < r + ka) = true := by simp; omega
    have hq : ∀ W : World, (Op.equalIn 10000 30 (.agg #[.int .i64 p, .int .i64 q, .int .i64 r, .int .i64 0, .int .u64 0, .int .i64 s, .int .i64 0]) (.agg #[.int .i64 p, .int .i64 q, .int .i64 r, .int .i64 0, .int .u64 0, .int .i64 s, .int .i64 0])).run Tryd.prog W = .ok true W := fun W => eqMt _ _ _ _ _ _ _ W
    clear hfu
    have q_m_2 : (w4.alloc (.cells #[.int .i64 p, .int .i64 q, .int .i64 r, .int .i64 0, .int .u64 0, .int .i64 s, .int .i64 0] 30)).cell? ⟨w1.heap.size, 2, none⟩ = some (.int .i64 r) := H7m.out.cell 2
    have q_t_2 : (w4.alloc (.cells #[.int .i64 p, .int .i64 q, .int .i64 r, .int .i64 0, .int .u64 0, .int .i64 s, .int .i64 0] 30)).cell? ⟨w3.heap.size + 1, 2, none⟩ = some (.int .i64 ka) := H7t.out.cell 2
    go_wp2_with (first
      | (refine wp_whole rfl 23 _ rfl (w.heap.size) rfl 23 #[.int .i64 x0, .int .i64 x1, .int .i64 x2, .int .i64 x3] _ H7n.out Tryd.underlying23 rfl (by kernel_rfl) ?_)
      | (refine wp_wholeG (by rfl) 23 _ rfl (w.heap.size) rfl 23 #[.int .i64 x0, .int .i64 x1, .int .i64 x2, .int .i64 x3] _ H7n.out Tryd.underlying23 rfl (by kernel_rfl) ?_)
      | (refine wp_whole rfl 25 _ rfl (w.heap.size + 1) rfl 25 #[.int .i64 0, .int .i64 y1, .int .i64 y2, .int .i64 y3] _ H7x.out Tryd.underlying25 rfl (by kernel_rfl) ?_)
      | (refine wp_wholeG (by rfl) 25 _ rfl (w.heap.size + 1) rfl 25 #[.int .i64 0, .int .i64 y1, .int .i64 y2, .int .i64 y3] _ H7x.out Tryd.underlying25 rfl (by kernel_rfl) ?_)
      | (refine wp_whole rfl 30 _ rfl (w1.heap.size) rfl 30 #[.int .i64 p, .int .i64 q, .int .i64 r, .int .i64 0, .int .u64 0, .int .i64 s, .int .i64 0] _ H7m.out Tryd.underlying30 rfl (by kernel_rfl) ?_)
      | (refine wp_wholeG (by rfl) 30 _ rfl (w1.heap.size) rfl 30 #[.int .i64 p, .int .i64 q, .int .i64 r, .int .i64 0, .int .u64 0, .int .i64 s, .int .i64 0] _ H7m.out Tryd.underlying30 rfl (by kernel_rfl) ?_)
      | (refine wp_whole rfl 34 _ rfl (w3.heap.size) rfl 34 #[.slice a n cap] _ H7o.out Tryd.underlying34 rfl (by kernel_rfl) ?_)
      | (refine wp_wholeG (by rfl) 34 _ rfl (w3.heap.size) rfl 34 #[.slice a n cap] _ H7o.out Tryd.underlying34 rfl (by kernel_rfl) ?_)
      | (refine wp_whole rfl 35 _ rfl (w3.heap.size + 1) rfl 35 #[.int .i64 0, .int .i64 ki, .int .i64 ka, .int .i64 kt] _ H7t.out Tryd.underlying35 rfl (by kernel_rfl) ?_)
      | (refine wp_wholeG (by rfl) 35 _ rfl (w3.heap.size + 1) rfl 35 #[.int .i64 0, .int .i64 ki, .int .i64 ka, .int .i64 kt] _ H7t.out Tryd.underlying35 rfl (by kernel_rfl) ?_)
      | (refine wp_whole rfl 30 _ rfl (w4.heap.size) rfl 30 #[.int .i64 p, .int .i64 q, .int .i64 r, .int .i64 0, .int .u64 0, .int .i64 s, .int .i64 0] _ H7g.out Tryd.underlying30 rfl (by kernel_rfl) ?_)
      | (refine wp_wholeG (by rfl) 30 _ rfl (w4.heap.size) rfl 30 #[.int .i64 p, .int .i64 q, .int .i64 r, .int .i64 0, .int .u64 0, .int .i64 s, .int .i64 0] _ H7g.out Tryd.underlying30 rfl (by kernel_rfl) ?_)
      | fail)
    go_ret
    exact ⟨rfl, H7B.out⟩
  · have H7n : Hid (Blk (w4.alloc (.cells #[.int .i64 p, .int .i64 q, .int .i64 (r + ka), .int .i64 h1, .int .u64 (b1 : Int), .int .i64 0, .int .i64 0] 30)) (w.heap.size) #[.int .i64 x0, .int .i64 x1, .int .i64 x2, .int .i64 x3] 23) := (H6n.out).alloc _
    have H7x : Hid (Blk (w4.alloc (.cells #[.int .i64 p, .int .i64 q, .int .i64 (r + ka), .int .i64 h1, .int .u64 (b1 : Int), .int .i64 0, .int .i64 0] 30)) (w.heap.size + 1) #[.int .i64 0, .int .i64 y1, .int .i64 y2, .int .i64 y3] 25) := (H6x.out).alloc _
    have H7m : Hid (Blk (w4.alloc (.cells #[.int .i64 p, .int .i64 q, .int .i64 (r + ka), .int .i64 h1, .int .u64 (b1 : Int), .int .i64 0, .int .i64 0] 30)) (w1.heap.size) #[.int .i64 p, .int .i64 q, .int .i64 r, .int .i64 0, .int .u64 0, .int .i64 s, .int .i64 0] 30) := (H6m.out).alloc _
    have H7o : Hid (Blk (w4.alloc (.cells #[.int .i64 p, .int .i64 q, .int .i64 (r + ka), .int .i64 h1, .int .u64 (b1 : Int), .int .i64 0, .int .i64 0] 30)) (w3.heap.size) #[.slice a n cap] 34) := (H6o.out).alloc _
    have H7t : Hid (Blk (w4.alloc (.cells #[.int .i64 p, .int .i64 q, .int .i64 (r + ka), .int .i64 h1, .int .u64 (b1 : Int), .int .i64 0, .int .i64 0] 30)) (w3.heap.size + 1) #[.int .i64 0, .int .i64 ki, .int .i64 ka, .int .i64 kt] 35) := (H6t.out).alloc _
    have H7g : Hid (Blk (w4.alloc (.cells #[.int .i64 p, .int .i64 q, .int .i64 (r + ka), .int .i64 h1, .int .u64 (b1 : Int), .int .i64 0, .int .i64 0] 30)) (w4.heap.size) #[.int .i64 p, .int .i64 q, .int .i64 (r + ka), .int .i64 h1, .int .u64 (b1 : Int), .int .i64 0, .int .i64 0] 30) := (Blk.new w4 _ _)
    have L7gn : Hid (w.heap.size < w4.heap.size) := Nat.lt_of_lt_of_le H6n.out.lt (by simp)
    have L7gx : Hid (w.heap.size + 1 < w4.heap.size) := Nat.lt_of_lt_of_le H6x.out.lt (by simp)
    have L7gm : Hid (w1.heap.size < w4.heap.size) := Nat.lt_of_lt_of_le H6m.out.lt (by simp)
    have L7go : Hid (w3.heap.size < w4.heap.size) := Nat.lt_of_lt_of_le H6o.out.lt (by simp)
    have L7gt : Hid (w3.heap.size + 1 < w4.heap.size) := Nat.lt_of_lt_of_le H6t.out.lt (by simp)
    have H7B : Hid (Below w.heap.size w (w4.alloc (.cells #[.int .i64 p, .int .i64 q, .int .i64 (r + ka), .int .i64 h1, .int .u64 (b1 : Int), .int .i64 0, .int .i64 0] 30))) := (H6B.out).alloc (Nat.le_trans H6B.out.size (by simp)) _
    have L70 : Hid (w.heap.size ≤ w4.heap.size) := H6B.out.size
    have H7Co : Hid (Came (w4.alloc (.cells #[.int .i64 p, .int .i64 q, .int .i64 (r + ka), .int .i64 h1, .int .u64 (b1 : Int), .int .i64 0, .int .i64 0] 30)) a n cap L) := H6Co.out.below ((Below.refl w4.heap.size w4).alloc (by simp) _)
    clear H6n H6x H6m H6o H6t H6Co H6B 
    have d1 : decide (99999999 < r + ka) = false := by simp; omega
    have e1 : (ka == ka) = true := by simp
    have e2 : ((r + ka) == (r + ka)) = true := by simp
    have e3 : (q == q) = true := by simp
    clear hfu
    have q_m_2 : (w4.alloc (.cells #[.int .i64 p, .int .i64 q, .int .i64 (r + ka), .int .i64 h1, .int .u64 (b1 : Int), .int .i64 0, .int .i64 0] 30)).cell? ⟨w1.heap.size, 2, none⟩ = some (.int .i64 r) := H7m.out.cell 2
    have q_t_2 : (w4.alloc (.cells #[.int .i64 p, .int .i64 q, .int .i64 (r + ka), .int .i64 h1, .int .u64 (b1 : Int), .int .i64 0, .int .i64 0] 30)).cell? ⟨w3.heap.size + 1, 2, none⟩ = some (.int .i64 ka) := H7t.out.cell 2
    have q_g_2 : (w4.alloc (.cells #[.int .i64 p, .int .i64 q, .int .i64 (r + ka), .int .i64 h1, .int .u64 (b1 : Int), .int .i64 0, .int .i64 0] 30)).cell? ⟨w4.heap.size, 2, none⟩ = some (.int .i64 (r + ka)) := H7g.out.cell 2
    have q_g_5 : (w4.alloc (.cells #[.int .i64 p, .int .i64 q, .int .i64 (r + ka), .int .i64 h1, .int .u64 (b1 : Int), .int .i64 0, .int .i64 0] 30)).cell? ⟨w4.heap.size, 5, none⟩ = some (.int .i64 0) := H7g.out.cell 5
    have q_g_1 : (w4.alloc (.cells #[.int .i64 p, .int .i64 q, .int .i64 (r + ka), .int .i64 h1, .int .u64 (b1 : Int), .int .i64 0, .int .i64 0] 30)).cell? ⟨w4.heap.size, 1, none⟩ = some (.int .i64 q) := H7g.out.cell 1
    have q_m_1 : (w4.alloc (.cells #[.int .i64 p, .int .i64 q, .int .i64 (r + ka), .int .i64 h1, .int .u64 (b1 : Int), .int .i64 0, .int .i64 0] 30)).cell? ⟨w1.heap.size, 1, none⟩ = some (.int .i64 q) := H7m.out.cell 1
    go_wp2_with (first
      | (refine wp_whole rfl 23 _ rfl (w.heap.size) rfl 23 #[.int .i64 x0, .int .i64 x1, .int .i64 x2, .int .i64 x3] _ H7n.out Tryd.underlying23 rfl (by kernel_rfl) ?_)
      | (refine wp_wholeG (by rfl) 23 _ rfl (w.heap.size) rfl 23 #[.int .i64 x0, .int .i64 x1, .int .i64 x2, .int .i64 x3] _ H7n.out Tryd.underlying23 rfl (by kernel_rfl) ?_)
      | (refine wp_whole rfl 25 _ rfl (w.heap.size + 1) rfl 25 #[.int .i64 0, .int .i64 y1, .int .i64 y2, .int .i64 y3] _ H7x.out Tryd.underlying25 rfl (by kernel_rfl) ?_)
      | (refine wp_wholeG (by rfl) 25 _ rfl (w.heap.size + 1) rfl 25 #[.int .i64 0, .int .i64 y1, .int .i64 y2, .int .i64 y3] _ H7x.out Tryd.underlying25 rfl (by kernel_rfl) ?_)
      | (refine wp_whole rfl 30 _ rfl (w1.heap.size) rfl 30 #[.int .i64 p, .int .i64 q, .int .i64 r, .int .i64 0, .int .u64 0, .int .i64 s, .int .i64 0] _ H7m.out Tryd.underlying30 rfl (by kernel_rfl) ?_)
      | (refine wp_wholeG (by rfl) 30 _ rfl (w1.heap.size) rfl 30 #[.int .i64 p, .int .i64 q, .int .i64 r, .int .i64 0, .int .u64 0, .int .i64 s, .int .i64 0] _ H7m.out Tryd.underlying30 rfl (by kernel_rfl) ?_)
      | (refine wp_whole rfl 34 _ rfl (w3.heap.size) rfl 34 #[.slice a n cap] _ H7o.out Tryd.underlying34 rfl (by kernel_rfl) ?_)
      | (refine wp_wholeG (by rfl) 34 _ rfl (w3.heap.size) rfl 34 #[.slice a n cap] _ H7o.out Tryd.underlying34 rfl (by kernel_rfl) ?_)
      | (refine wp_whole rfl 35 _ rfl (w3.heap.size + 1) rfl 35 #[.int .i64 0, .int .i64 ki, .int .i64 ka, .int .i64 kt] _ H7t.out Tryd.underlying35 rfl (by kernel_rfl) ?_)
      | (refine wp_wholeG (by rfl) 35 _ rfl (w3.heap.size + 1) rfl 35 #[.int .i64 0, .int .i64 ki, .int .i64 ka, .int .i64 kt] _ H7t.out Tryd.underlying35 rfl (by kernel_rfl) ?_)
      | (refine wp_whole rfl 30 _ rfl (w4.heap.size) rfl 30 #[.int .i64 p, .int .i64 q, .int .i64 (r + ka), .int .i64 h1, .int .u64 (b1 : Int), .int .i64 0, .int .i64 0] _ H7g.out Tryd.underlying30 rfl (by kernel_rfl) ?_)
      | (refine wp_wholeG (by rfl) 30 _ rfl (w4.heap.size) rfl 30 #[.int .i64 p, .int .i64 q, .int .i64 (r + ka), .int .i64 h1, .int .u64 (b1 : Int), .int .i64 0, .int .i64 0] _ H7g.out Tryd.underlying30 rfl (by kernel_rfl) ?_)
      | fail)
    go_ret
    exact ⟨rfl, H7B.out⟩

end Go.Proofs.YtmpapnblpjnlmabDoor.met
