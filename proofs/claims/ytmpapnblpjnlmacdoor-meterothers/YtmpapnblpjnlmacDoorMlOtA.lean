/- What was sold to another meter is no good here: the walk. -/
import Derived.Test.YtmpapnblpjnlmacDoorMjK
import Derived.Test.YtmpapnblpjnlmacDoorMtE
import Derived.Test.YtmpapnblpjnlmacDoorLetG
import Derived.Test.YtmpapnblpjnlmacDoorLetO
import Derived.Test.YtmpapnblpjnlmacDoorMtNew
import Derived.Test.YtmpapnblpjnlmacDoorMtSo
import Derived.Test.YtmpapnblpjnlmacDoorMtZ
namespace Go.Proofs.YtmpapnblpjnlmacDoor.met
open Go.RowKit Go.Proofs.YtmpapnblpjnlmacDoor.ora Go.Proofs.YtmpapnblpjnlmacDoor.token Go.Proofs.YtmpapnblpjnlmacDoor.check
set_option maxRecDepth 100000
set_option linter.unusedVariables false
set_option linter.unusedSimpArgs false

set_option maxHeartbeats 4000000 in
theorem others_abs (x0 x1 x2 x3 oth y0 y1 y2 y3 c0 jj p q r s kc ki ka kt s1 k1 : Int) (L : List Pr) (w : World) (p0 : 0 ≤ p) (p1 : p ≤ 49) (j0 : 0 ≤ jj) (j1 : jj ≤ 48)
    (hn : ∀ W, Calls Tryd.prog 5 #[.agg #[.int .i64 x0, .int .i64 x1, .int .i64 x2, .int .i64 x3]] W fun e w' => e = .returned (.agg #[.int .i64 p, .int .i64 q, .int .i64 r, .int .i64 0, .int .u64 0, .int .i64 s, .int .i64 0]) ∧ Below W.heap.size W w')
    (hj : ∀ W, Calls Tryd.prog 6 #[.int .i64 oth, .int .i64 49] W fun e w' => e = .returned (.int .i64 jj) ∧ w' = W)
    (hp : ∀ W, Calls Tryd.prog 6 #[.int .i64 y0, .int .i64 3] W fun e w' => e = .returned (.int .i64 c0) ∧ w' = W)
    (hs : ∀ W, Below w.heap.size w W → Calls Tryd.prog 7 #[.agg #[.slice none 0 0], .agg #[.int .i64 ((p + 1 + jj) % 50), .int .i64 q, .int .i64 r, .int .i64 0, .int .u64 0, .int .i64 s, .int .i64 0], .agg #[.int .i64 c0, .int .i64 y1, .int .i64 y2, .int .i64 y3]] W fun e w' => ∃ a n cap, e = .returned (.tuple #[.agg #[.slice a n cap], .agg #[.int .i64 kc, .int .i64 ki, .int .i64 ka, .int .i64 kt], .bool true]) ∧ Came w' a n cap L ∧ Below W.heap.size W w')
    (hk : ∀ W a n cap, Below w.heap.size w W → Came W a n cap L → Calls Tryd.prog 8 #[.agg #[.int .i64 p, .int .i64 q, .int .i64 r, .int .i64 0, .int .u64 0, .int .i64 s, .int .i64 0], .agg #[.slice a n cap], .agg #[.int .i64 kc, .int .i64 ki, .int .i64 ka, .int .i64 kt]] W fun e w' => e = .returned (.tuple #[.agg #[.int .i64 p, .int .i64 q, .int .i64 r, .int .i64 0, .int .u64 0, .int .i64 s1, .int .i64 k1], .int .i64 0, .int .i64 12]) ∧ Below W.heap.size W w')
    : Calls Tryd.prog 3 #[.agg #[.int .i64 x0, .int .i64 x1, .int .i64 x2, .int .i64 x3], .int .i64 oth, .agg #[.int .i64 y0, .int .i64 y1, .int .i64 y2, .int .i64 y3]] w fun e w' => e = .returned (.bool true) ∧ Below w.heap.size w w' := by
  have HN : Hid (∀ W, Calls Tryd.prog 5 #[.agg #[.int .i64 x0, .int .i64 x1, .int .i64 x2, .int .i64 x3]] W fun e w' => e = .returned (.agg #[.int .i64 p, .int .i64 q, .int .i64 r, .int .i64 0, .int .u64 0, .int .i64 s, .int .i64 0]) ∧ Below W.heap.size W w') := hn
  have HJ : Hid (∀ W, Calls Tryd.prog 6 #[.int .i64 oth, .int .i64 49] W fun e w' => e = .returned (.int .i64 jj) ∧ w' = W) := hj
  have HP : Hid (∀ W, Calls Tryd.prog 6 #[.int .i64 y0, .int .i64 3] W fun e w' => e = .returned (.int .i64 c0) ∧ w' = W) := hp
  have HS : Hid (∀ W, Below w.heap.size w W → Calls Tryd.prog 7 #[.agg #[.slice none 0 0], .agg #[.int .i64 ((p + 1 + jj) % 50), .int .i64 q, .int .i64 r, .int .i64 0, .int .u64 0, .int .i64 s, .int .i64 0], .agg #[.int .i64 c0, .int .i64 y1, .int .i64 y2, .int .i64 y3]] W fun e w' => ∃ a n cap, e = .returned (.tuple #[.agg #[.slice a n cap], .agg #[.int .i64 kc, .int .i64 ki, .int .i64 ka, .int .i64 kt], .bool true]) ∧ Came w' a n cap L ∧ Below W.heap.size W w') := hs
  have HK : Hid (∀ W a n cap, Below w.heap.size w W → Came W a n cap L → Calls Tryd.prog 8 #[.agg #[.int .i64 p, .int .i64 q, .int .i64 r, .int .i64 0, .int .u64 0, .int .i64 s, .int .i64 0], .agg #[.slice a n cap], .agg #[.int .i64 kc, .int .i64 ki, .int .i64 ka, .int .i64 kt]] W fun e w' => e = .returned (.tuple #[.agg #[.int .i64 p, .int .i64 q, .int .i64 r, .int .i64 0, .int .u64 0, .int .i64 s1, .int .i64 k1], .int .i64 0, .int .i64 12]) ∧ Below W.heap.size W w') := hk
  clear hn hj hp hs hk
  have H0n : Hid (Blk ((w.alloc (.cells #[.int .i64 x0, .int .i64 x1, .int .i64 x2, .int .i64 x3] 23)).alloc (.cells #[.int .i64 y0, .int .i64 y1, .int .i64 y2, .int .i64 y3] 25)) (w.heap.size) #[.int .i64 x0, .int .i64 x1, .int .i64 x2, .int .i64 x3] 23) := (Blk.new w _ _).alloc _
  have H0x : Hid (Blk ((w.alloc (.cells #[.int .i64 x0, .int .i64 x1, .int .i64 x2, .int .i64 x3] 23)).alloc (.cells #[.int .i64 y0, .int .i64 y1, .int .i64 y2, .int .i64 y3] 25)) (w.heap.size + 1) #[.int .i64 y0, .int .i64 y1, .int .i64 y2, .int .i64 y3] 25) := Blk.new1 w _ _ _
  have H0B : Hid (Below w.heap.size w ((w.alloc (.cells #[.int .i64 x0, .int .i64 x1, .int .i64 x2, .int .i64 x3] 23)).alloc (.cells #[.int .i64 y0, .int .i64 y1, .int .i64 y2, .int .i64 y3] 25))) := ((Below.refl w.heap.size w).alloc (by simp) _).alloc (by simp) _
  go_enter Tryd.func3, Tryd.ntmps3
  go_wp2_with (first
    | (refine wp_whole rfl 23 _ rfl (w.heap.size) rfl 23 #[.int .i64 x0, .int .i64 x1, .int .i64 x2, .int .i64 x3] _ H0n.out Tryd.underlying23 rfl (by kernel_rfl) ?_)
    | (refine wp_wholeG (by rfl) 23 _ rfl (w.heap.size) rfl 23 #[.int .i64 x0, .int .i64 x1, .int .i64 x2, .int .i64 x3] _ H0n.out Tryd.underlying23 rfl (by kernel_rfl) ?_)
    | (refine wp_whole rfl 25 _ rfl (w.heap.size + 1) rfl 25 #[.int .i64 y0, .int .i64 y1, .int .i64 y2, .int .i64 y3] _ H0x.out Tryd.underlying25 rfl (by kernel_rfl) ?_)
    | (refine wp_wholeG (by rfl) 25 _ rfl (w.heap.size + 1) rfl 25 #[.int .i64 y0, .int .i64 y1, .int .i64 y2, .int .i64 y3] _ H0x.out Tryd.underlying25 rfl (by kernel_rfl) ?_)
    | fail)
  refine (HN.out _).mono ?_
  rintro e w1 ⟨rfl, hb1⟩
  have H1n : Hid (Blk w1 (w.heap.size) #[.int .i64 x0, .int .i64 x1, .int .i64 x2, .int .i64 x3] 23) := H0n.out.next hb1
  have H1x : Hid (Blk w1 (w.heap.size + 1) #[.int .i64 y0, .int .i64 y1, .int .i64 y2, .int .i64 y3] 25) := H0x.out.next hb1
  have H1B : Hid (Below w.heap.size w w1) := bel_step H0B.out hb1
  have H2n : Hid (Blk ((w1.alloc (.cells #[.int .i64 p, .int .i64 q, .int .i64 r, .int .i64 0, .int .u64 0, .int .i64 s, .int .i64 0] 30)).alloc (.cells #[.int .i64 p, .int .i64 q, .int .i64 r, .int .i64 0, .int .u64 0, .int .i64 s, .int .i64 0] 30)) (w.heap.size) #[.int .i64 x0, .int .i64 x1, .int .i64 x2, .int .i64 x3] 23) := ((H1n.out).alloc _).alloc _
  have H2x : Hid (Blk ((w1.alloc (.cells #[.int .i64 p, .int .i64 q, .int .i64 r, .int .i64 0, .int .u64 0, .int .i64 s, .int .i64 0] 30)).alloc (.cells #[.int .i64 p, .int .i64 q, .int .i64 r, .int .i64 0, .int .u64 0, .int .i64 s, .int .i64 0] 30)) (w.heap.size + 1) #[.int .i64 y0, .int .i64 y1, .int .i64 y2, .int .i64 y3] 25) := ((H1x.out).alloc _).alloc _
  have H2m : Hid (Blk ((w1.alloc (.cells #[.int .i64 p, .int .i64 q, .int .i64 r, .int .i64 0, .int .u64 0, .int .i64 s, .int .i64 0] 30)).alloc (.cells #[.int .i64 p, .int .i64 q, .int .i64 r, .int .i64 0, .int .u64 0, .int .i64 s, .int .i64 0] 30)) (w1.heap.size) #[.int .i64 p, .int .i64 q, .int .i64 r, .int .i64 0, .int .u64 0, .int .i64 s, .int .i64 0] 30) := ((Blk.new w1 _ _)).alloc _
  have L2mn : Hid (w.heap.size < w1.heap.size) := Nat.lt_of_lt_of_le H1n.out.lt (by simp)
  have L2mx : Hid (w.heap.size + 1 < w1.heap.size) := Nat.lt_of_lt_of_le H1x.out.lt (by simp)
  have H2f : Hid (Blk ((w1.alloc (.cells #[.int .i64 p, .int .i64 q, .int .i64 r, .int .i64 0, .int .u64 0, .int .i64 s, .int .i64 0] 30)).alloc (.cells #[.int .i64 p, .int .i64 q, .int .i64 r, .int .i64 0, .int .u64 0, .int .i64 s, .int .i64 0] 30)) (w1.heap.size + 1) #[.int .i64 p, .int .i64 q, .int .i64 r, .int .i64 0, .int .u64 0, .int .i64 s, .int .i64 0] 30) := (Blk.new1 w1 _ _ _)
  have L2fn : Hid (w.heap.size < w1.heap.size + 1) := Nat.lt_of_lt_of_le H1n.out.lt (by simp)
  have L2fx : Hid (w.heap.size + 1 < w1.heap.size + 1) := Nat.lt_of_lt_of_le H1x.out.lt (by simp)
  have H2B : Hid (Below w.heap.size w ((w1.alloc (.cells #[.int .i64 p, .int .i64 q, .int .i64 r, .int .i64 0, .int .u64 0, .int .i64 s, .int .i64 0] 30)).alloc (.cells #[.int .i64 p, .int .i64 q, .int .i64 r, .int .i64 0, .int .u64 0, .int .i64 s, .int .i64 0] 30))) := ((H1B.out).alloc (Nat.le_trans H1B.out.size (by simp)) _).alloc (Nat.le_trans H1B.out.size (by simp)) _
  have L20 : Hid (w.heap.size ≤ w1.heap.size) := H1B.out.size
  clear H0n H0x H0B H1n H1x H1B hb1 HN
  have HMA : Hid (Blk (w1.alloc (.cells #[.int .i64 p, .int .i64 q, .int .i64 r, .int .i64 0, .int .u64 0, .int .i64 s, .int .i64 0] 30)) w1.heap.size #[.int .i64 p, .int .i64 q, .int .i64 r, .int .i64 0, .int .u64 0, .int .i64 s, .int .i64 0] 30) := Blk.new w1 _ _
  go_wp2_with (first
    | (refine wp_whole rfl 30 _ rfl w1.heap.size rfl 30 #[.int .i64 p, .int .i64 q, .int .i64 r, .int .i64 0, .int .u64 0, .int .i64 s, .int .i64 0] _ HMA.out Tryd.underlying30 rfl (by kernel_rfl) ?_)
    | (refine wp_whole rfl 23 _ rfl (w.heap.size) rfl 23 #[.int .i64 x0, .int .i64 x1, .int .i64 x2, .int .i64 x3] _ H2n.out Tryd.underlying23 rfl (by kernel_rfl) ?_)
    | (refine wp_wholeG (by rfl) 23 _ rfl (w.heap.size) rfl 23 #[.int .i64 x0, .int .i64 x1, .int .i64 x2, .int .i64 x3] _ H2n.out Tryd.underlying23 rfl (by kernel_rfl) ?_)
    | (refine wp_whole rfl 25 _ rfl (w.heap.size + 1) rfl 25 #[.int .i64 y0, .int .i64 y1, .int .i64 y2, .int .i64 y3] _ H2x.out Tryd.underlying25 rfl (by kernel_rfl) ?_)
    | (refine wp_wholeG (by rfl) 25 _ rfl (w.heap.size + 1) rfl 25 #[.int .i64 y0, .int .i64 y1, .int .i64 y2, .int .i64 y3] _ H2x.out Tryd.underlying25 rfl (by kernel_rfl) ?_)
    | (refine wp_whole rfl 30 _ rfl (w1.heap.size) rfl 30 #[.int .i64 p, .int .i64 q, .int .i64 r, .int .i64 0, .int .u64 0, .int .i64 s, .int .i64 0] _ H2m.out Tryd.underlying30 rfl (by kernel_rfl) ?_)
    | (refine wp_wholeG (by rfl) 30 _ rfl (w1.heap.size) rfl 30 #[.int .i64 p, .int .i64 q, .int .i64 r, .int .i64 0, .int .u64 0, .int .i64 s, .int .i64 0] _ H2m.out Tryd.underlying30 rfl (by kernel_rfl) ?_)
    | (refine wp_whole rfl 30 _ rfl (w1.heap.size + 1) rfl 30 #[.int .i64 p, .int .i64 q, .int .i64 r, .int .i64 0, .int .u64 0, .int .i64 s, .int .i64 0] _ H2f.out Tryd.underlying30 rfl (by kernel_rfl) ?_)
    | (refine wp_wholeG (by rfl) 30 _ rfl (w1.heap.size + 1) rfl 30 #[.int .i64 p, .int .i64 q, .int .i64 r, .int .i64 0, .int .u64 0, .int .i64 s, .int .i64 0] _ H2f.out Tryd.underlying30 rfl (by kernel_rfl) ?_)
    | fail)
  clear HMA
  have hv1 : IntKind.i64.wrap (p + 1) = p + 1 := by rw [IntKind.wrap_i64]; omega
  have hv2 : IntKind.i64.wrap (p + 1 + jj) = p + 1 + jj := by rw [IntKind.wrap_i64]; omega
  have hv3 : (p + 1 + jj).tmod 50 = (p + 1 + jj) % 50 := Int.tmod_eq_emod_of_nonneg (by omega)
  have hv4 : IntKind.i64.wrap ((p + 1 + jj) % 50) = (p + 1 + jj) % 50 := by rw [IntKind.wrap_i64]; omega
  refine wp_region_held_drew (S := fun v => Blk v (w1.heap.size) #[.int .i64 p, .int .i64 q, .int .i64 r, .int .i64 0, .int .u64 0, .int .i64 s, .int .i64 0] 30) (by kernel_rfl) H2m.out (fun hHeld => ?_)
  refine take_at 0 18 (.pointer (some ⟨w1.heap.size, 0, none⟩)) _ rfl rfl (by kernel_rfl) (by kernel_rfl) (by kernel_rfl) (fun _ _ _ h => h) (Or.inl ⟨by rfl, fun v hv => by go_simp⟩) hHeld ?_
  simp only [Act.put, List.setIfInBounds_toArray, List.set_cons_zero, List.set_cons_succ]
  refine take_at 1 19 (.int .i64 p) _ rfl rfl (by kernel_rfl) (by kernel_rfl) (by kernel_rfl) (fun _ _ _ h => h) (Or.inl ⟨by rfl, fun v hv => by have h2 : v.cell? ⟨w1.heap.size, 0, none⟩ = some (.int .i64 p) := Blk.cell hv 0; clear hv; go_simp⟩) hHeld ?_
  simp only [Act.put, List.setIfInBounds_toArray, List.set_cons_zero, List.set_cons_succ]
  refine take_at 2 20 (.int .i64 (p + 1)) _ rfl rfl (by kernel_rfl) (by kernel_rfl) (by kernel_rfl) (fun _ _ _ h => h) (Or.inl ⟨by rfl, fun v hv => by go_simp⟩) hHeld ?_
  simp only [Act.put, List.setIfInBounds_toArray, List.set_cons_zero, List.set_cons_succ]
  refine take_at 3 21 (.int .i64 oth) _ rfl rfl (by kernel_rfl) (by kernel_rfl) (by kernel_rfl) (fun _ _ _ h => h) (Or.inl ⟨by rfl, fun v hv => by go_simp⟩) hHeld ?_
  simp only [Act.put, List.setIfInBounds_toArray, List.set_cons_zero, List.set_cons_succ]
  refine call_at 4 22 (.int .i64 jj) _ rfl rfl (by kernel_rfl) (by kernel_rfl) (by kernel_rfl) (fun _ _ _ h => h) 6 #[.int .i64 oth, .int .i64 49] ⟨by rfl, fun v hv => by go_simp⟩ (fun v _ => HJ.out v) hHeld ?_
  simp only [Act.put, List.setIfInBounds_toArray, List.set_cons_zero, List.set_cons_succ]
  refine take_at 5 23 (.int .i64 (p + 1 + jj)) _ rfl rfl (by kernel_rfl) (by kernel_rfl) (by kernel_rfl) (fun _ _ _ h => h) (Or.inl ⟨by rfl, fun v hv => by go_simp⟩) hHeld ?_
  simp only [Act.put, List.setIfInBounds_toArray, List.set_cons_zero, List.set_cons_succ]
  refine take_at 6 24 (.int .i64 ((p + 1 + jj) % 50)) _ rfl rfl (by kernel_rfl) (by kernel_rfl) (by kernel_rfl) (fun _ _ _ h => h) (Or.inl ⟨by rfl, fun v hv => by go_simp⟩) hHeld ?_
  simp only [Act.put, List.setIfInBounds_toArray, List.set_cons_zero, List.set_cons_succ]
  refine take_at 7 25 (.pointer (some ⟨w1.heap.size + 1, 0, none⟩)) _ rfl rfl (by kernel_rfl) (by kernel_rfl) (by kernel_rfl) (fun _ _ _ h => h) (Or.inl ⟨by rfl, fun v hv => by go_simp⟩) hHeld ?_
  simp only [Act.put, List.setIfInBounds_toArray, List.set_cons_zero, List.set_cons_succ]
  refine wpAnyH_ready (rs := [8]) (by kernel_rfl) (by simp) (AllReadyH.cons rfl (fun K hK => ?_) AllReadyH.nil)
  rw [if_pos (by rfl)]
  refine wp_letOp1 3 _ _ rfl (w1.heap.size + 1) 0 rfl .i64 ((p + 1 + jj) % 50) rfl (by kernel_rfl) #[.int .i64 p, .int .i64 q, .int .i64 r, .int .i64 0, .int .u64 0, .int .i64 s, .int .i64 0] 30 (Blk.drew H2f.out 1) (by simp) rfl ?_
  intro W2 hU
  have hL2mn := L2mn.out
  have hL2mx := L2mx.out
  have hL2fn := L2fn.out
  have hL2fx := L2fx.out
  have hL20 := L20.out
  refine hK.out _ _ (hU.keep (Blk.drew H2m.out 1) (by omega)) (fun hHeld => ?_)
  refine wpAnyH_done (by kernel_rfl) ?_ _
  have H3n : Hid (Blk W2 (w.heap.size) #[.int .i64 x0, .int .i64 x1, .int .i64 x2, .int .i64 x3] 23) := hU.keep (Blk.drew H2n.out 1) (by omega)
  have H3x : Hid (Blk W2 (w.heap.size + 1) #[.int .i64 y0, .int .i64 y1, .int .i64 y2, .int .i64 y3] 25) := hU.keep (Blk.drew H2x.out 1) (by omega)
  have H3m : Hid (Blk W2 (w1.heap.size) #[.int .i64 p, .int .i64 q, .int .i64 r, .int .i64 0, .int .u64 0, .int .i64 s, .int .i64 0] 30) := hU.keep (Blk.drew H2m.out 1) (by omega)
  have H3f : Hid (Blk W2 (w1.heap.size + 1) #[.int .i64 ((p + 1 + jj) % 50), .int .i64 q, .int .i64 r, .int .i64 0, .int .u64 0, .int .i64 s, .int .i64 0] 30) := hU.blk
  have H3B : Hid (Below w.heap.size w W2) := hU.bel _ _ (by omega) (bel_drew H2B.out 1)
  clear hv1 hv2 hv3 hv4 hU hHeld hK HJ H2n H2x H2m H2f H2B hL2mn hL2mx hL2fn hL2fx hL20
  have q_x_0 : W2.cell? ⟨w.heap.size + 1, 0, none⟩ = some (.int .i64 y0) := H3x.out.cell 0
  go_wp2_with (first
    | (refine wp_whole rfl 23 _ rfl (w.heap.size) rfl 23 #[.int .i64 x0, .int .i64 x1, .int .i64 x2, .int .i64 x3] _ H3n.out Tryd.underlying23 rfl (by kernel_rfl) ?_)
    | (refine wp_wholeG (by rfl) 23 _ rfl (w.heap.size) rfl 23 #[.int .i64 x0, .int .i64 x1, .int .i64 x2, .int .i64 x3] _ H3n.out Tryd.underlying23 rfl (by kernel_rfl) ?_)
    | (refine wp_whole rfl 25 _ rfl (w.heap.size + 1) rfl 25 #[.int .i64 y0, .int .i64 y1, .int .i64 y2, .int .i64 y3] _ H3x.out Tryd.underlying25 rfl (by kernel_rfl) ?_)
    | (refine wp_wholeG (by rfl) 25 _ rfl (w.heap.size + 1) rfl 25 #[.int .i64 y0, .int .i64 y1, .int .i64 y2, .int .i64 y3] _ H3x.out Tryd.underlying25 rfl (by kernel_rfl) ?_)
    | (refine wp_whole rfl 30 _ rfl (w1.heap.size) rfl 30 #[.int .i64 p, .int .i64 q, .int .i64 r, .int .i64 0, .int .u64 0, .int .i64 s, .int .i64 0] _ H3m.out Tryd.underlying30 rfl (by kernel_rfl) ?_)
    | (refine wp_wholeG (by rfl) 30 _ rfl (w1.heap.size) rfl 30 #[.int .i64 p, .int .i64 q, .int .i64 r, .int .i64 0, .int .u64 0, .int .i64 s, .int .i64 0] _ H3m.out Tryd.underlying30 rfl (by kernel_rfl) ?_)
    | (refine wp_whole rfl 30 _ rfl (w1.heap.size + 1) rfl 30 #[.int .i64 ((p + 1 + jj) % 50), .int .i64 q, .int .i64 r, .int .i64 0, .int .u64 0, .int .i64 s, .int .i64 0] _ H3f.out Tryd.underlying30 rfl (by kernel_rfl) ?_)
    | (refine wp_wholeG (by rfl) 30 _ rfl (w1.heap.size + 1) rfl 30 #[.int .i64 ((p + 1 + jj) % 50), .int .i64 q, .int .i64 r, .int .i64 0, .int .u64 0, .int .i64 s, .int .i64 0] _ H3f.out Tryd.underlying30 rfl (by kernel_rfl) ?_)
    | fail)
  refine (HP.out _).mono ?_
  rintro e w1x ⟨rfl, rfl⟩
  clear q_x_0
  go_wp2_with (first
    | (refine wp_let1 rfl 3 _ _ rfl (w.heap.size + 1) 0 rfl .i64 c0 rfl (by kernel_rfl) #[.int .i64 y0, .int .i64 y1, .int .i64 y2, .int .i64 y3] 25 H3x.out (by simp) ?_)
    | (refine wp_whole rfl 23 _ rfl (w.heap.size) rfl 23 #[.int .i64 x0, .int .i64 x1, .int .i64 x2, .int .i64 x3] _ H3n.out Tryd.underlying23 rfl (by kernel_rfl) ?_)
    | (refine wp_wholeG (by rfl) 23 _ rfl (w.heap.size) rfl 23 #[.int .i64 x0, .int .i64 x1, .int .i64 x2, .int .i64 x3] _ H3n.out Tryd.underlying23 rfl (by kernel_rfl) ?_)
    | (refine wp_whole rfl 25 _ rfl (w.heap.size + 1) rfl 25 #[.int .i64 y0, .int .i64 y1, .int .i64 y2, .int .i64 y3] _ H3x.out Tryd.underlying25 rfl (by kernel_rfl) ?_)
    | (refine wp_wholeG (by rfl) 25 _ rfl (w.heap.size + 1) rfl 25 #[.int .i64 y0, .int .i64 y1, .int .i64 y2, .int .i64 y3] _ H3x.out Tryd.underlying25 rfl (by kernel_rfl) ?_)
    | (refine wp_whole rfl 30 _ rfl (w1.heap.size) rfl 30 #[.int .i64 p, .int .i64 q, .int .i64 r, .int .i64 0, .int .u64 0, .int .i64 s, .int .i64 0] _ H3m.out Tryd.underlying30 rfl (by kernel_rfl) ?_)
    | (refine wp_wholeG (by rfl) 30 _ rfl (w1.heap.size) rfl 30 #[.int .i64 p, .int .i64 q, .int .i64 r, .int .i64 0, .int .u64 0, .int .i64 s, .int .i64 0] _ H3m.out Tryd.underlying30 rfl (by kernel_rfl) ?_)
    | (refine wp_whole rfl 30 _ rfl (w1.heap.size + 1) rfl 30 #[.int .i64 ((p + 1 + jj) % 50), .int .i64 q, .int .i64 r, .int .i64 0, .int .u64 0, .int .i64 s, .int .i64 0] _ H3f.out Tryd.underlying30 rfl (by kernel_rfl) ?_)
    | (refine wp_wholeG (by rfl) 30 _ rfl (w1.heap.size + 1) rfl 30 #[.int .i64 ((p + 1 + jj) % 50), .int .i64 q, .int .i64 r, .int .i64 0, .int .u64 0, .int .i64 s, .int .i64 0] _ H3f.out Tryd.underlying30 rfl (by kernel_rfl) ?_)
    | fail)
  intro W3 hU
  have hL2mn := L2mn.out
  have hL2mx := L2mx.out
  have hL2fn := L2fn.out
  have hL2fx := L2fx.out
  have hL20 := L20.out
  have H4n : Hid (Blk W3 (w.heap.size) #[.int .i64 x0, .int .i64 x1, .int .i64 x2, .int .i64 x3] 23) := hU.keep H3n.out (by omega)
  have H4x : Hid (Blk W3 (w.heap.size + 1) #[.int .i64 c0, .int .i64 y1, .int .i64 y2, .int .i64 y3] 25) := hU.blk
  have H4m : Hid (Blk W3 (w1.heap.size) #[.int .i64 p, .int .i64 q, .int .i64 r, .int .i64 0, .int .u64 0, .int .i64 s, .int .i64 0] 30) := hU.keep H3m.out (by omega)
  have H4f : Hid (Blk W3 (w1.heap.size + 1) #[.int .i64 ((p + 1 + jj) % 50), .int .i64 q, .int .i64 r, .int .i64 0, .int .u64 0, .int .i64 s, .int .i64 0] 30) := hU.keep H3f.out (by omega)
  have H4B : Hid (Below w.heap.size w W3) := hU.bel _ _ (by omega) H3B.out
  clear hU H3n H3x H3m H3f H3B hL2mn hL2mx hL2fn hL2fx hL20 
  go_wp2_with (first
    | (refine wp_whole rfl 23 _ rfl (w.heap.size) rfl 23 #[.int .i64 x0, .int .i64 x1, .int .i64 x2, .int .i64 x3] _ H4n.out Tryd.underlying23 rfl (by kernel_rfl) ?_)
    | (refine wp_wholeG (by rfl) 23 _ rfl (w.heap.size) rfl 23 #[.int .i64 x0, .int .i64 x1, .int .i64 x2, .int .i64 x3] _ H4n.out Tryd.underlying23 rfl (by kernel_rfl) ?_)
    | (refine wp_whole rfl 25 _ rfl (w.heap.size + 1) rfl 25 #[.int .i64 c0, .int .i64 y1, .int .i64 y2, .int .i64 y3] _ H4x.out Tryd.underlying25 rfl (by kernel_rfl) ?_)
    | (refine wp_wholeG (by rfl) 25 _ rfl (w.heap.size + 1) rfl 25 #[.int .i64 c0, .int .i64 y1, .int .i64 y2, .int .i64 y3] _ H4x.out Tryd.underlying25 rfl (by kernel_rfl) ?_)
    | (refine wp_whole rfl 30 _ rfl (w1.heap.size) rfl 30 #[.int .i64 p, .int .i64 q, .int .i64 r, .int .i64 0, .int .u64 0, .int .i64 s, .int .i64 0] _ H4m.out Tryd.underlying30 rfl (by kernel_rfl) ?_)
    | (refine wp_wholeG (by rfl) 30 _ rfl (w1.heap.size) rfl 30 #[.int .i64 p, .int .i64 q, .int .i64 r, .int .i64 0, .int .u64 0, .int .i64 s, .int .i64 0] _ H4m.out Tryd.underlying30 rfl (by kernel_rfl) ?_)
    | (refine wp_whole rfl 30 _ rfl (w1.heap.size + 1) rfl 30 #[.int .i64 ((p + 1 + jj) % 50), .int .i64 q, .int .i64 r, .int .i64 0, .int .u64 0, .int .i64 s, .int .i64 0] _ H4f.out Tryd.underlying30 rfl (by kernel_rfl) ?_)
    | (refine wp_wholeG (by rfl) 30 _ rfl (w1.heap.size + 1) rfl 30 #[.int .i64 ((p + 1 + jj) % 50), .int .i64 q, .int .i64 r, .int .i64 0, .int .u64 0, .int .i64 s, .int .i64 0] _ H4f.out Tryd.underlying30 rfl (by kernel_rfl) ?_)
    | fail)
  refine (HS.out _ H4B.out).mono ?_
  rintro e w3 ⟨a, n, cap, rfl, hc, hb3⟩
  have H5n : Hid (Blk w3 (w.heap.size) #[.int .i64 x0, .int .i64 x1, .int .i64 x2, .int .i64 x3] 23) := H4n.out.next hb3
  have H5x : Hid (Blk w3 (w.heap.size + 1) #[.int .i64 c0, .int .i64 y1, .int .i64 y2, .int .i64 y3] 25) := H4x.out.next hb3
  have H5m : Hid (Blk w3 (w1.heap.size) #[.int .i64 p, .int .i64 q, .int .i64 r, .int .i64 0, .int .u64 0, .int .i64 s, .int .i64 0] 30) := H4m.out.next hb3
  have H5f : Hid (Blk w3 (w1.heap.size + 1) #[.int .i64 ((p + 1 + jj) % 50), .int .i64 q, .int .i64 r, .int .i64 0, .int .u64 0, .int .i64 s, .int .i64 0] 30) := H4f.out.next hb3
  have H5B : Hid (Below w.heap.size w w3) := bel_step H4B.out hb3
  have HCo : Hid (Came w3 a n cap L) := hc
  have H6n : Hid (Blk ((w3.alloc (.cells #[.slice a n cap] 35)).alloc (.cells #[.int .i64 kc, .int .i64 ki, .int .i64 ka, .int .i64 kt] 36)) (w.heap.size) #[.int .i64 x0, .int .i64 x1, .int .i64 x2, .int .i64 x3] 23) := ((H5n.out).alloc _).alloc _
  have H6x : Hid (Blk ((w3.alloc (.cells #[.slice a n cap] 35)).alloc (.cells #[.int .i64 kc, .int .i64 ki, .int .i64 ka, .int .i64 kt] 36)) (w.heap.size + 1) #[.int .i64 c0, .int .i64 y1, .int .i64 y2, .int .i64 y3] 25) := ((H5x.out).alloc _).alloc _
  have H6m : Hid (Blk ((w3.alloc (.cells #[.slice a n cap] 35)).alloc (.cells #[.int .i64 kc, .int .i64 ki, .int .i64 ka, .int .i64 kt] 36)) (w1.heap.size) #[.int .i64 p, .int .i64 q, .int .i64 r, .int .i64 0, .int .u64 0, .int .i64 s, .int .i64 0] 30) := ((H5m.out).alloc _).alloc _
  have H6f : Hid (Blk ((w3.alloc (.cells #[.slice a n cap] 35)).alloc (.cells #[.int .i64 kc, .int .i64 ki, .int .i64 ka, .int .i64 kt] 36)) (w1.heap.size + 1) #[.int .i64 ((p + 1 + jj) % 50), .int .i64 q, .int .i64 r, .int .i64 0, .int .u64 0, .int .i64 s, .int .i64 0] 30) := ((H5f.out).alloc _).alloc _
  have H6o : Hid (Blk ((w3.alloc (.cells #[.slice a n cap] 35)).alloc (.cells #[.int .i64 kc, .int .i64 ki, .int .i64 ka, .int .i64 kt] 36)) (w3.heap.size) #[.slice a n cap] 35) := ((Blk.new w3 _ _)).alloc _
  have L6on : Hid (w.heap.size < w3.heap.size) := Nat.lt_of_lt_of_le H5n.out.lt (by simp)
  have L6ox : Hid (w.heap.size + 1 < w3.heap.size) := Nat.lt_of_lt_of_le H5x.out.lt (by simp)
  have L6om : Hid (w1.heap.size < w3.heap.size) := Nat.lt_of_lt_of_le H5m.out.lt (by simp)
  have L6of : Hid (w1.heap.size + 1 < w3.heap.size) := Nat.lt_of_lt_of_le H5f.out.lt (by simp)
  have H6t : Hid (Blk ((w3.alloc (.cells #[.slice a n cap] 35)).alloc (.cells #[.int .i64 kc, .int .i64 ki, .int .i64 ka, .int .i64 kt] 36)) (w3.heap.size + 1) #[.int .i64 kc, .int .i64 ki, .int .i64 ka, .int .i64 kt] 36) := (Blk.new1 w3 _ _ _)
  have L6tn : Hid (w.heap.size < w3.heap.size + 1) := Nat.lt_of_lt_of_le H5n.out.lt (by simp)
  have L6tx : Hid (w.heap.size + 1 < w3.heap.size + 1) := Nat.lt_of_lt_of_le H5x.out.lt (by simp)
  have L6tm : Hid (w1.heap.size < w3.heap.size + 1) := Nat.lt_of_lt_of_le H5m.out.lt (by simp)
  have L6tf : Hid (w1.heap.size + 1 < w3.heap.size + 1) := Nat.lt_of_lt_of_le H5f.out.lt (by simp)
  have H6B : Hid (Below w.heap.size w ((w3.alloc (.cells #[.slice a n cap] 35)).alloc (.cells #[.int .i64 kc, .int .i64 ki, .int .i64 ka, .int .i64 kt] 36))) := ((H5B.out).alloc (Nat.le_trans H5B.out.size (by simp)) _).alloc (Nat.le_trans H5B.out.size (by simp)) _
  have L60 : Hid (w.heap.size ≤ w3.heap.size) := H5B.out.size
  have H6Co : Hid (Came ((w3.alloc (.cells #[.slice a n cap] 35)).alloc (.cells #[.int .i64 kc, .int .i64 ki, .int .i64 ka, .int .i64 kt] 36)) a n cap L) := HCo.out.below (((Below.refl w3.heap.size w3).alloc (by simp) _).alloc (by simp) _)
  clear H4n H4x H4m H4f H4B H5n H5x H5m H5f HCo H5B hb3 HS hc HP
  have q_o_0 : ((w3.alloc (.cells #[.slice a n cap] 35)).alloc (.cells #[.int .i64 kc, .int .i64 ki, .int .i64 ka, .int .i64 kt] 36)).cell? ⟨w3.heap.size, 0, none⟩ = some (.slice a n cap) := H6o.out.cell 0
  go_wp2_with (first
    | (refine wp_whole rfl 23 _ rfl (w.heap.size) rfl 23 #[.int .i64 x0, .int .i64 x1, .int .i64 x2, .int .i64 x3] _ H6n.out Tryd.underlying23 rfl (by kernel_rfl) ?_)
    | (refine wp_wholeG (by rfl) 23 _ rfl (w.heap.size) rfl 23 #[.int .i64 x0, .int .i64 x1, .int .i64 x2, .int .i64 x3] _ H6n.out Tryd.underlying23 rfl (by kernel_rfl) ?_)
    | (refine wp_whole rfl 25 _ rfl (w.heap.size + 1) rfl 25 #[.int .i64 c0, .int .i64 y1, .int .i64 y2, .int .i64 y3] _ H6x.out Tryd.underlying25 rfl (by kernel_rfl) ?_)
    | (refine wp_wholeG (by rfl) 25 _ rfl (w.heap.size + 1) rfl 25 #[.int .i64 c0, .int .i64 y1, .int .i64 y2, .int .i64 y3] _ H6x.out Tryd.underlying25 rfl (by kernel_rfl) ?_)
    | (refine wp_whole rfl 30 _ rfl (w1.heap.size) rfl 30 #[.int .i64 p, .int .i64 q, .int .i64 r, .int .i64 0, .int .u64 0, .int .i64 s, .int .i64 0] _ H6m.out Tryd.underlying30 rfl (by kernel_rfl) ?_)
    | (refine wp_wholeG (by rfl) 30 _ rfl (w1.heap.size) rfl 30 #[.int .i64 p, .int .i64 q, .int .i64 r, .int .i64 0, .int .u64 0, .int .i64 s, .int .i64 0] _ H6m.out Tryd.underlying30 rfl (by kernel_rfl) ?_)
    | (refine wp_whole rfl 30 _ rfl (w1.heap.size + 1) rfl 30 #[.int .i64 ((p + 1 + jj) % 50), .int .i64 q, .int .i64 r, .int .i64 0, .int .u64 0, .int .i64 s, .int .i64 0] _ H6f.out Tryd.underlying30 rfl (by kernel_rfl) ?_)
    | (refine wp_wholeG (by rfl) 30 _ rfl (w1.heap.size + 1) rfl 30 #[.int .i64 ((p + 1 + jj) % 50), .int .i64 q, .int .i64 r, .int .i64 0, .int .u64 0, .int .i64 s, .int .i64 0] _ H6f.out Tryd.underlying30 rfl (by kernel_rfl) ?_)
    | (refine wp_whole rfl 35 _ rfl (w3.heap.size) rfl 35 #[.slice a n cap] _ H6o.out Tryd.underlying35 rfl (by kernel_rfl) ?_)
    | (refine wp_wholeG (by rfl) 35 _ rfl (w3.heap.size) rfl 35 #[.slice a n cap] _ H6o.out Tryd.underlying35 rfl (by kernel_rfl) ?_)
    | (refine wp_whole rfl 36 _ rfl (w3.heap.size + 1) rfl 36 #[.int .i64 kc, .int .i64 ki, .int .i64 ka, .int .i64 kt] _ H6t.out Tryd.underlying36 rfl (by kernel_rfl) ?_)
    | (refine wp_wholeG (by rfl) 36 _ rfl (w3.heap.size + 1) rfl 36 #[.int .i64 kc, .int .i64 ki, .int .i64 ka, .int .i64 kt] _ H6t.out Tryd.underlying36 rfl (by kernel_rfl) ?_)
    | fail)
  clear q_o_0
  have HKK := HK.out _ a n cap H6B.out H6Co.out
  refine HKK.mono ?_
  rintro e w4 ⟨rfl, hb4⟩
  have H7n : Hid (Blk w4 (w.heap.size) #[.int .i64 x0, .int .i64 x1, .int .i64 x2, .int .i64 x3] 23) := H6n.out.next hb4
  have H7x : Hid (Blk w4 (w.heap.size + 1) #[.int .i64 c0, .int .i64 y1, .int .i64 y2, .int .i64 y3] 25) := H6x.out.next hb4
  have H7m : Hid (Blk w4 (w1.heap.size) #[.int .i64 p, .int .i64 q, .int .i64 r, .int .i64 0, .int .u64 0, .int .i64 s, .int .i64 0] 30) := H6m.out.next hb4
  have H7f : Hid (Blk w4 (w1.heap.size + 1) #[.int .i64 ((p + 1 + jj) % 50), .int .i64 q, .int .i64 r, .int .i64 0, .int .u64 0, .int .i64 s, .int .i64 0] 30) := H6f.out.next hb4
  have H7o : Hid (Blk w4 (w3.heap.size) #[.slice a n cap] 35) := H6o.out.next hb4
  have H7t : Hid (Blk w4 (w3.heap.size + 1) #[.int .i64 kc, .int .i64 ki, .int .i64 ka, .int .i64 kt] 36) := H6t.out.next hb4
  have H7B : Hid (Below w.heap.size w w4) := bel_step H6B.out hb4
  have H7Co : Hid (Came w4 a n cap L) := H6Co.out.below hb4
  have H8n : Hid (Blk (w4.alloc (.cells #[.int .i64 p, .int .i64 q, .int .i64 r, .int .i64 0, .int .u64 0, .int .i64 s1, .int .i64 k1] 30)) (w.heap.size) #[.int .i64 x0, .int .i64 x1, .int .i64 x2, .int .i64 x3] 23) := (H7n.out).alloc _
  have H8x : Hid (Blk (w4.alloc (.cells #[.int .i64 p, .int .i64 q, .int .i64 r, .int .i64 0, .int .u64 0, .int .i64 s1, .int .i64 k1] 30)) (w.heap.size + 1) #[.int .i64 c0, .int .i64 y1, .int .i64 y2, .int .i64 y3] 25) := (H7x.out).alloc _
  have H8m : Hid (Blk (w4.alloc (.cells #[.int .i64 p, .int .i64 q, .int .i64 r, .int .i64 0, .int .u64 0, .int .i64 s1, .int .i64 k1] 30)) (w1.heap.size) #[.int .i64 p, .int .i64 q, .int .i64 r, .int .i64 0, .int .u64 0, .int .i64 s, .int .i64 0] 30) := (H7m.out).alloc _
  have H8f : Hid (Blk (w4.alloc (.cells #[.int .i64 p, .int .i64 q, .int .i64 r, .int .i64 0, .int .u64 0, .int .i64 s1, .int .i64 k1] 30)) (w1.heap.size + 1) #[.int .i64 ((p + 1 + jj) % 50), .int .i64 q, .int .i64 r, .int .i64 0, .int .u64 0, .int .i64 s, .int .i64 0] 30) := (H7f.out).alloc _
  have H8o : Hid (Blk (w4.alloc (.cells #[.int .i64 p, .int .i64 q, .int .i64 r, .int .i64 0, .int .u64 0, .int .i64 s1, .int .i64 k1] 30)) (w3.heap.size) #[.slice a n cap] 35) := (H7o.out).alloc _
  have H8t : Hid (Blk (w4.alloc (.cells #[.int .i64 p, .int .i64 q, .int .i64 r, .int .i64 0, .int .u64 0, .int .i64 s1, .int .i64 k1] 30)) (w3.heap.size + 1) #[.int .i64 kc, .int .i64 ki, .int .i64 ka, .int .i64 kt] 36) := (H7t.out).alloc _
  have H8g : Hid (Blk (w4.alloc (.cells #[.int .i64 p, .int .i64 q, .int .i64 r, .int .i64 0, .int .u64 0, .int .i64 s1, .int .i64 k1] 30)) (w4.heap.size) #[.int .i64 p, .int .i64 q, .int .i64 r, .int .i64 0, .int .u64 0, .int .i64 s1, .int .i64 k1] 30) := (Blk.new w4 _ _)
  have L8gn : Hid (w.heap.size < w4.heap.size) := Nat.lt_of_lt_of_le H7n.out.lt (by simp)
  have L8gx : Hid (w.heap.size + 1 < w4.heap.size) := Nat.lt_of_lt_of_le H7x.out.lt (by simp)
  have L8gm : Hid (w1.heap.size < w4.heap.size) := Nat.lt_of_lt_of_le H7m.out.lt (by simp)
  have L8gf : Hid (w1.heap.size + 1 < w4.heap.size) := Nat.lt_of_lt_of_le H7f.out.lt (by simp)
  have L8go : Hid (w3.heap.size < w4.heap.size) := Nat.lt_of_lt_of_le H7o.out.lt (by simp)
  have L8gt : Hid (w3.heap.size + 1 < w4.heap.size) := Nat.lt_of_lt_of_le H7t.out.lt (by simp)
  have H8B : Hid (Below w.heap.size w (w4.alloc (.cells #[.int .i64 p, .int .i64 q, .int .i64 r, .int .i64 0, .int .u64 0, .int .i64 s1, .int .i64 k1] 30))) := (H7B.out).alloc (Nat.le_trans H7B.out.size (by simp)) _
  have L80 : Hid (w.heap.size ≤ w4.heap.size) := H7B.out.size
  have H8Co : Hid (Came (w4.alloc (.cells #[.int .i64 p, .int .i64 q, .int .i64 r, .int .i64 0, .int .u64 0, .int .i64 s1, .int .i64 k1] 30)) a n cap L) := H7Co.out.below ((Below.refl w4.heap.size w4).alloc (by simp) _)
  clear H6n H6x H6m H6f H6o H6t H6Co H6B H7n H7x H7m H7f H7o H7t H7Co H7B hb4 HKK HK
  have hq : ∀ W : World, (Op.equalIn 10000 28 (.agg #[.int .i64 0, .int .u64 0]) (.agg #[.int .i64 0, .int .u64 0])).run Tryd.prog W = .ok true W := fun W => eqWd 9998 0 0 W
  have er : (r == r) = true := by simp
  have eq : (q == q) = true := by simp
  have q_g_1 : (w4.alloc (.cells #[.int .i64 p, .int .i64 q, .int .i64 r, .int .i64 0, .int .u64 0, .int .i64 s1, .int .i64 k1] 30)).cell? ⟨w4.heap.size, 1, none⟩ = some (.int .i64 q) := H8g.out.cell 1
  have q_g_2 : (w4.alloc (.cells #[.int .i64 p, .int .i64 q, .int .i64 r, .int .i64 0, .int .u64 0, .int .i64 s1, .int .i64 k1] 30)).cell? ⟨w4.heap.size, 2, none⟩ = some (.int .i64 r) := H8g.out.cell 2
  have q_g_3 : (w4.alloc (.cells #[.int .i64 p, .int .i64 q, .int .i64 r, .int .i64 0, .int .u64 0, .int .i64 s1, .int .i64 k1] 30)).cell? ⟨w4.heap.size, 3, none⟩ = some (.int .i64 0) := H8g.out.cell 3
  have q_g_4 : (w4.alloc (.cells #[.int .i64 p, .int .i64 q, .int .i64 r, .int .i64 0, .int .u64 0, .int .i64 s1, .int .i64 k1] 30)).cell? ⟨w4.heap.size, 4, none⟩ = some (.int .u64 0) := H8g.out.cell 4
  have q_m_1 : (w4.alloc (.cells #[.int .i64 p, .int .i64 q, .int .i64 r, .int .i64 0, .int .u64 0, .int .i64 s1, .int .i64 k1] 30)).cell? ⟨w1.heap.size, 1, none⟩ = some (.int .i64 q) := H8m.out.cell 1
  have q_m_2 : (w4.alloc (.cells #[.int .i64 p, .int .i64 q, .int .i64 r, .int .i64 0, .int .u64 0, .int .i64 s1, .int .i64 k1] 30)).cell? ⟨w1.heap.size, 2, none⟩ = some (.int .i64 r) := H8m.out.cell 2
  have q_m_3 : (w4.alloc (.cells #[.int .i64 p, .int .i64 q, .int .i64 r, .int .i64 0, .int .u64 0, .int .i64 s1, .int .i64 k1] 30)).cell? ⟨w1.heap.size, 3, none⟩ = some (.int .i64 0) := H8m.out.cell 3
  have q_m_4 : (w4.alloc (.cells #[.int .i64 p, .int .i64 q, .int .i64 r, .int .i64 0, .int .u64 0, .int .i64 s1, .int .i64 k1] 30)).cell? ⟨w1.heap.size, 4, none⟩ = some (.int .u64 0) := H8m.out.cell 4
  go_wp2_with (first
    | (refine wp_whole rfl 23 _ rfl (w.heap.size) rfl 23 #[.int .i64 x0, .int .i64 x1, .int .i64 x2, .int .i64 x3] _ H8n.out Tryd.underlying23 rfl (by kernel_rfl) ?_)
    | (refine wp_wholeG (by rfl) 23 _ rfl (w.heap.size) rfl 23 #[.int .i64 x0, .int .i64 x1, .int .i64 x2, .int .i64 x3] _ H8n.out Tryd.underlying23 rfl (by kernel_rfl) ?_)
    | (refine wp_whole rfl 25 _ rfl (w.heap.size + 1) rfl 25 #[.int .i64 c0, .int .i64 y1, .int .i64 y2, .int .i64 y3] _ H8x.out Tryd.underlying25 rfl (by kernel_rfl) ?_)
    | (refine wp_wholeG (by rfl) 25 _ rfl (w.heap.size + 1) rfl 25 #[.int .i64 c0, .int .i64 y1, .int .i64 y2, .int .i64 y3] _ H8x.out Tryd.underlying25 rfl (by kernel_rfl) ?_)
    | (refine wp_whole rfl 30 _ rfl (w1.heap.size) rfl 30 #[.int .i64 p, .int .i64 q, .int .i64 r, .int .i64 0, .int .u64 0, .int .i64 s, .int .i64 0] _ H8m.out Tryd.underlying30 rfl (by kernel_rfl) ?_)
    | (refine wp_wholeG (by rfl) 30 _ rfl (w1.heap.size) rfl 30 #[.int .i64 p, .int .i64 q, .int .i64 r, .int .i64 0, .int .u64 0, .int .i64 s, .int .i64 0] _ H8m.out Tryd.underlying30 rfl (by kernel_rfl) ?_)
    | (refine wp_whole rfl 30 _ rfl (w1.heap.size + 1) rfl 30 #[.int .i64 ((p + 1 + jj) % 50), .int .i64 q, .int .i64 r, .int .i64 0, .int .u64 0, .int .i64 s, .int .i64 0] _ H8f.out Tryd.underlying30 rfl (by kernel_rfl) ?_)
    | (refine wp_wholeG (by rfl) 30 _ rfl (w1.heap.size + 1) rfl 30 #[.int .i64 ((p + 1 + jj) % 50), .int .i64 q, .int .i64 r, .int .i64 0, .int .u64 0, .int .i64 s, .int .i64 0] _ H8f.out Tryd.underlying30 rfl (by kernel_rfl) ?_)
    | (refine wp_whole rfl 35 _ rfl (w3.heap.size) rfl 35 #[.slice a n cap] _ H8o.out Tryd.underlying35 rfl (by kernel_rfl) ?_)
    | (refine wp_wholeG (by rfl) 35 _ rfl (w3.heap.size) rfl 35 #[.slice a n cap] _ H8o.out Tryd.underlying35 rfl (by kernel_rfl) ?_)
    | (refine wp_whole rfl 36 _ rfl (w3.heap.size + 1) rfl 36 #[.int .i64 kc, .int .i64 ki, .int .i64 ka, .int .i64 kt] _ H8t.out Tryd.underlying36 rfl (by kernel_rfl) ?_)
    | (refine wp_wholeG (by rfl) 36 _ rfl (w3.heap.size + 1) rfl 36 #[.int .i64 kc, .int .i64 ki, .int .i64 ka, .int .i64 kt] _ H8t.out Tryd.underlying36 rfl (by kernel_rfl) ?_)
    | (refine wp_whole rfl 30 _ rfl (w4.heap.size) rfl 30 #[.int .i64 p, .int .i64 q, .int .i64 r, .int .i64 0, .int .u64 0, .int .i64 s1, .int .i64 k1] _ H8g.out Tryd.underlying30 rfl (by kernel_rfl) ?_)
    | (refine wp_wholeG (by rfl) 30 _ rfl (w4.heap.size) rfl 30 #[.int .i64 p, .int .i64 q, .int .i64 r, .int .i64 0, .int .u64 0, .int .i64 s1, .int .i64 k1] _ H8g.out Tryd.underlying30 rfl (by kernel_rfl) ?_)
    | fail)
  go_ret
  exact ⟨rfl, H8B.out⟩

end Go.Proofs.YtmpapnblpjnlmacDoor.met
