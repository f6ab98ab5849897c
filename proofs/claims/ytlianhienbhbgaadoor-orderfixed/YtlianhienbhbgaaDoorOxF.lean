/- What is read is shown as it was: the statement's walk. -/
import Derived.Test.YtlianhienbhbgaaDoorOdR
namespace Go.Proofs.YtlianhienbhbgaaDoor.odr
open Go.RowKit
set_option maxRecDepth 100000
set_option linter.unusedVariables false
set_option linter.unusedSimpArgs false

theorem good_t {l : List UInt8} {y : Ac} (h : Good l y) : y.t.size ≤ l.length := by
  rw [← guess_back h]; exact guess_t l
set_option maxHeartbeats 2000000 in
theorem OrderFixed_walk (s : ByteArray) (w : World) (hr : RTab w) : Calls Tryd.prog 6 #[.string s] w fun e w' => e = .returned (.bool true) ∧ Below w.heap.size w w' := by
  have HSH : Hid (∀ (y : Ac) W, y.t.size ≤ 120 → Below w.heap.size w W → Calls Tryd.prog 7 #[y.v] W fun e w' => e = .returned (.tuple #[.string (ba (shown y)), .int .i64 (err y)]) ∧ Below W.heap.size W w') := fun y W h hW => pshow y W (hr.below hW).o (hr.below hW).p (by omega)
  have HRD : Hid (Calls Tryd.prog 9 #[.string s] w fun e w' => ReadPost w s e w') := pread s w hr
  clear hr
  go_enter Tryd.func6, Tryd.ntmps6
  go_wp2_with fail
  refine HRD.out.mono ?_
  rintro e W1 ⟨y, f, rfl, hri, hb1⟩
  have HXV : Hid (y.v = .agg #[.int .i64 y.k, .int .i64 y.me, .int .i64 y.a, .int .i64 y.b, .int .i64 y.c, .string y.t, .int .i64 y.cut]) := rfl
  rw [HXV.out]
  have HY1 : Hid (Blk (W1.alloc (.cells #[.int .i64 y.k, .int .i64 y.me, .int .i64 y.a, .int .i64 y.b, .int .i64 y.c, .string y.t, .int .i64 y.cut] 23)) W1.heap.size #[.int .i64 y.k, .int .i64 y.me, .int .i64 y.a, .int .i64 y.b, .int .i64 y.c, .string y.t, .int .i64 y.cut] 23) := Blk.new _ _ _
  have HB1 : Hid (Below w.heap.size w (W1.alloc (.cells #[.int .i64 y.k, .int .i64 y.me, .int .i64 y.a, .int .i64 y.b, .int .i64 y.c, .string y.t, .int .i64 y.cut] 23))) := hb1.alloc hb1.size _
  clear HRD hb1
  have hf : (f = 0 ∧ Good s.data.toList y ∧ s.size ≤ 120) ∨ (f ≠ 0 ∧ y = ac0) := by
    rcases hri with ⟨_, h, rfl⟩ | ⟨h0, h, rfl⟩ | ⟨_, _, h, rfl⟩
    · exact .inr ⟨by decide, h⟩
    · exact .inl ⟨rfl, h, h0⟩
    · exact .inr ⟨by decide, h⟩
  clear hri
  rcases hf with ⟨rfl, hg, h0⟩ | ⟨hf, rfl⟩
  · have hls : s.data.toList.length = s.size := Array.length_toList
    have hty : y.t.size ≤ 120 := by have := good_t hg; omega
    have HS1 : Hid (∀ W, Below w.heap.size w W → Calls Tryd.prog 7 #[.agg #[.int .i64 y.k, .int .i64 y.me, .int .i64 y.a, .int .i64 y.b, .int .i64 y.c, .string y.t, .int .i64 y.cut]] W fun e w' => e = .returned (.tuple #[.string s, .int .i64 0]) ∧ Below W.heap.size W w') := fun W hW => by
      have h := HSH.out y W hty hW
      have e1 : ba (shown y) = s := by rw [shown_0 hg.1, hg.2]; rfl
      rw [e1, hg.1] at h
      exact h
    clear HSH hg h0 hls hty HXV
    go_upto_region 2 with fail
    generalize (W1.alloc (.cells #[.int .i64 y.k, .int .i64 y.me, .int .i64 y.a, .int .i64 y.b, .int .i64 y.c, .string y.t, .int .i64 y.cut] 23)) = W2 at *
    generalize W1.heap.size = g at *
    go_wp2_with (first | (refine wp_whole rfl 23 _ rfl g rfl 23 _ _ HY1.out Tryd.underlying23 rfl (by kernel_rfl) ?_) | fail)
    refine (HS1.out _ HB1.out).mono ?_
    rintro e W3 ⟨rfl, hb3⟩
    have HB3 : Hid (Below w.heap.size w W3) := bel_step HB1.out hb3
    clear HB1 HY1 hb3 HS1
    go_wp2_with fail
    go_ret
    exact ⟨rfl, HB3.out⟩
  · have hq : (f != 0) = true := by simpa using hf
    have HEQ : ∀ W : World, (Op.equalIn 10000 23 (.agg #[.int .i64 ac0.k, .int .i64 ac0.me, .int .i64 ac0.a, .int .i64 ac0.b, .int .i64 ac0.c, .string ac0.t, .int .i64 ac0.cut]) (.agg #[.int .i64 0, .int .i64 0, .int .i64 0, .int .i64 0, .int .i64 0, .string ⟨#[]⟩, .int .i64 0])).run Tryd.prog W = .ok true W := fun W => by
      have := eqAc ac0 ac0 W
      rw [(acEq_iff ac0 ac0).2 rfl] at this
      exact this
    clear HSH hf HXV
    go_upto_region 2 with fail
    generalize (W1.alloc (.cells #[.int .i64 ac0.k, .int .i64 ac0.me, .int .i64 ac0.a, .int .i64 ac0.b, .int .i64 ac0.c, .string ac0.t, .int .i64 ac0.cut] 23)) = W2 at *
    generalize W1.heap.size = g at *
    go_wp2_with (first | (refine wp_whole rfl 23 _ rfl g rfl 23 _ _ HY1.out Tryd.underlying23 rfl (by kernel_rfl) ?_) | fail)
    go_ret
    exact ⟨rfl, HB1.out⟩

end Go.Proofs.YtlianhienbhbgaaDoor.odr
