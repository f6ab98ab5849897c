/- What is shown is read: the statement's walk. -/
import Derived.Test.YtlianhienbhbgaaDoorOdR
namespace Go.Proofs.YtlianhienbhbgaaDoor.odr
open Go.RowKit
set_option maxRecDepth 100000
set_option linter.unusedVariables false
set_option linter.unusedSimpArgs false

theorem err_range (y : Ac) : err y = 0 ∨ err y = 2 ∨ err y = 3 ∨ err y = 1 := by
  unfold err
  split
  · exact .inr (.inl rfl)
  · split
    · exact .inr (.inr (.inl rfl))
    · split
      · exact .inr (.inr (.inr rfl))
      · exact .inl rfl
set_option maxHeartbeats 2000000 in
theorem OrderBack_walk (x : Ac) (w : World) (hx : x.t.size ≤ 140737488354304) (hr : RTab w) : Calls Tryd.prog 5 #[x.v] w fun e w' => e = .returned (.bool true) ∧ Below w.heap.size w w' := by
  have HSH : Hid (∀ W, Below w.heap.size w W → Calls Tryd.prog 7 #[x.v] W fun e w' => e = .returned (.tuple #[.string (ba (shown x)), .int .i64 (err x)]) ∧ Below W.heap.size W w') := fun W hW => pshow x W (hr.below hW).o (hr.below hW).p hx
  have HRD : Hid (∀ s W, Below w.heap.size w W → Calls Tryd.prog 9 #[.string s] W fun e w' => ReadPost W s e w') := fun s W hW => pread s W (hr.below hW)
  have hER := err_range x
  have HY : Hid (err x = 0 → ReadIs (ba (shown x)) x 0) := fun h => .inr (.inl ⟨by
    rw [ba_size, shown_0 h]
    exact (fine_of h).len, ⟨h, by rw [ba_list, shown_0 h]⟩, rfl⟩)
  have HN : Hid (err x ≠ 0 → ba (shown x) = ⟨#[]⟩) := fun h => by rw [shown_n h]; rfl
  have HEQ : ∀ W : World, (Op.equalIn 10000 23 x.v x.v).run Tryd.prog W = .ok true W := fun W => by
    rw [eqAc x x W, (acEq_iff x x).2 rfl]
  have HONE : Hid (∀ y f, ReadIs (ba (shown x)) y f → ReadIs (ba (shown x)) x 0 → y = x ∧ f = 0) := fun y f h h' => read_one h h'
  clear hr hx
  generalize ba (shown x) = S at *
  generalize err x = E at *
  have HXV : Hid (x.v = .agg #[.int .i64 x.k, .int .i64 x.me, .int .i64 x.a, .int .i64 x.b, .int .i64 x.c, .string x.t, .int .i64 x.cut]) := rfl
  rw [HXV.out] at HSH HEQ ⊢
  have HX0 : Hid (Blk (w.alloc (.cells #[.int .i64 x.k, .int .i64 x.me, .int .i64 x.a, .int .i64 x.b, .int .i64 x.c, .string x.t, .int .i64 x.cut] 23)) w.heap.size #[.int .i64 x.k, .int .i64 x.me, .int .i64 x.a, .int .i64 x.b, .int .i64 x.c, .string x.t, .int .i64 x.cut] 23) := Blk.new _ _ _
  have HB0 : Hid (Below w.heap.size w (w.alloc (.cells #[.int .i64 x.k, .int .i64 x.me, .int .i64 x.a, .int .i64 x.b, .int .i64 x.c, .string x.t, .int .i64 x.cut] 23))) := (Below.refl _ _).alloc (Nat.le_refl _) _
  go_enter Tryd.func5, Tryd.ntmps5
  go_upto_region 1 with fail
  generalize (w.alloc (.cells #[.int .i64 x.k, .int .i64 x.me, .int .i64 x.a, .int .i64 x.b, .int .i64 x.c, .string x.t, .int .i64 x.cut] 23)) = W0 at *
  go_wp2_with (first | (refine wp_whole rfl 23 _ rfl w.heap.size rfl 23 _ _ HX0.out Tryd.underlying23 rfl (by kernel_rfl) ?_) | fail)
  refine (HSH.out _ HB0.out).mono ?_
  rintro e W1 ⟨rfl, hb1⟩
  have HX1 : Hid (Blk W1 w.heap.size #[.int .i64 x.k, .int .i64 x.me, .int .i64 x.a, .int .i64 x.b, .int .i64 x.c, .string x.t, .int .i64 x.cut] 23) := HX0.out.next hb1
  have HB1 : Hid (Below w.heap.size w W1) := bel_step HB0.out hb1
  clear HX0 HB0 hb1 HSH
  by_cases hE : E = 0
  · have HRI := HY.out hE
    have HRIh : Hid (ReadIs S x 0) := HRI
    have hq : (E != 0) = false := by simpa using hE
    subst hE
    clear HY HN HRI hER
    go_wp2_with fail
    refine (HRD.out _ _ HB1.out).mono ?_
    rintro e W2 ⟨y, f, rfl, hri, hb2⟩
    obtain ⟨rfl, rfl⟩ := HONE.out y f hri HRIh.out
    rw [HXV.out]
    have HX2 : Hid (Blk (W2.alloc (.cells #[.int .i64 y.k, .int .i64 y.me, .int .i64 y.a, .int .i64 y.b, .int .i64 y.c, .string y.t, .int .i64 y.cut] 23)) w.heap.size #[.int .i64 y.k, .int .i64 y.me, .int .i64 y.a, .int .i64 y.b, .int .i64 y.c, .string y.t, .int .i64 y.cut] 23) := (HX1.out.next hb2).alloc _
    have HY2 : Hid (Blk (W2.alloc (.cells #[.int .i64 y.k, .int .i64 y.me, .int .i64 y.a, .int .i64 y.b, .int .i64 y.c, .string y.t, .int .i64 y.cut] 23)) W2.heap.size #[.int .i64 y.k, .int .i64 y.me, .int .i64 y.a, .int .i64 y.b, .int .i64 y.c, .string y.t, .int .i64 y.cut] 23) := Blk.new _ _ _
    have HB2 : Hid (Below w.heap.size w (W2.alloc (.cells #[.int .i64 y.k, .int .i64 y.me, .int .i64 y.a, .int .i64 y.b, .int .i64 y.c, .string y.t, .int .i64 y.cut] 23))) := (bel_step HB1.out hb2).alloc (bel_step HB1.out hb2).size _
    clear HX1 HB1 hb2 hri HRIh HONE HRD
    go_upto_region 5 with fail
    generalize (W2.alloc (.cells #[.int .i64 y.k, .int .i64 y.me, .int .i64 y.a, .int .i64 y.b, .int .i64 y.c, .string y.t, .int .i64 y.cut] 23)) = W3 at *
    generalize W2.heap.size = g at *
    have p0 : W3.cell? ⟨w.heap.size, 0, none⟩ = some (.int .i64 y.k) := HX2.out.cell 0
    have p1 : W3.cell? ⟨w.heap.size, 1, none⟩ = some (.int .i64 y.me) := HX2.out.cell 1
    have p2 : W3.cell? ⟨w.heap.size, 2, none⟩ = some (.int .i64 y.a) := HX2.out.cell 2
    have p3 : W3.cell? ⟨w.heap.size, 3, none⟩ = some (.int .i64 y.b) := HX2.out.cell 3
    have p4 : W3.cell? ⟨w.heap.size, 4, none⟩ = some (.int .i64 y.c) := HX2.out.cell 4
    have p5 : W3.cell? ⟨w.heap.size, 5, none⟩ = some (.string y.t) := HX2.out.cell 5
    have p6 : W3.cell? ⟨w.heap.size, 6, none⟩ = some (.int .i64 y.cut) := HX2.out.cell 6
    have q0 : W3.cell? ⟨g, 0, none⟩ = some (.int .i64 y.k) := HY2.out.cell 0
    have q1 : W3.cell? ⟨g, 1, none⟩ = some (.int .i64 y.me) := HY2.out.cell 1
    have q2 : W3.cell? ⟨g, 2, none⟩ = some (.int .i64 y.a) := HY2.out.cell 2
    have q3 : W3.cell? ⟨g, 3, none⟩ = some (.int .i64 y.b) := HY2.out.cell 3
    have q4 : W3.cell? ⟨g, 4, none⟩ = some (.int .i64 y.c) := HY2.out.cell 4
    have q5 : W3.cell? ⟨g, 5, none⟩ = some (.string y.t) := HY2.out.cell 5
    have q6 : W3.cell? ⟨g, 6, none⟩ = some (.int .i64 y.cut) := HY2.out.cell 6
    clear HX2 HY2
    go_wp2_with fail
    go_ret
    exact ⟨rfl, HB2.out⟩
  · have hq : (E != 0) = true := by simpa using hE
    have hS := HN.out hE
    subst hS
    clear HY HN HONE HRD HXV HEQ HX1
    rcases hER with h | rfl | rfl | rfl
    · exact absurd h hE
    · clear hE
      go_wp2_with fail
      go_ret
      exact ⟨rfl, HB1.out⟩
    · clear hE
      go_wp2_with fail
      go_ret
      exact ⟨rfl, HB1.out⟩
    · clear hE
      go_wp2_with fail
      go_ret
      exact ⟨rfl, HB1.out⟩

end Go.Proofs.YtlianhienbhbgaaDoor.odr
