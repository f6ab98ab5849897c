/- Windows: the program and the document agree, where the program does what its kit says. -/
import Derived.Test.YteibdogejiajnaaWnK
import Derived.Laws.StructEq
namespace Go.Proofs.Yteibdogejiajnaa.win
open Go.RowKit Go.Proofs.Yteibdogejiajnaa.irow
set_option maxRecDepth 100000
set_option linter.unusedVariables false
set_option linter.unusedSimpArgs false

theorem eqI (d : Nat) (a b : Int) (w : World) : (Op.equalIn (d + 1) 3 (.int .i64 a) (.int .i64 b)).run Try.prog w = .ok (a == b) w := run_equalIn_int w d _ _ _ a b Try.underlying3
theorem eqU (d : Nat) (a b : Int) (w : World) : (Op.equalIn (d + 1) 22 (.int .u64 a) (.int .u64 b)).run Try.prog w = .ok (a == b) w := run_equalIn_int w d _ _ _ a b Try.underlying22
theorem wt0 (s c : Int) (w : World) : (part 3 #[.int .i64 s, .int .u64 c] 0).run Try.prog w = .ok (.int .i64 s) w := by kernel_rfl
theorem wt1 (s c : Int) (w : World) : (part 22 #[.int .i64 s, .int .u64 c] 1).run Try.prog w = .ok (.int .u64 c) w := by kernel_rfl
theorem eqWin (s b : Int) (w : World) :
    (Op.equalIn 10000 24 (.agg #[.int .i64 s, .int .u64 b]) (.agg #[.int .i64 s, .int .u64 b])).run Try.prog w = .ok true w := by
  rw [show (10000 : Nat) = 9999 + 1 from rfl, run_equalIn_agg w 9999 24 _ _ (by kernel_rfl) (by kernel_rfl)]
  simp only [Program.fieldsOf, Try.underlying24, Op.eqFields, Sem.run_bind, Sem.run_ite]
  simp [wt0, wt1, show (9999 : Nat) = 9998 + 1 from rfl, eqI, eqU]

/-- The box in which a window came in. -/
structure Box (w wr : World) (h : Int) (b : Nat) : Prop where
  win : Win wr w.heap.size h b
  bel : Below w.heap.size w wr
theorem Box.next {w wr w' : World} {h : Int} {b : Nat} (hx : Box w wr h b) (hb : Below wr.heap.size wr w') : Box w w' h b := ⟨Blk.next hx.win hb, bel_step hx.bel hb⟩
theorem Box.new (w : World) (h : Int) (b : Nat) : Box w (w.alloc (.cells #[.int .i64 h, .int .u64 (b : Int)] 24)) h b := ⟨Blk.new w _ _, (Below.refl _ _).alloc (Nat.le_refl _) _⟩
theorem Box.alloc {w wr : World} {h : Int} {b : Nat} (hx : Box w wr h b) (o : Obj) : Box w (wr.alloc o) h b := hx.next ((Below.refl _ _).alloc (Nat.le_refl _) _)

set_option maxHeartbeats 1000000 in
theorem judges_walk (K : WKit) (h : Int) (b : Nat) (id : Int) (w : World) (hb : b < 18446744073709551616) :
    Calls Try.prog 3 #[.agg #[.int .i64 h, .int .u64 (b : Int)], .int .i64 id] w fun e w' => e = .returned (.bool true) ∧ Below w.heap.size w w' := by
  have HA : Hid (∀ W, Calls Try.prog 9 #[.agg #[.int .i64 h, .int .u64 (b : Int)], .int .i64 id] W fun e w' => JudgePost W h b id e w') := fun W => K.judge W h b id hb
  have HB : Hid (∀ W, Calls Try.prog 10 #[.agg #[.int .i64 h, .int .u64 (b : Int)], .int .i64 id] W fun e w' => JudgePost W h b id e w') := fun W => judged_any h b id W hb
  have HX : Hid (Box w (w.alloc (.cells #[.int .i64 h, .int .u64 (b : Int)] 24)) h b) := Box.new w h b
  clear hb K
  have c0 := HX.out.win.cell 0
  have c1 := HX.out.win.cell 1
  go_enter Try.func3, Try.ntmps3
  go_wp2_with fail
  refine (HA.out _).mono ?_
  rintro e w2 ⟨c, rfl, hj, hb2⟩
  have HX2 : Hid (Box w w2 h b) := HX.out.next hb2
  have HJ : Hid (JudgeIs h b id c) := hj
  clear hj hb2 c0 c1 HX
  have c0 := HX2.out.win.cell 0
  have c1 := HX2.out.win.cell 1
  go_wp2_with fail
  refine (HB.out _).mono ?_
  rintro e w3 ⟨c', rfl, hj, hb3⟩
  obtain rfl := HJ.out.one hj
  have HX3 : Hid (Box w w3 h b) := HX2.out.next hb3
  have hq : (c == c) = true := beq_self_eq_true c
  clear hj hb3
  go_wp2_with fail
  go_ret
  exact ⟨rfl, HX3.out.bel⟩

set_option maxHeartbeats 1000000 in
theorem takes_walk (K : WKit) (h : Int) (b : Nat) (id : Int) (w : World) (hb : b < 18446744073709551616) :
    Calls Try.prog 4 #[.agg #[.int .i64 h, .int .u64 (b : Int)], .int .i64 id] w fun e w' => e = .returned (.bool true) ∧ Below w.heap.size w w' := by
  have HA : Hid (∀ W, Calls Try.prog 11 #[.agg #[.int .i64 h, .int .u64 (b : Int)], .int .i64 id] W fun e w' => TakePost W h b id e w') := fun W => K.take W h b id hb
  have HB : Hid (∀ W, Calls Try.prog 12 #[.agg #[.int .i64 h, .int .u64 (b : Int)], .int .i64 id] W fun e w' => TakePost W h b id e w') := fun W => takenBy_any h b id W hb
  have HX : Hid (Box w (w.alloc (.cells #[.int .i64 h, .int .u64 (b : Int)] 24)) h b) := Box.new w h b
  clear hb K
  have c0 := HX.out.win.cell 0
  have c1 := HX.out.win.cell 1
  go_enter Try.func4, Try.ntmps4
  go_wp2_with fail
  refine (HA.out _).mono ?_
  rintro e w2 ⟨h1, b1, c, rfl, hj, hn1, hz1, hb2⟩
  have HX2 : Hid (Box w (w2.alloc (.cells #[.int .i64 h1, .int .u64 (b1 : Int)] 24)) h b) := (HX.out.next hb2).alloc _
  have HJ : Hid (JudgeIs h b id c ∧ (c ≠ 0 → h1 = 0 ∧ b1 = 0) ∧ (c = 0 → h1 = max h id ∧ b1 = took h b id)) := ⟨hj, hn1, hz1⟩
  have HN : Hid (Blk (w2.alloc (.cells #[.int .i64 h1, .int .u64 (b1 : Int)] 24)) w2.heap.size #[.int .i64 h1, .int .u64 (b1 : Int)] 24) := Blk.new _ _ _
  clear hj hb2 c0 c1 HX hn1 hz1
  have c0 := HX2.out.win.cell 0
  have c1 := HX2.out.win.cell 1
  go_wp2_with fail
  refine (HB.out _).mono ?_
  rintro e w3 ⟨h2, b2, c', rfl, hj, hn2, hz2, hb3⟩
  obtain rfl := HJ.out.1.one hj
  have hsame : h2 = h1 ∧ b2 = b1 := by
    by_cases hc : c = 0
    · obtain ⟨e1, e2⟩ := HJ.out.2.2 hc
      obtain ⟨e3, e4⟩ := hz2 hc
      exact ⟨by rw [e1, e3], by rw [e2, e4]⟩
    · obtain ⟨e1, e2⟩ := HJ.out.2.1 hc
      obtain ⟨e3, e4⟩ := hn2 hc
      exact ⟨by rw [e1, e3], by rw [e2, e4]⟩
  obtain ⟨rfl, rfl⟩ := hsame
  have HX3 : Hid (Below w.heap.size w (w3.alloc (.cells #[.int .i64 h2, .int .u64 (b2 : Int)] 24))) := ((HX2.out.next hb3).alloc _).bel
  have hM := (HN.out.next hb3).alloc (.cells #[.int .i64 h2, .int .u64 (b2 : Int)] 24)
  have hP := Blk.new w3 #[.int .i64 h2, .int .u64 (b2 : Int)] 24
  have m0 := hM.cell 0
  have m1 := hM.cell 1
  have p0 := hP.cell 0
  have p1 := hP.cell 1
  have hq : (c == c) = true := beq_self_eq_true c
  have hqw : ∀ W : World, (Op.equalIn 10000 24 (.agg #[.int .i64 h2, .int .u64 (b2 : Int)]) (.agg #[.int .i64 h2, .int .u64 (b2 : Int)])).run Try.prog W = .ok true W := fun W => eqWin h2 (b2 : Int) W
  clear hj hb3 hn2 hz2 HJ HN hM hP c0 c1 HX2
  generalize w2.heap.size = gn at *
  go_wp2_with fail
  go_ret
  exact ⟨rfl, HX3.out⟩

set_option maxHeartbeats 1000000 in
theorem ints_law (a b : Option Addr) (n c1 c2 : Nat) (zs : List Int) (w : World) (h1 : RowN w a n zs) (h2 : RowN w b n zs) (hn : n ≤ maxLen) :
    Calls Try.prog 15 #[.slice a n c1, .slice b n c2] w fun e w' => e = .returned (.bool true) ∧ Below w.heap.size w w' := by
  have hne : ((n : Int) != (n : Int)) = false := by simp
  unfold maxLen at hn
  go_enter Try.func15, Try.ntmps15
  go_wp2_with fail
  go_loopw [5] (fun i wr => ∃ k : Nat, k ≤ n ∧ i = .int .i64 k ∧ Below w.heap.size w wr) (fun i _ => n - (intOf i).toNat)
  case atStart => exact ⟨0, Nat.zero_le _, rfl, Below.refl _ _⟩
  case round =>
    obtain ⟨k, hk, rfl, hb⟩ := hrel
    by_cases hlt : k < n
    · obtain ⟨b1, o1, rfl, l1, hc1⟩ := h1.at (by omega)
      obtain ⟨b2, o2, rfl, l2, hc2⟩ := h2.at (by omega)
      have f1 : wr.cell? ⟨b1, o1 + k, none⟩ = some (.int .i64 (zs.getD k 0)) := (hb.cell (p := ⟨b1, o1 + k, none⟩) l1).trans (hc1 k hlt)
      have f2 : wr.cell? ⟨b2, o2 + k, none⟩ = some (.int .i64 (zs.getD k 0)) := (hb.cell (p := ⟨b2, o2 + k, none⟩) l2).trans (hc2 k hlt)
      clear hc1 hc2 h1 h2 l1 l2
      generalize zs.getD k 0 = z at f1 f2
      have hz : (z != z) = false := by simp
      go_wp2_with fail
      go_region
      all_goals go_wp2_with fail
      go_roundw
      case rel => exact ⟨k + 1, by omega, by go_num, hb.drew⟩
      case measure => simp [intOf]; omega
    · go_wp2_with fail
      go_ret
      exact ⟨rfl, hb⟩

set_option maxHeartbeats 1000000 in
theorem uses_walk (K : WKit) (h : Int) (b : Nat) (w : World) (hb : b < 18446744073709551616) :
    Calls Try.prog 5 #[.agg #[.int .i64 h, .int .u64 (b : Int)]] w fun e w' => e = .returned (.bool true) ∧ Below w.heap.size w w' := by
  have HA : Hid (∀ W, Calls Try.prog 13 #[.agg #[.int .i64 h, .int .u64 (b : Int)]] W fun e w' => UsedPost W h b e w') := fun W => K.used W h b hb
  have HB : Hid (∀ W, Calls Try.prog 14 #[.agg #[.int .i64 h, .int .u64 (b : Int)]] W fun e w' => UsedPost W h b e w') := fun W => usedOf_any h b W hb
  have HX : Hid (Box w (w.alloc (.cells #[.int .i64 h, .int .u64 (b : Int)] 24)) h b) := Box.new w h b
  clear hb K
  have c0 := HX.out.win.cell 0
  have c1 := HX.out.win.cell 1
  go_enter Try.func5, Try.ntmps5
  go_wp2_with fail
  refine (HA.out _).mono ?_
  rintro e w2 ⟨v1, z1, e1, rfl, hv1, hb2, ho1⟩
  have HX2 : Hid (Box w w2 h b) := HX.out.next hb2
  have HV1 : Hid (∃ base, Iw w2 base v1 z1) := ⟨_, hv1⟩
  clear hb2 c0 c1 HX hv1
  have c0 := HX2.out.win.cell 0
  have c1 := HX2.out.win.cell 1
  go_wp2_with fail
  refine (HB.out _).mono ?_
  rintro e w3 ⟨v2, z2, e2, rfl, hv2, hb3, ho2⟩
  have hsame : e2 = e1 ∧ z2 = z1 ∧ z1.length ≤ 64 := by
    rcases ho1 with ⟨m1, rfl, rfl⟩ | ⟨m1, rfl, rfl⟩ <;> rcases ho2 with ⟨m2, rfl, rfl⟩ | ⟨m2, rfl, rfl⟩
    · exact ⟨rfl, rfl, mem_len h b 64⟩
    · exact absurd m1 m2
    · exact absurd m2 m1
    · exact ⟨rfl, rfl, by decide⟩
  obtain ⟨rfl, rfl, hl⟩ := hsame
  obtain ⟨base, hv1⟩ := HV1.out
  obtain ⟨x1, k1, rfl, r1, _, _⟩ := (hv1.next hb3).row
  obtain ⟨x2, k2, rfl, r2, _, _⟩ := hv2.row
  have HX3 : Hid (Below w.heap.size w w3) := (HX2.out.next hb3).bel
  have HL : Hid (Calls Try.prog 15 #[.slice x1 z2.length k1, .slice x2 z2.length k2] w3 fun e w' => e = .returned (.bool true) ∧ Below w3.heap.size w3 w') := ints_law x1 x2 _ k1 k2 z2 w3 r1 r2 (by unfold maxLen; omega)
  have hq : (e2 == e2) = true := beq_self_eq_true e2
  clear ho1 ho2 hv1 hv2 hb3 r1 r2 hl HV1 c0 c1
  generalize z2.length = n at *
  go_wp2_with fail
  refine HL.out.mono ?_
  rintro e w4 ⟨rfl, hb4⟩
  have HB4 : Hid (Below w.heap.size w w4) := bel_step HX3.out hb4
  clear hb4
  go_wp2_with fail
  go_ret
  exact ⟨rfl, HB4.out⟩

end Go.Proofs.Yteibdogejiajnaa.win
