/- The numbers that a form tells. -/
import Derived.Test.YtlianhienbhbgaaDoorOdA
import Derived.Test.YtlianhienbhbgaaDoorIRow
namespace Go.Proofs.YtlianhienbhbgaaDoor.odr
open Go.RowKit
open Go.Proofs.YtlianhienbhbgaaDoor.irow (Iw wp_num num_cell iown_far iown_bel)
set_option maxRecDepth 100000
set_option linter.unusedVariables false
set_option linter.unusedSimpArgs false

theorem rd_of {w : World} {base : Nat} {v : Value} {l : List Int} (h : Iw w base v l) : Rd w v l := by
  obtain ⟨a, cap, rfl, ⟨_, h0⟩, _, _⟩ := h.row
  refine ⟨a, cap, rfl, ?_⟩
  rcases h0 with h0 | ⟨b, off, rfl, hc⟩
  · exact .inl (List.length_eq_zero_iff.1 h0)
  · exact .inr ⟨b, off, rfl, hc⟩
/-- The numbers told by the first i of the four. -/
def tk (hm ha hb hc : Bool) (me a b c : Int) : Nat → List Int
  | 0 => []
  | 1 => opt hm me
  | 2 => opt hm me ++ opt ha a
  | 3 => opt hm me ++ opt ha a ++ opt hb b
  | _ => opt hm me ++ opt ha a ++ opt hb b ++ opt hc c
theorem opt_len {α : Type} (h : Bool) (n : α) : (opt h n).length ≤ 1 := by unfold opt; split <;> simp
theorem tk_len (hm ha hb hc : Bool) (me a b c : Int) (i : Nat) : (tk hm ha hb hc me a b c i).length ≤ 4 := by
  have h1 := opt_len hm me
  have h2 := opt_len ha a
  have h3 := opt_len hb b
  have h4 := opt_len hc c
  unfold tk
  split <;> simp <;> omega

set_option maxHeartbeats 4000000 in
theorem ptold (fs : ByteArray) (hm ha hb hc ht : Bool) (x : Ac) (w : World) :
    Calls Tryd.prog 12 #[.agg #[.string fs, .bool hm, .bool ha, .bool hb, .bool hc, .bool ht], x.v] w fun e w' => ∃ v, e = .returned v ∧ Iw w' w.heap.size v (opt hm x.me ++ (opt ha x.a ++ (opt hb x.b ++ opt hc x.c))) ∧ Below w.heap.size w w' := by
  have HN : Hid (∀ W, Calls Tryd.prog 23 #[x.v] W fun e w' => e = .returned (.agg (nums x)) ∧ Below W.heap.size W w') := fun W => pnumbers x W
  obtain ⟨k, me, a, b, c, t, cut⟩ := x
  unfold Ac.v Ac.cells nums at *
  have HF0 : Hid (Blk ((w.alloc (.cells #[.string fs, .bool hm, .bool ha, .bool hb, .bool hc, .bool ht] 34)).alloc (.cells #[.int .i64 k, .int .i64 me, .int .i64 a, .int .i64 b, .int .i64 c, .string t, .int .i64 cut] 23)) w.heap.size #[.string fs, .bool hm, .bool ha, .bool hb, .bool hc, .bool ht] 34) := (Blk.new _ _ _).alloc _
  have HB0 : Hid (Below w.heap.size w ((w.alloc (.cells #[.string fs, .bool hm, .bool ha, .bool hb, .bool hc, .bool ht] 34)).alloc (.cells #[.int .i64 k, .int .i64 me, .int .i64 a, .int .i64 b, .int .i64 c, .string t, .int .i64 cut] 23))) := ((Below.refl _ _).alloc (Nat.le_refl _) _).alloc (by simp) _
  have hs0 : w.heap.size + 2 ≤ (((w.alloc (.cells #[.string fs, .bool hm, .bool ha, .bool hb, .bool hc, .bool ht] 34)).alloc (.cells #[.int .i64 k, .int .i64 me, .int .i64 a, .int .i64 b, .int .i64 c, .string t, .int .i64 cut] 23))).heap.size := by simp
  go_enter Tryd.func12, Tryd.ntmps12
  go_wp2_with fail
  refine (HN.out _).mono ?_
  rintro e W1 ⟨rfl, hb'⟩
  have HF1 : Hid (Blk W1 w.heap.size #[.string fs, .bool hm, .bool ha, .bool hb, .bool hc, .bool ht] 34) := HF0.out.next hb'
  have HB1 : Hid (Below w.heap.size w W1) := bel_step HB0.out hb'
  have hs1 : w.heap.size + 2 ≤ W1.heap.size := Nat.le_trans hs0 hb'.size
  clear HF0 HB0 hs0 hb' HN
  obtain ⟨base, hbase⟩ : ∃ n, W1.heap.size = n := ⟨_, rfl⟩
  go_wp2_with fail
  go_loopw [5, 10] (fun v5 v10 wr => ∃ (i : Nat) (V : Value), i ≤ 4 ∧ v10 = .int .i64 (i : Int) ∧ V = v5 ∧ Iw wr base V (tk hm ha hb hc me a b c i) ∧ Blk wr w.heap.size #[.string fs, .bool hm, .bool ha, .bool hb, .bool hc, .bool ht] 34 ∧ Below w.heap.size w wr ∧ base ≤ wr.heap.size) (fun _ v _ => 4 - (intOf v).toNat)
  case atStart => exact ⟨0, _, by decide, rfl, rfl, Iw.zero _ _, HF1.out, HB1.out, by omega⟩
  case round =>
    obtain ⟨i, V, hi, rfl, hV, hiw, hfb, hbl, hbs⟩ := hrel
    subst hV
    have HL : Hid (Iw wr base V (tk hm ha hb hc me a b c i)) := hiw
    have HF : Hid (Blk wr w.heap.size #[.string fs, .bool hm, .bool ha, .bool hb, .bool hc, .bool ht] 34) := hfb
    have HB : Hid (Below w.heap.size w wr) := hbl
    have hwr : w.heap.size + 2 ≤ wr.heap.size := by omega
    clear hiw hfb hbl HF1 HB1
    have hi5 : i = 0 ∨ i = 1 ∨ i = 2 ∨ i = 3 ∨ i = 4 := by omega
    rcases hi5 with rfl | rfl | rfl | rfl | rfl
    · have x0 : ∀ W : World, (Instr.index 51 (.agg #[.int .i64 me, .int .i64 a, .int .i64 b, .int .i64 c]) (.int .i64 0)).run Tryd.prog W = .ok (.int .i64 me) W := fun W => by kernel_rfl
      have cb : wr.cell? ⟨w.heap.size, 1, none⟩ = some (.bool hm) := HF.out.cell 1
      cases hm with
      | true =>
        have hn4 := tk_len true ha hb hc me a b c 0
        have HTK : Hid (tk true ha hb hc me a b c 0 ++ [me] = tk true ha hb hc me a b c 1) := rfl
        have HUA : Hid (∀ o, Iw (wr.alloc o) base V (tk true ha hb hc me a b c 0)) := fun o => HL.out.alloc o
        have HBA : Hid (∀ o, Below w.heap.size w (wr.alloc o)) := fun o => HB.out.alloc HB.out.size o
        have HFA : Hid (∀ o, Blk (wr.alloc o) w.heap.size #[.string fs, .bool true, .bool ha, .bool hb, .bool hc, .bool ht] 34) := fun o => HF.out.alloc o
        clear HB HF
        go_wp2_with (first | (at_builtin; refine wp_num rfl _ _ rfl base wr.heap.size V (tk true ha hb hc me a b c 0) me rfl rfl (HUA.out _) (num_cell wr me) (by omega) (by simp; omega) ?_; intro v3 w3 h3 hg3; have HB3 : Hid (Below w.heap.size w w3) := iown_bel (HUA.out _) hg3 (HBA.out _) (by omega) (by simp; omega); have H3 : Hid (Iw w3 base v3 (tk true ha hb hc me a b c 1)) := (by have h3' := h3; rw [HTK.out] at h3'; exact h3'); have HF3 : Hid (Blk w3 w.heap.size #[.string fs, .bool true, .bool ha, .bool hb, .bool hc, .bool ht] 34) := irow.Blk.grown (HFA.out _) hg3 (iown_far HL.out (by omega)); have hb3 : base ≤ w3.heap.size := Nat.le_trans (by simp; omega) hg3.size; clear h3 hg3) | fail)
        go_roundw
        case rel => exact ⟨1, v3, by decide, rfl, rfl, H3.out, HF3.out, HB3.out, hb3⟩
        case measure => decide
      | false =>
        have HTK : Hid (tk false ha hb hc me a b c 0 = tk false ha hb hc me a b c 1) := rfl
        go_wp2_with fail
        go_roundw
        case rel => exact ⟨1, V, by decide, rfl, rfl, by rw [← HTK.out]; exact HL.out, HF.out, HB.out, hbs⟩
        case measure => decide
    · have x0 : ∀ W : World, (Instr.index 51 (.agg #[.int .i64 me, .int .i64 a, .int .i64 b, .int .i64 c]) (.int .i64 1)).run Tryd.prog W = .ok (.int .i64 a) W := fun W => by kernel_rfl
      have cb : wr.cell? ⟨w.heap.size, 2, none⟩ = some (.bool ha) := HF.out.cell 2
      cases ha with
      | true =>
        have hn4 := tk_len hm true hb hc me a b c 1
        have HTK : Hid (tk hm true hb hc me a b c 1 ++ [a] = tk hm true hb hc me a b c 2) := rfl
        have HUA : Hid (∀ o, Iw (wr.alloc o) base V (tk hm true hb hc me a b c 1)) := fun o => HL.out.alloc o
        have HBA : Hid (∀ o, Below w.heap.size w (wr.alloc o)) := fun o => HB.out.alloc HB.out.size o
        have HFA : Hid (∀ o, Blk (wr.alloc o) w.heap.size #[.string fs, .bool hm, .bool true, .bool hb, .bool hc, .bool ht] 34) := fun o => HF.out.alloc o
        clear HB HF
        go_wp2_with (first | (at_builtin; refine wp_num rfl _ _ rfl base wr.heap.size V (tk hm true hb hc me a b c 1) a rfl rfl (HUA.out _) (num_cell wr a) (by omega) (by simp; omega) ?_; intro v3 w3 h3 hg3; have HB3 : Hid (Below w.heap.size w w3) := iown_bel (HUA.out _) hg3 (HBA.out _) (by omega) (by simp; omega); have H3 : Hid (Iw w3 base v3 (tk hm true hb hc me a b c 2)) := (by have h3' := h3; rw [HTK.out] at h3'; exact h3'); have HF3 : Hid (Blk w3 w.heap.size #[.string fs, .bool hm, .bool true, .bool hb, .bool hc, .bool ht] 34) := irow.Blk.grown (HFA.out _) hg3 (iown_far HL.out (by omega)); have hb3 : base ≤ w3.heap.size := Nat.le_trans (by simp; omega) hg3.size; clear h3 hg3) | fail)
        go_roundw
        case rel => exact ⟨2, v3, by decide, rfl, rfl, H3.out, HF3.out, HB3.out, hb3⟩
        case measure => decide
      | false =>
        have HTK : Hid (tk hm false hb hc me a b c 1 = tk hm false hb hc me a b c 2) := (List.append_nil _).symm
        go_wp2_with fail
        go_roundw
        case rel => exact ⟨2, V, by decide, rfl, rfl, by rw [← HTK.out]; exact HL.out, HF.out, HB.out, hbs⟩
        case measure => decide
    · have x0 : ∀ W : World, (Instr.index 51 (.agg #[.int .i64 me, .int .i64 a, .int .i64 b, .int .i64 c]) (.int .i64 2)).run Tryd.prog W = .ok (.int .i64 b) W := fun W => by kernel_rfl
      have cb : wr.cell? ⟨w.heap.size, 3, none⟩ = some (.bool hb) := HF.out.cell 3
      cases hb with
      | true =>
        have hn4 := tk_len hm ha true hc me a b c 2
        have HTK : Hid (tk hm ha true hc me a b c 2 ++ [b] = tk hm ha true hc me a b c 3) := rfl
        have HUA : Hid (∀ o, Iw (wr.alloc o) base V (tk hm ha true hc me a b c 2)) := fun o => HL.out.alloc o
        have HBA : Hid (∀ o, Below w.heap.size w (wr.alloc o)) := fun o => HB.out.alloc HB.out.size o
        have HFA : Hid (∀ o, Blk (wr.alloc o) w.heap.size #[.string fs, .bool hm, .bool ha, .bool true, .bool hc, .bool ht] 34) := fun o => HF.out.alloc o
        clear HB HF
        go_wp2_with (first | (at_builtin; refine wp_num rfl _ _ rfl base wr.heap.size V (tk hm ha true hc me a b c 2) b rfl rfl (HUA.out _) (num_cell wr b) (by omega) (by simp; omega) ?_; intro v3 w3 h3 hg3; have HB3 : Hid (Below w.heap.size w w3) := iown_bel (HUA.out _) hg3 (HBA.out _) (by omega) (by simp; omega); have H3 : Hid (Iw w3 base v3 (tk hm ha true hc me a b c 3)) := (by have h3' := h3; rw [HTK.out] at h3'; exact h3'); have HF3 : Hid (Blk w3 w.heap.size #[.string fs, .bool hm, .bool ha, .bool true, .bool hc, .bool ht] 34) := irow.Blk.grown (HFA.out _) hg3 (iown_far HL.out (by omega)); have hb3 : base ≤ w3.heap.size := Nat.le_trans (by simp; omega) hg3.size; clear h3 hg3) | fail)
        go_roundw
        case rel => exact ⟨3, v3, by decide, rfl, rfl, H3.out, HF3.out, HB3.out, hb3⟩
        case measure => decide
      | false =>
        have HTK : Hid (tk hm ha false hc me a b c 2 = tk hm ha false hc me a b c 3) := (List.append_nil _).symm
        go_wp2_with fail
        go_roundw
        case rel => exact ⟨3, V, by decide, rfl, rfl, by rw [← HTK.out]; exact HL.out, HF.out, HB.out, hbs⟩
        case measure => decide
    · have x0 : ∀ W : World, (Instr.index 51 (.agg #[.int .i64 me, .int .i64 a, .int .i64 b, .int .i64 c]) (.int .i64 3)).run Tryd.prog W = .ok (.int .i64 c) W := fun W => by kernel_rfl
      have cb : wr.cell? ⟨w.heap.size, 4, none⟩ = some (.bool hc) := HF.out.cell 4
      cases hc with
      | true =>
        have hn4 := tk_len hm ha hb true me a b c 3
        have HTK : Hid (tk hm ha hb true me a b c 3 ++ [c] = tk hm ha hb true me a b c 4) := rfl
        have HUA : Hid (∀ o, Iw (wr.alloc o) base V (tk hm ha hb true me a b c 3)) := fun o => HL.out.alloc o
        have HBA : Hid (∀ o, Below w.heap.size w (wr.alloc o)) := fun o => HB.out.alloc HB.out.size o
        have HFA : Hid (∀ o, Blk (wr.alloc o) w.heap.size #[.string fs, .bool hm, .bool ha, .bool hb, .bool true, .bool ht] 34) := fun o => HF.out.alloc o
        clear HB HF
        go_wp2_with (first | (at_builtin; refine wp_num rfl _ _ rfl base wr.heap.size V (tk hm ha hb true me a b c 3) c rfl rfl (HUA.out _) (num_cell wr c) (by omega) (by simp; omega) ?_; intro v3 w3 h3 hg3; have HB3 : Hid (Below w.heap.size w w3) := iown_bel (HUA.out _) hg3 (HBA.out _) (by omega) (by simp; omega); have H3 : Hid (Iw w3 base v3 (tk hm ha hb true me a b c 4)) := (by have h3' := h3; rw [HTK.out] at h3'; exact h3'); have HF3 : Hid (Blk w3 w.heap.size #[.string fs, .bool hm, .bool ha, .bool hb, .bool true, .bool ht] 34) := irow.Blk.grown (HFA.out _) hg3 (iown_far HL.out (by omega)); have hb3 : base ≤ w3.heap.size := Nat.le_trans (by simp; omega) hg3.size; clear h3 hg3) | fail)
        go_roundw
        case rel => exact ⟨4, v3, by decide, rfl, rfl, H3.out, HF3.out, HB3.out, hb3⟩
        case measure => decide
      | false =>
        have HTK : Hid (tk hm ha hb false me a b c 3 = tk hm ha hb false me a b c 4) := (List.append_nil _).symm
        go_wp2_with fail
        go_roundw
        case rel => exact ⟨4, V, by decide, rfl, rfl, by rw [← HTK.out]; exact HL.out, HF.out, HB.out, hbs⟩
        case measure => decide
    · go_wp2_with fail
      go_ret
      refine ⟨_, rfl, ?_, HB.out⟩
      have h4 : tk hm ha hb hc me a b c 4 = opt hm me ++ (opt ha a ++ (opt hb b ++ opt hc c)) := by
        show opt hm me ++ opt ha a ++ opt hb b ++ opt hc c = _
        simp [List.append_assoc]
      rw [← h4]
      exact HL.out.low (by omega)

end Go.Proofs.YtlianhienbhbgaaDoor.odr
