/- A meter at work takes a token that was sold here. -/
import Derived.Test.YtgipkpkjoicehabDoorMpD
import Derived.Test.YtgipkpkjoicehabDoorWnPt
import Derived.Test.YtgipkpkjoicehabDoorOpAt
import Derived.Deep.DeepCutAuto
namespace Go.Proofs.YtgipkpkjoicehabDoor.met
open Go.RowKit
set_option maxRecDepth 100000
set_option linter.unusedVariables false
set_option linter.unusedSimpArgs false

/-- What taking gives. -/
def TakeQ (w : World) (g : Nat) (m : Mt) (i : Int) (no : Prop) (f x : Int) (m' : Mt) (e : Ending) (w' : World) : Prop :=
  Chg w w' g ∧ ((∃ j, win.JudgeIs m.h m.b i j ∧ j ≠ 0 ∧ e = .returned (.tuple #[.int .i64 0, .int .i64 j]) ∧ Wk w' g m) ∨ (win.JudgeIs m.h m.b i 0 ∧ no ∧ e = .returned (.tuple #[.int .i64 0, .int .i64 f]) ∧ Wk w' g m) ∨
    (win.JudgeIs m.h m.b i 0 ∧ ¬ no ∧ e = .returned (.tuple #[.int .i64 x, .int .i64 0]) ∧ Wk w' g { m' with h := max m.h i, b := win.took m.h m.b i, bad := 0 }))
set_option maxHeartbeats 4000000 in
theorem take_abs (K : Nat) (g : Nat) (m : Mt) (c i am t : Int) (no : Prop) (f x : Int) (m' : Mt) (w : World) (hw : Wk w g m) (hb : m.b < 18446744073709551616) (hf : f ≠ 0)
    (hK : ∀ args w, (callFunc K args).run Tryd.prog w = .ok (.enter K args) w)
    (hd : ∀ W, Calls Tryd.prog 90 #[.pointer (some ⟨g, 0, none⟩), .int .i64 c] W fun e w' => e = .returned (.func (.func K) #[.pointer (some ⟨g, 0, none⟩)] #[]) ∧ w' = W)
    (ha : ∀ W, Wk W g m → Calls Tryd.prog K #[.pointer (some ⟨g, 0, none⟩), .int .i64 am] W fun e w' => Deed W g m no f x m' e w') :
    Calls Tryd.prog 69 #[.pointer (some ⟨g, 0, none⟩), .agg #[.int .i64 c, .int .i64 i, .int .i64 am, .int .i64 t]] w fun e w' => TakeQ w g m i no f x m' e w' := by
  have HT : Hid (∀ W, Calls Tryd.prog 89 #[.agg #[.int .i64 m.h, .int .u64 (m.b : Int)], .int .i64 i] W fun e w' => win.TakePost W m.h m.b i e w') := fun W => win.ptake m.h m.b i W hb
  have HD : Hid (∀ W, Calls Tryd.prog 90 #[.pointer (some ⟨g, 0, none⟩), .int .i64 c] W fun e w' => e = .returned (.func (.func K) #[.pointer (some ⟨g, 0, none⟩)] #[]) ∧ w' = W) := hd
  have HA : Hid (∀ W, Wk W g m → Calls Tryd.prog K #[.pointer (some ⟨g, 0, none⟩), .int .i64 am] W fun e w' => Deed W g m no f x m' e w') := ha
  have HGL : Hid (g < w.heap.size) := Blk.lt hw
  have HW0 : Hid (Wk (w.alloc (.cells #[.int .i64 c, .int .i64 i, .int .i64 am, .int .i64 t] 50)).drew g m) := Blk.drew (Blk.alloc hw _) 1
  have HK0 : Hid (Blk (w.alloc (.cells #[.int .i64 c, .int .i64 i, .int .i64 am, .int .i64 t] 50)).drew (w.heap.size) #[.int .i64 c, .int .i64 i, .int .i64 am, .int .i64 t] 50) := Blk.drew (Blk.new _ _ _) 1
  have HB0 : Hid (Below w.heap.size w (w.alloc (.cells #[.int .i64 c, .int .i64 i, .int .i64 am, .int .i64 t] 50)).drew) := bel_drew ((Below.refl _ _).alloc (Nat.le_refl _) _) 1
  have hfq : (f != 0) = true := by simp [hf]
  clear hw hb hf hd ha
  obtain ⟨me, rev, cr, h, b, bad, lock⟩ := m
  obtain ⟨me2, rev2, cr2, h2, b2, bad2, lock2⟩ := m'
  unfold Wk Mt.cells at HW0
  simp only [] at HT HW0
  go_enter Tryd.func69, Tryd.ntmps69
  go_wp2_with fail
  go_cut [6, 7] (fun v6 v7 wc => ∃ (G : Nat) (h1 : Int) (b1 : Nat) (j : Int), v6 = .pointer (some ⟨G, 0, none⟩) ∧ v7 = .int .i64 j ∧ G ≠ g ∧ Blk wc g #[.int .i64 me, .int .i64 rev, .int .i64 cr, .int .i64 h, .int .u64 (b : Int), .int .i64 bad, .int .i64 lock] 100 ∧ Blk wc (w.heap.size) #[.int .i64 c, .int .i64 i, .int .i64 am, .int .i64 t] 50 ∧ Blk wc G #[.int .i64 h1, .int .u64 (b1 : Int)] 34 ∧ Below w.heap.size w wc ∧ win.JudgeIs h b i j ∧ (j = 0 → h1 = max h i ∧ b1 = win.took h b i))
  case first =>
    clear HD HA hK hfq
    refine wp_region_held_drew (S := fun v => Blk v g #[.int .i64 me, .int .i64 rev, .int .i64 cr, .int .i64 h, .int .u64 (b : Int), .int .i64 bad, .int .i64 lock] 100 ∧ Blk v (w.heap.size) #[.int .i64 c, .int .i64 i, .int .i64 am, .int .i64 t] 50) (by kernel_rfl) ⟨HW0.out, HK0.out⟩ (fun hHeld => ?_)
    refine take_at 0 11 (.pointer (some ⟨g, 0, none⟩)) _ rfl rfl (by kernel_rfl) (by kernel_rfl) (by kernel_rfl) (fun _ _ _ h => h) (Or.inl ⟨by rfl, fun v hv => by skip; clear hv; go_simp⟩) hHeld ?_
    simp only [Act.put, List.setIfInBounds_toArray, List.set_cons_zero, List.set_cons_succ]
    refine take_at 1 12 (.pointer (some ⟨g, 0, none⟩)) _ rfl rfl (by kernel_rfl) (by kernel_rfl) (by kernel_rfl) (fun _ _ _ h => h) (Or.inl ⟨by rfl, fun v hv => by skip; clear hv; go_simp⟩) hHeld ?_
    simp only [Act.put, List.setIfInBounds_toArray, List.set_cons_zero, List.set_cons_succ]
    refine take_at 2 13 (.pointer (some ⟨g, 0, none⟩)) _ rfl rfl (by kernel_rfl) (by kernel_rfl) (by kernel_rfl) (fun _ _ _ h => h) (Or.inl ⟨by rfl, fun v hv => by skip; clear hv; go_simp⟩) hHeld ?_
    simp only [Act.put, List.setIfInBounds_toArray, List.set_cons_zero, List.set_cons_succ]
    refine take_at 3 14 (.pointer (some ⟨g, 3, none⟩)) _ rfl rfl (by kernel_rfl) (by kernel_rfl) (by kernel_rfl) (fun _ _ _ h => h) (Or.inl ⟨by rfl, fun v hv => by skip; clear hv; go_simp⟩) hHeld ?_
    simp only [Act.put, List.setIfInBounds_toArray, List.set_cons_zero, List.set_cons_succ]
    refine take_at 4 15 (.agg #[.int .i64 h, .int .u64 (b : Int)]) _ rfl rfl (by kernel_rfl) (by kernel_rfl) (by kernel_rfl) (fun _ _ _ h => h) (Or.inl ⟨by rfl, fun v hv => by have h2 : v.cell? ⟨g, 3, none⟩ = some (.int .i64 h) := Blk.cell hv.1 3; have h3 : v.cell? ⟨g, 4, none⟩ = some (.int .u64 (b : Int)) := Blk.cell hv.1 4; clear hv; go_simp⟩) hHeld ?_
    simp only [Act.put, List.setIfInBounds_toArray, List.set_cons_zero, List.set_cons_succ]
    refine take_at 5 16 (.pointer (some ⟨w.heap.size, 1, none⟩)) _ rfl rfl (by kernel_rfl) (by kernel_rfl) (by kernel_rfl) (fun _ _ _ h => h) (Or.inl ⟨by rfl, fun v hv => by skip; clear hv; go_simp⟩) hHeld ?_
    simp only [Act.put, List.setIfInBounds_toArray, List.set_cons_zero, List.set_cons_succ]
    refine take_at 6 17 (.int .i64 i) _ rfl rfl (by kernel_rfl) (by kernel_rfl) (by kernel_rfl) (fun _ _ _ h => h) (Or.inl ⟨by rfl, fun v hv => by have h2 : v.cell? ⟨w.heap.size, 1, none⟩ = some (.int .i64 i) := Blk.cell hv.2 1; clear hv; go_simp⟩) hHeld ?_
    simp only [Act.put, List.setIfInBounds_toArray, List.set_cons_zero, List.set_cons_succ]
    generalize (w.alloc (.cells #[.int .i64 c, .int .i64 i, .int .i64 am, .int .i64 t] 50)).drew = V at *
    refine wpAnyH_ready (rs := [7, 11]) (by kernel_rfl) (by simp) (AllReadyH.cons rfl (fun K hK => ?_) (AllReadyH.cons rfl (fun K hK => ?_) AllReadyH.nil))
    · rw [if_pos (by rfl)]
      refine wp_callOp 18 rfl (by clear hK; go_simp) (HT.out _) ?_
      rintro e w1 ⟨h1, b1, j, rfl, hj, hne, heq, hb1⟩
      have HW1 : Hid (Blk w1 g #[.int .i64 me, .int .i64 rev, .int .i64 cr, .int .i64 h, .int .u64 (b : Int), .int .i64 bad, .int .i64 lock] 100) := HW0.out.next hb1
      have HK1 : Hid (Blk w1 (w.heap.size) #[.int .i64 c, .int .i64 i, .int .i64 am, .int .i64 t] 50) := HK0.out.next hb1
      have HB1 : Hid (Below w.heap.size w w1) := bel_step HB0.out hb1
      have HJ : Hid (win.JudgeIs h b i j) := hj
      have HQ : Hid (j = 0 → h1 = max h i ∧ b1 = win.took h b i) := heq
      refine ⟨_, rfl, hK.out _ _ ⟨HW1.out, HK1.out⟩ (fun hHeld => ?_)⟩
      clear hK hj hne heq hb1 HT
      simp only [Act.put, List.setIfInBounds_toArray, List.set_cons_zero, List.set_cons_succ]
      refine take_at 8 10 (.tuple #[.agg #[.int .i64 h1, .int .u64 (b1 : Int)], .int .i64 j]) _ rfl rfl (by kernel_rfl) (by kernel_rfl) (by kernel_rfl) (fun _ _ _ h => h) (Or.inl ⟨by rfl, fun v hv => by skip; clear hv; go_simp⟩) hHeld ?_
      simp only [Act.put, List.setIfInBounds_toArray, List.set_cons_zero, List.set_cons_succ]
      refine take_at 9 19 (.agg #[.int .i64 h1, .int .u64 (b1 : Int)]) _ rfl rfl (by kernel_rfl) (by kernel_rfl) (by kernel_rfl) (fun _ _ _ h => h) (Or.inl ⟨by rfl, fun v hv => by skip; clear hv; go_simp⟩) hHeld ?_
      simp only [Act.put, List.setIfInBounds_toArray, List.set_cons_zero, List.set_cons_succ]
      refine take_at 10 20 (.int .i64 j) _ rfl rfl (by kernel_rfl) (by kernel_rfl) (by kernel_rfl) (fun _ _ _ h => h) (Or.inl ⟨by rfl, fun v hv => by skip; clear hv; go_simp⟩) hHeld ?_
      simp only [Act.put, List.setIfInBounds_toArray, List.set_cons_zero, List.set_cons_succ]
      have HL : Hid (g < w1.heap.size ∧ w.heap.size < w1.heap.size) := ⟨HW1.out.lt, HK1.out.lt⟩
      have HW2 : Hid (Blk (w1.alloc (.cells #[.int .i64 0, .int .u64 0] 34)) g #[.int .i64 me, .int .i64 rev, .int .i64 cr, .int .i64 h, .int .u64 (b : Int), .int .i64 bad, .int .i64 lock] 100) := HW1.out.alloc _
      have HK2 : Hid (Blk (w1.alloc (.cells #[.int .i64 0, .int .u64 0] 34)) (w.heap.size) #[.int .i64 c, .int .i64 i, .int .i64 am, .int .i64 t] 50) := HK1.out.alloc _
      have HG2 : Hid (Blk (w1.alloc (.cells #[.int .i64 0, .int .u64 0] 34)) w1.heap.size #[.int .i64 0, .int .u64 0] 34) := Blk.new _ _ _
      have HB2 : Hid (Below w.heap.size w (w1.alloc (.cells #[.int .i64 0, .int .u64 0] 34))) := HB1.out.alloc HB1.out.size _
      refine wpAnyH_ready (rs := [11]) (by kernel_rfl) (by simp) (AllReadyH.cons rfl (fun K hK => ?_) AllReadyH.nil)
      rw [if_pos (by rfl)]
      refine wp_runOp (v := .pointer (some ⟨w1.heap.size, 0, none⟩)) (w' := w1.alloc (.cells #[.int .i64 0, .int .u64 0] 34)) 6 rfl (by clear hK; go_simp) ?_
      refine hK.out _ _ ⟨HW2.out, HK2.out⟩ (fun hHeld => ?_)
      clear hK
      simp only [Act.put, List.setIfInBounds_toArray, List.set_cons_zero, List.set_cons_succ]
      refine wpAnyH_ready (rs := [12]) (by kernel_rfl) (by simp) (AllReadyH.cons rfl (fun K hK => ?_) AllReadyH.nil)
      rw [if_pos (by rfl)]
      refine wp_letOp 34 _ _ rfl w1.heap.size rfl #[.int .i64 h1, .int .u64 (b1 : Int)] rfl (by kernel_rfl) (by simp [Value.oneCell']) #[.int .i64 0, .int .u64 0] 34 HG2.out rfl rfl ?_
      intro W3 hU3
      have hl := HL.out
      have HW3 : Hid (Blk W3 g #[.int .i64 me, .int .i64 rev, .int .i64 cr, .int .i64 h, .int .u64 (b : Int), .int .i64 bad, .int .i64 lock] 100) := hU3.keep HW2.out (by omega)
      have HK3 : Hid (Blk W3 (w.heap.size) #[.int .i64 c, .int .i64 i, .int .i64 am, .int .i64 t] 50) := hU3.keep HK2.out (by omega)
      have HG3 : Hid (Blk W3 w1.heap.size #[.int .i64 h1, .int .u64 (b1 : Int)] 34) := hU3.blk
      have HB3 : Hid (Below w.heap.size w W3) := hU3.bel _ _ (by omega) HB2.out
      have HGN : Hid (w1.heap.size ≠ g) := by show _ ≠ _; omega
      refine hK.out _ _ ⟨HW3.out, HK3.out⟩ (fun hHeld => ?_)
      clear hK hU3 hl
      refine take_at 13 7 (.int .i64 j) _ rfl rfl (by kernel_rfl) (by kernel_rfl) (by kernel_rfl) (fun _ _ _ h => h) (Or.inl ⟨by rfl, fun v hv => by skip; clear hv; go_simp⟩) hHeld ?_
      simp only [Act.put, List.setIfInBounds_toArray, List.set_cons_zero, List.set_cons_succ]
      refine wpAnyH_done (by kernel_rfl) ?_ _
      clear hHeld
      go_wp2_with fail
      go_meet
      case rel => exact ⟨_, h1, b1, j, rfl, rfl, HGN.out, HW3.out, HK3.out, HG3.out, HB3.out, HJ.out, HQ.out⟩
    · rw [if_pos (by rfl)]
      have HL : Hid (g < V.heap.size ∧ w.heap.size < V.heap.size) := ⟨HW0.out.lt, HK0.out.lt⟩
      have HW2 : Hid (Blk (V.alloc (.cells #[.int .i64 0, .int .u64 0] 34)) g #[.int .i64 me, .int .i64 rev, .int .i64 cr, .int .i64 h, .int .u64 (b : Int), .int .i64 bad, .int .i64 lock] 100) := HW0.out.alloc _
      have HK2 : Hid (Blk (V.alloc (.cells #[.int .i64 0, .int .u64 0] 34)) (w.heap.size) #[.int .i64 c, .int .i64 i, .int .i64 am, .int .i64 t] 50) := HK0.out.alloc _
      have HG2 : Hid (Blk (V.alloc (.cells #[.int .i64 0, .int .u64 0] 34)) V.heap.size #[.int .i64 0, .int .u64 0] 34) := Blk.new _ _ _
      have HB2 : Hid (Below w.heap.size w (V.alloc (.cells #[.int .i64 0, .int .u64 0] 34))) := HB0.out.alloc HB0.out.size _
      refine wp_runOp (v := .pointer (some ⟨V.heap.size, 0, none⟩)) (w' := V.alloc (.cells #[.int .i64 0, .int .u64 0] 34)) 6 rfl (by clear hK; go_simp) ?_
      refine hK.out _ _ ⟨HW2.out, HK2.out⟩ (fun hHeld => ?_)
      clear hK
      simp only [Act.put, List.setIfInBounds_toArray, List.set_cons_zero, List.set_cons_succ]
      refine wpAnyH_ready (rs := [7]) (by kernel_rfl) (by simp) (AllReadyH.cons rfl (fun K hK => ?_) AllReadyH.nil)
      rw [if_pos (by rfl)]
      refine wp_callOp 18 rfl (by clear hK; go_simp) (HT.out _) ?_
      rintro e w1 ⟨h1, b1, j, rfl, hj, hne, heq, hb1⟩
      have HW1 : Hid (Blk w1 g #[.int .i64 me, .int .i64 rev, .int .i64 cr, .int .i64 h, .int .u64 (b : Int), .int .i64 bad, .int .i64 lock] 100) := HW2.out.next hb1
      have HK1 : Hid (Blk w1 (w.heap.size) #[.int .i64 c, .int .i64 i, .int .i64 am, .int .i64 t] 50) := HK2.out.next hb1
      have HB1 : Hid (Below w.heap.size w w1) := bel_step HB2.out hb1
      have HJ : Hid (win.JudgeIs h b i j) := hj
      have HQ : Hid (j = 0 → h1 = max h i ∧ b1 = win.took h b i) := heq
      have HG4 : Hid (Blk w1 V.heap.size #[.int .i64 0, .int .u64 0] 34) := HG2.out.next hb1
      refine ⟨_, rfl, hK.out _ _ ⟨HW1.out, HK1.out⟩ (fun hHeld => ?_)⟩
      clear hK hj hne heq hb1 HT
      simp only [Act.put, List.setIfInBounds_toArray, List.set_cons_zero, List.set_cons_succ]
      refine take_at 8 10 (.tuple #[.agg #[.int .i64 h1, .int .u64 (b1 : Int)], .int .i64 j]) _ rfl rfl (by kernel_rfl) (by kernel_rfl) (by kernel_rfl) (fun _ _ _ h => h) (Or.inl ⟨by rfl, fun v hv => by skip; clear hv; go_simp⟩) hHeld ?_
      simp only [Act.put, List.setIfInBounds_toArray, List.set_cons_zero, List.set_cons_succ]
      refine take_at 9 19 (.agg #[.int .i64 h1, .int .u64 (b1 : Int)]) _ rfl rfl (by kernel_rfl) (by kernel_rfl) (by kernel_rfl) (fun _ _ _ h => h) (Or.inl ⟨by rfl, fun v hv => by skip; clear hv; go_simp⟩) hHeld ?_
      simp only [Act.put, List.setIfInBounds_toArray, List.set_cons_zero, List.set_cons_succ]
      refine take_at 10 20 (.int .i64 j) _ rfl rfl (by kernel_rfl) (by kernel_rfl) (by kernel_rfl) (fun _ _ _ h => h) (Or.inl ⟨by rfl, fun v hv => by skip; clear hv; go_simp⟩) hHeld ?_
      simp only [Act.put, List.setIfInBounds_toArray, List.set_cons_zero, List.set_cons_succ]
      refine wpAnyH_ready (rs := [12]) (by kernel_rfl) (by simp) (AllReadyH.cons rfl (fun K hK => ?_) AllReadyH.nil)
      rw [if_pos (by rfl)]
      refine wp_letOp 34 _ _ rfl V.heap.size rfl #[.int .i64 h1, .int .u64 (b1 : Int)] rfl (by kernel_rfl) (by simp [Value.oneCell']) #[.int .i64 0, .int .u64 0] 34 HG4.out rfl rfl ?_
      intro W3 hU3
      have hl := HL.out
      have HW3 : Hid (Blk W3 g #[.int .i64 me, .int .i64 rev, .int .i64 cr, .int .i64 h, .int .u64 (b : Int), .int .i64 bad, .int .i64 lock] 100) := hU3.keep HW1.out (by omega)
      have HK3 : Hid (Blk W3 (w.heap.size) #[.int .i64 c, .int .i64 i, .int .i64 am, .int .i64 t] 50) := hU3.keep HK1.out (by omega)
      have HG3 : Hid (Blk W3 V.heap.size #[.int .i64 h1, .int .u64 (b1 : Int)] 34) := hU3.blk
      have HB3 : Hid (Below w.heap.size w W3) := hU3.bel _ _ (by omega) HB1.out
      have HGN : Hid (V.heap.size ≠ g) := by show _ ≠ _; omega
      refine hK.out _ _ ⟨HW3.out, HK3.out⟩ (fun hHeld => ?_)
      clear hK hU3 hl
      refine take_at 13 7 (.int .i64 j) _ rfl rfl (by kernel_rfl) (by kernel_rfl) (by kernel_rfl) (fun _ _ _ h => h) (Or.inl ⟨by rfl, fun v hv => by skip; clear hv; go_simp⟩) hHeld ?_
      simp only [Act.put, List.setIfInBounds_toArray, List.set_cons_zero, List.set_cons_succ]
      refine wpAnyH_done (by kernel_rfl) ?_ _
      clear hHeld
      go_wp2_with fail
      go_meet
      case rel => exact ⟨_, h1, b1, j, rfl, rfl, HGN.out, HW3.out, HK3.out, HG3.out, HB3.out, HJ.out, HQ.out⟩
  case rest =>
    obtain ⟨G, h1, b1, j, rfl, rfl, hGn, hw3, hk3, hg3, hb3, hj3, hq3⟩ := hcut
    have HGN : Hid (G ≠ g) := hGn
    have HW3 : Hid (Blk wc g #[.int .i64 me, .int .i64 rev, .int .i64 cr, .int .i64 h, .int .u64 (b : Int), .int .i64 bad, .int .i64 lock] 100) := hw3
    have HK3 : Hid (Blk wc (w.heap.size) #[.int .i64 c, .int .i64 i, .int .i64 am, .int .i64 t] 50) := hk3
    have HG3 : Hid (Blk wc G #[.int .i64 h1, .int .u64 (b1 : Int)] 34) := hg3
    have HB3 : Hid (Below w.heap.size w wc) := hb3
    have HJ : Hid (win.JudgeIs h b i j) := hj3
    have HQ : Hid (j = 0 → h1 = max h i ∧ b1 = win.took h b i) := hq3
    clear hGn hw3 hk3 hg3 hb3 hj3 hq3 HT HW0 HK0 HB0
    by_cases hj : j = 0
    · subst hj
      have HE : Hid (h1 = max h i ∧ b1 = win.took h b i) := HQ.out rfl
      clear HQ
      have k0 : wc.cell? ⟨w.heap.size, 0, none⟩ = some (.int .i64 c) := HK3.out.cell 0
      have k2 : wc.cell? ⟨w.heap.size, 2, none⟩ = some (.int .i64 am) := HK3.out.cell 2
      go_wp2_with fail
      refine (HD.out _).mono ?_
      rintro e w4 ⟨rfl, rfl⟩
      clear HD
      go_wp2_with fail
      refine (HA.out _ HW3.out).mono ?_
      rintro e w5 ⟨hc5, ⟨hno, rfl, hw5⟩ | ⟨hno, rfl, hw5⟩⟩
      · have HF : Hid (Chg w w5 g ∧ no ∧ Wk w5 g ⟨me, rev, cr, h, b, bad, lock⟩) := ⟨(Chg.of HB3.out).trans hc5, hno, hw5⟩
        clear hc5 hno hw5 k0 k2
        go_wp2_with fail
        go_ret2
        exact ⟨HF.out.1, .inr (.inl ⟨HJ.out, HF.out.2.1, rfl, HF.out.2.2⟩)⟩
      · have HN : Hid (¬ no) := hno
        have HG5 : Hid (Blk w5 G #[.int .i64 h1, .int .u64 (b1 : Int)] 34) := hc5.keep HG3.out HGN.out
        have HC5 : Hid (Chg w w5 g) := (Chg.of HB3.out).trans hc5
        have HW5 : Hid (Blk w5 g #[.int .i64 me2, .int .i64 rev2, .int .i64 cr2, .int .i64 h2, .int .u64 (b2 : Int), .int .i64 bad2, .int .i64 lock2] 100) := hw5
        clear hc5 hno hw5 k0 k2 HW3 HK3 HG3 HB3
        have z0 : w5.cell? ⟨G, 0, none⟩ = some (.int .i64 h1) := HG5.out.cell 0
        have z1 : w5.cell? ⟨G, 1, none⟩ = some (.int .u64 (b1 : Int)) := HG5.out.cell 1
        go_wp2_with (first
          | (refine wp_let rfl 34 _ _ rfl g 3 rfl (.agg #[.int .i64 h1, .int .u64 (b1 : Int)]) rfl #[.int .i64 h1, .int .u64 (b1 : Int)] rfl (by kernel_rfl) (by simp [Value.oneCell']) #[.int .i64 me2, .int .i64 rev2, .int .i64 cr2, .int .i64 h2, .int .u64 (b2 : Int), .int .i64 bad2, .int .i64 lock2] 100 HW5.out (by simp) #[.int .i64 me2, .int .i64 rev2, .int .i64 cr2, .int .i64 h1, .int .u64 (b1 : Int), .int .i64 bad2, .int .i64 lock2] rfl ?_)
          | fail)
        intro W6 hU6
        have HW6 : Hid (Blk W6 g #[.int .i64 me2, .int .i64 rev2, .int .i64 cr2, .int .i64 h1, .int .u64 (b1 : Int), .int .i64 bad2, .int .i64 lock2] 100) := hU6.blk
        have HC6 : Hid (Chg w W6 g) := HC5.out.trans (.upd hU6)
        clear hU6 z0 z1 HG5 HC5 HW5
        go_wp2_with (first
          | (refine wp_let1 rfl 3 _ _ rfl g 5 rfl .i64 0 rfl (by kernel_rfl) #[.int .i64 me2, .int .i64 rev2, .int .i64 cr2, .int .i64 h1, .int .u64 (b1 : Int), .int .i64 bad2, .int .i64 lock2] 100 HW6.out (by simp) ?_)
          | fail)
        intro W7 hU7
        have HW7 : Hid (Blk W7 g #[.int .i64 me2, .int .i64 rev2, .int .i64 cr2, .int .i64 h1, .int .u64 (b1 : Int), .int .i64 0, .int .i64 lock2] 100) := hU7.blk
        have HC7 : Hid (Chg w W7 g) := HC6.out.trans (.upd hU7)
        clear hU7 HW6 HC6
        go_wp2_with fail
        go_ret2
        exact ⟨HC7.out, .inr (.inr ⟨HJ.out, HN.out, rfl, by rw [← HE.out.1, ← HE.out.2]; exact HW7.out⟩)⟩
    · have hq : (j != 0) = true := by simp [hj]
      have HF : Hid (Chg w wc g ∧ j ≠ 0 ∧ Wk wc g ⟨me, rev, cr, h, b, bad, lock⟩) := ⟨.of HB3.out, hj, HW3.out⟩
      clear hj HW3 HK3 HG3 HB3
      go_wp2_with fail
      go_ret2
      exact ⟨HF.out.1, .inl ⟨j, HJ.out, HF.out.2.1, rfl, HF.out.2.2⟩⟩

end Go.Proofs.YtgipkpkjoicehabDoor.met
