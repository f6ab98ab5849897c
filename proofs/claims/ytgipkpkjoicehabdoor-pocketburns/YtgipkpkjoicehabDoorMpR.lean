/- The program's reading of a meter. -/
import Derived.Test.YtgipkpkjoicehabDoorMpW
import Derived.Test.YtgipkpkjoicehabDoorLet
import Derived.Test.YtgipkpkjoicehabDoorCallFirst
import Derived.Test.YtgipkpkjoicehabDoorMjR
import Derived.Test.YtgipkpkjoicehabDoorOpAt
namespace Go.Proofs.YtgipkpkjoicehabDoor.met
open Go.RowKit Go.Proofs.YtgipkpkjoicehabDoor.cell
set_option maxRecDepth 100000
set_option linter.unusedVariables false
set_option linter.unusedSimpArgs false

theorem small0 (G bk off cap : Nat) (x1 : Int) (W : World) (hb : W.cell? ⟨G, 0, none⟩ = some (.slice (some ⟨bk, off, none⟩) 5 cap)) (hc : W.cell? ⟨bk, off + 1, none⟩ = some (.int .u32 x1)) (h0 : 0 ≤ x1) (h1 : x1 < 4294967296) :
    Calls Tryd.prog 35 #[.int .i64 0, .pointer (some ⟨G, 0, none⟩)] W fun e w' => e = .returned (.int .i64 (x1 % 256)) ∧ w' = W := by
  go_enter Tryd.func35, Tryd.ntmps35
  go_wp2_with fail
  go_ret
  refine ⟨?_, rfl⟩
  congr 2
  all_goals first | omega | (simp only [IntKind.wrap_i64]; omega)
theorem small1 (G bk off cap : Nat) (x1 : Int) (W : World) (hb : W.cell? ⟨G, 0, none⟩ = some (.slice (some ⟨bk, off, none⟩) 5 cap)) (hc : W.cell? ⟨bk, off + 1, none⟩ = some (.int .u32 x1)) (h0 : 0 ≤ x1) (h1 : x1 < 4294967296) :
    Calls Tryd.prog 35 #[.int .i64 1, .pointer (some ⟨G, 0, none⟩)] W fun e w' => e = .returned (.int .i64 (x1 / 256 % 256)) ∧ w' = W := by
  go_enter Tryd.func35, Tryd.ntmps35
  go_wp2_with fail
  go_ret
  refine ⟨?_, rfl⟩
  congr 2
  all_goals first | omega | (simp only [IntKind.wrap_i64]; omega)
theorem small2 (G bk off cap : Nat) (x1 : Int) (W : World) (hb : W.cell? ⟨G, 0, none⟩ = some (.slice (some ⟨bk, off, none⟩) 5 cap)) (hc : W.cell? ⟨bk, off + 1, none⟩ = some (.int .u32 x1)) (h0 : 0 ≤ x1) (h1 : x1 < 4294967296) :
    Calls Tryd.prog 35 #[.int .i64 2, .pointer (some ⟨G, 0, none⟩)] W fun e w' => e = .returned (.int .i64 (x1 / 65536 % 256)) ∧ w' = W := by
  go_enter Tryd.func35, Tryd.ntmps35
  go_wp2_with fail
  go_ret
  refine ⟨?_, rfl⟩
  congr 2
  all_goals first | omega | (simp only [IntKind.wrap_i64]; omega)
theorem small3 (G bk off cap : Nat) (x1 : Int) (W : World) (hb : W.cell? ⟨G, 0, none⟩ = some (.slice (some ⟨bk, off, none⟩) 5 cap)) (hc : W.cell? ⟨bk, off + 1, none⟩ = some (.int .u32 x1)) (h0 : 0 ≤ x1) (h1 : x1 < 4294967296) :
    Calls Tryd.prog 35 #[.int .i64 3, .pointer (some ⟨G, 0, none⟩)] W fun e w' => e = .returned (.int .i64 (x1 / 16777216)) ∧ w' = W := by
  go_enter Tryd.func35, Tryd.ntmps35
  go_wp2_with fail
  go_ret
  refine ⟨?_, rfl⟩
  congr 2
  all_goals first | omega | (simp only [IntKind.wrap_i64]; omega)
/-- What reading sees of the world. -/
structure Rs (v : World) (G bk off cap : Nat) (x0 x1 x2 x3 x4 : Int) : Prop where
  box : v.cell? ⟨G, 0, none⟩ = some (.slice (some ⟨bk, off, none⟩) 5 cap)
  c0 : v.cell? ⟨bk, off, none⟩ = some (.int .u32 x0)
  c1 : v.cell? ⟨bk, off + 1, none⟩ = some (.int .u32 x1)
  c2 : v.cell? ⟨bk, off + 2, none⟩ = some (.int .u32 x2)
  c3 : v.cell? ⟨bk, off + 3, none⟩ = some (.int .u32 x3)
  c4 : v.cell? ⟨bk, off + 4, none⟩ = some (.int .u32 x4)
theorem Rs.below {v v' : World} {G bk off cap : Nat} {x0 x1 x2 x3 x4 : Int} (h : Rs v G bk off cap x0 x1 x2 x3 x4) (hb : Below v.heap.size v v') : Rs v' G bk off cap x0 x1 x2 x3 x4 := by
  have e : ∀ {p : Addr} {u : Value}, v.cell? p = some u → v'.cell? p = some u := fun hp => by rw [hb.cell (World.block_lt_of_cell? v _ hp)]; exact hp
  exact ⟨e h.box, e h.c0, e h.c1, e h.c2, e h.c3, e h.c4⟩
theorem Rs.upd {v W : World} {G bk off cap g : Nat} {x0 x1 x2 x3 x4 : Int} {cs : Array Value} {ty : TypeId} (h : Rs v G bk off cap x0 x1 x2 x3 x4) (hu : Upd v W g cs ty) (hb : bk ≠ g) (hG : G ≠ g) : Rs W G bk off cap x0 x1 x2 x3 x4 :=
  ⟨(hu.cell _ hG rfl).trans h.box, (hu.cell ⟨bk, _, none⟩ hb rfl).trans h.c0, (hu.cell ⟨bk, _, none⟩ hb rfl).trans h.c1, (hu.cell ⟨bk, _, none⟩ hb rfl).trans h.c2, (hu.cell ⟨bk, _, none⟩ hb rfl).trans h.c3, (hu.cell ⟨bk, _, none⟩ hb rfl).trans h.c4⟩
theorem or64w (x y : Int) (x0 : 0 ≤ x) (x1 : x < 4294967296) (y0 : 0 ≤ y) (y1 : y < 4294967296) : bits .or .u64 x (y * 4294967296) = (((y * 4294967296 + x).toNat : Nat) : Int) := by
  obtain ⟨a, rfl⟩ := Int.eq_ofNat_of_zero_le x0
  obtain ⟨m, rfl⟩ := Int.eq_ofNat_of_zero_le y0
  have e : ((m : Int) * 4294967296) = ((m * 4294967296 : Nat) : Int) := by simp
  rw [e, win.or64 a (m * 4294967296) (by omega) (by omega)]
  have := Nat.two_pow_add_eq_or_of_lt (i := 32) (show a < 2 ^ 32 by omega) m
  rw [Nat.or_comm, show m * 4294967296 = 2 ^ 32 * m by omega, ← this]
  omega
set_option maxHeartbeats 1000000 in
theorem pread_size (a : Option Addr) (n cap : Nat) (l : List Int) (w : World) (hn : l.length = n) (h5 : n ≠ 5) : Calls Tryd.prog 15 #[.slice a n cap] w fun e w' => ReadPost w l e w' := by
  have HO : Hid (Blk ((w.alloc (.cells #[.slice a n cap] 22)).alloc (.cells #[.int .i64 0, .int .i64 0, .int .i64 0, .int .i64 0, .int .u64 0, .int .i64 0, .int .i64 0] 36)) (w.heap.size + 1) #[.int .i64 0, .int .i64 0, .int .i64 0, .int .i64 0, .int .u64 0, .int .i64 0, .int .i64 0] 36) := Blk.new1 w _ _ _
  have HX : Hid (Blk ((w.alloc (.cells #[.slice a n cap] 22)).alloc (.cells #[.int .i64 0, .int .i64 0, .int .i64 0, .int .i64 0, .int .u64 0, .int .i64 0, .int .i64 0] 36)) (w.heap.size) #[.slice a n cap] 22) := (Blk.new _ _ _).alloc _
  have HB : Hid (Below w.heap.size w ((w.alloc (.cells #[.slice a n cap] 22)).alloc (.cells #[.int .i64 0, .int .i64 0, .int .i64 0, .int .i64 0, .int .u64 0, .int .i64 0, .int .i64 0] 36))) := ((Below.refl _ _).alloc (Nat.le_refl _) _).alloc (by simp) _
  have HL : Hid (l.length ≠ 5) := by show _ ≠ _; omega
  have hq : ((n : Int) != 5) = true := by simp; omega
  have q0 : ((w.alloc (.cells #[.slice a n cap] 22)).alloc (.cells #[.int .i64 0, .int .i64 0, .int .i64 0, .int .i64 0, .int .u64 0, .int .i64 0, .int .i64 0] 36)).cell? ⟨w.heap.size, 0, none⟩ = some (.slice a n cap) := HX.out.cell 0
  clear hn h5
  go_enter Tryd.func15, Tryd.ntmps15
  go_wp2_with (first | (refine wp_letAll rfl 36 _ _ rfl (w.heap.size + 1) rfl #[.int .i64 0, .int .i64 0, .int .i64 0, .int .i64 0, .int .u64 0, .int .i64 0, .int .i64 0] rfl (by kernel_rfl) (by simp [Value.oneCell']) #[.int .i64 0, .int .i64 0, .int .i64 0, .int .i64 0, .int .u64 0, .int .i64 0, .int .i64 0] 36 HO.out rfl ?_) | fail)
  intro WF hUF
  have HBF : Hid (Below w.heap.size w WF) := hUF.bel _ _ (by omega) HB.out
  have R0 : Hid (WF.cell? ⟨w.heap.size + 1, 0, none⟩ = some (.int .i64 0)) := hUF.blk.cell 0
  have R1 : Hid (WF.cell? ⟨w.heap.size + 1, 1, none⟩ = some (.int .i64 0)) := hUF.blk.cell 1
  have R2 : Hid (WF.cell? ⟨w.heap.size + 1, 2, none⟩ = some (.int .i64 0)) := hUF.blk.cell 2
  have R3 : Hid (WF.cell? ⟨w.heap.size + 1, 3, none⟩ = some (.int .i64 0)) := hUF.blk.cell 3
  have R4 : Hid (WF.cell? ⟨w.heap.size + 1, 4, none⟩ = some (.int .u64 0)) := hUF.blk.cell 4
  have R5 : Hid (WF.cell? ⟨w.heap.size + 1, 5, none⟩ = some (.int .i64 0)) := hUF.blk.cell 5
  have R6 : Hid (WF.cell? ⟨w.heap.size + 1, 6, none⟩ = some (.int .i64 0)) := hUF.blk.cell 6
  clear hUF
  go_wp2_with fail
  exact bodyPost_ret (v := .tuple #[.agg #[.int .i64 0, .int .i64 0, .int .i64 0, .int .i64 0, .int .u64 0, .int .i64 0, .int .i64 0], .int .i64 1]) (by simp [results, Tryd.results15, R0.out, R1.out, R2.out, R3.out, R4.out, R5.out, R6.out, go_sem]) rfl ⟨mt0, 1, rfl, .size HL.out, HBF.out⟩
set_option maxHeartbeats 4000000 in
theorem pread_five (bk off cap : Nat) (x0 x1 x2 x3 x4 y0 y1 y2 y3 : Int) (bN : Nat) (P : Prop) (w : World) (h0 : Rs ((w.alloc (.cells #[.slice (some ⟨bk, off, none⟩) 5 cap] 22)).alloc (.cells #[.int .i64 0, .int .i64 0, .int .i64 0, .int .i64 0, .int .u64 0, .int .i64 0, .int .i64 0] 36)) (w.heap.size) bk off cap x0 x1 x2 x3 x4)
    (b0 : 0 ≤ x0 ∧ x0 < 4294967296) (b1 : 0 ≤ x1 ∧ x1 < 4294967296) (b2 : 0 ≤ x2 ∧ x2 < 4294967296) (b3 : 0 ≤ x3 ∧ x3 < 4294967296) (b4 : 0 ≤ x4 ∧ x4 < 4294967296)
    (e0 : y0 = x1 % 256) (e1 : y1 = x1 / 256 % 256) (e2 : y2 = x1 / 65536 % 256) (e3 : y3 = x1 / 16777216) (eb : bN = (x4 * 4294967296 + x3).toNat)
    (hm : ∀ W, Calls Tryd.prog 36 #[.agg #[.int .i64 y0, .int .i64 y1, .int .i64 x0, .int .i64 x2, .int .u64 (bN : Int), .int .i64 y2, .int .i64 y3]] W fun e w' => Told W P e w') :
    Calls Tryd.prog 15 #[.slice (some ⟨bk, off, none⟩) 5 cap] w fun e w' => Below w.heap.size w w' ∧ ((P ∧ e = .returned (.tuple #[.agg #[.int .i64 y0, .int .i64 y1, .int .i64 x0, .int .i64 x2, .int .u64 (bN : Int), .int .i64 y2, .int .i64 y3], .int .i64 0])) ∨ (¬ P ∧ e = .returned (.tuple #[.agg #[.int .i64 0, .int .i64 0, .int .i64 0, .int .i64 0, .int .u64 0, .int .i64 0, .int .i64 0], .int .i64 5]))) := by
  have HM : Hid (∀ W, Calls Tryd.prog 36 #[.agg #[.int .i64 y0, .int .i64 y1, .int .i64 x0, .int .i64 x2, .int .u64 (bN : Int), .int .i64 y2, .int .i64 y3]] W fun e w' => Told W P e w') := hm
  have HO : Hid (Blk ((w.alloc (.cells #[.slice (some ⟨bk, off, none⟩) 5 cap] 22)).alloc (.cells #[.int .i64 0, .int .i64 0, .int .i64 0, .int .i64 0, .int .u64 0, .int .i64 0, .int .i64 0] 36)) (w.heap.size + 1) #[.int .i64 0, .int .i64 0, .int .i64 0, .int .i64 0, .int .u64 0, .int .i64 0, .int .i64 0] 36) := Blk.new1 w _ _ _
  have HX : Hid (Blk ((w.alloc (.cells #[.slice (some ⟨bk, off, none⟩) 5 cap] 22)).alloc (.cells #[.int .i64 0, .int .i64 0, .int .i64 0, .int .i64 0, .int .u64 0, .int .i64 0, .int .i64 0] 36)) (w.heap.size) #[.slice (some ⟨bk, off, none⟩) 5 cap] 22) := (Blk.new _ _ _).alloc _
  have HB : Hid (Below w.heap.size w ((w.alloc (.cells #[.slice (some ⟨bk, off, none⟩) 5 cap] 22)).alloc (.cells #[.int .i64 0, .int .i64 0, .int .i64 0, .int .i64 0, .int .u64 0, .int .i64 0, .int .i64 0] 36))) := ((Below.refl _ _).alloc (Nat.le_refl _) _).alloc (by simp) _
  have HR : Hid (Rs ((w.alloc (.cells #[.slice (some ⟨bk, off, none⟩) 5 cap] 22)).alloc (.cells #[.int .i64 0, .int .i64 0, .int .i64 0, .int .i64 0, .int .u64 0, .int .i64 0, .int .i64 0] 36)).drew (w.heap.size) bk off cap x0 x1 x2 x3 x4) := ⟨h0.box, h0.c0, h0.c1, h0.c2, h0.c3, h0.c4⟩
  have G0 : Hid (∀ v, Rs v (w.heap.size) bk off cap x0 x1 x2 x3 x4 → Calls Tryd.prog 35 #[.int .i64 0, .pointer (some ⟨w.heap.size, 0, none⟩)] v fun e w' => e = .returned (.int .i64 y0) ∧ w' = v) := fun v hv => by rw [e0]; exact small0 _ _ _ _ _ v hv.box hv.c1 b1.1 b1.2
  have G1 : Hid (∀ v, Rs v (w.heap.size) bk off cap x0 x1 x2 x3 x4 → Calls Tryd.prog 35 #[.int .i64 1, .pointer (some ⟨w.heap.size, 0, none⟩)] v fun e w' => e = .returned (.int .i64 y1) ∧ w' = v) := fun v hv => by rw [e1]; exact small1 _ _ _ _ _ v hv.box hv.c1 b1.1 b1.2
  have G2 : Hid (∀ v, Rs v (w.heap.size) bk off cap x0 x1 x2 x3 x4 → Calls Tryd.prog 35 #[.int .i64 2, .pointer (some ⟨w.heap.size, 0, none⟩)] v fun e w' => e = .returned (.int .i64 y2) ∧ w' = v) := fun v hv => by rw [e2]; exact small2 _ _ _ _ _ v hv.box hv.c1 b1.1 b1.2
  have G3 : Hid (∀ v, Rs v (w.heap.size) bk off cap x0 x1 x2 x3 x4 → Calls Tryd.prog 35 #[.int .i64 3, .pointer (some ⟨w.heap.size, 0, none⟩)] v fun e w' => e = .returned (.int .i64 y3) ∧ w' = v) := fun v hv => by rw [e3]; exact small3 _ _ _ _ _ v hv.box hv.c1 b1.1 b1.2
  have hor : bits .or .u64 x3 (x4 * 4294967296) = (bN : Int) := by rw [eb]; exact or64w x3 x4 b3.1 b3.2 b4.1 b4.2
  have hsh : IntKind.u64.wrap (x4 * 4294967296) = x4 * 4294967296 := by rw [IntKind.wrap_u64]; omega
  have q0 : ((w.alloc (.cells #[.slice (some ⟨bk, off, none⟩) 5 cap] 22)).alloc (.cells #[.int .i64 0, .int .i64 0, .int .i64 0, .int .i64 0, .int .u64 0, .int .i64 0, .int .i64 0] 36)).cell? ⟨w.heap.size, 0, none⟩ = some (.slice (some ⟨bk, off, none⟩) 5 cap) := HX.out.cell 0
  have wx0 : IntKind.i64.wrap x0 = x0 := by rw [IntKind.wrap_i64]; omega
  have wx2 : IntKind.i64.wrap x2 = x2 := by rw [IntKind.wrap_i64]; omega
  have wx3 : IntKind.u64.wrap x3 = x3 := by rw [IntKind.wrap_u64]; omega
  have wx4 : IntKind.u64.wrap x4 = x4 := by rw [IntKind.wrap_u64]; omega
  clear e0 e1 e2 e3 eb hm h0
  go_enter Tryd.func15, Tryd.ntmps15
  go_wp2_with fail
  refine wp_region_held_drew (S := fun v => Rs v (w.heap.size) bk off cap x0 x1 x2 x3 x4) (by kernel_rfl) HR.out (fun hHeld => ?_)
  refine take_at 0 11 (.func (.func 35) #[] #[.pointer (some ⟨w.heap.size, 0, none⟩)]) _ rfl rfl (by kernel_rfl) (by kernel_rfl) (by kernel_rfl) (fun _ _ _ h => h) (Or.inl ⟨by rfl, fun v hv => by skip; clear hv; go_simp⟩) hHeld ?_
  simp only [Act.put, List.setIfInBounds_toArray, List.set_cons_zero, List.set_cons_succ]
  refine call_at 1 12 (.int .i64 y0) _ rfl rfl (by kernel_rfl) (by kernel_rfl) (by kernel_rfl) (fun _ _ _ h => h) 35 #[.int .i64 0, .pointer (some ⟨w.heap.size, 0, none⟩)] ⟨by rfl, fun v hv => by clear hv; go_simp⟩ (fun v hv => G0.out v hv) hHeld ?_
  simp only [Act.put, List.setIfInBounds_toArray, List.set_cons_zero, List.set_cons_succ]
  refine take_at 2 13 (.func (.func 35) #[] #[.pointer (some ⟨w.heap.size, 0, none⟩)]) _ rfl rfl (by kernel_rfl) (by kernel_rfl) (by kernel_rfl) (fun _ _ _ h => h) (Or.inl ⟨by rfl, fun v hv => by skip; clear hv; go_simp⟩) hHeld ?_
  simp only [Act.put, List.setIfInBounds_toArray, List.set_cons_zero, List.set_cons_succ]
  refine call_at 3 14 (.int .i64 y1) _ rfl rfl (by kernel_rfl) (by kernel_rfl) (by kernel_rfl) (fun _ _ _ h => h) 35 #[.int .i64 1, .pointer (some ⟨w.heap.size, 0, none⟩)] ⟨by rfl, fun v hv => by clear hv; go_simp⟩ (fun v hv => G1.out v hv) hHeld ?_
  simp only [Act.put, List.setIfInBounds_toArray, List.set_cons_zero, List.set_cons_succ]
  refine take_at 4 15 (.slice (some ⟨bk, off, none⟩) 5 cap) _ rfl rfl (by kernel_rfl) (by kernel_rfl) (by kernel_rfl) (fun _ _ _ h => h) (Or.inl ⟨by rfl, fun v hv => by have h2 := hv.box; clear hv; go_simp⟩) hHeld ?_
  simp only [Act.put, List.setIfInBounds_toArray, List.set_cons_zero, List.set_cons_succ]
  refine take_at 5 16 (.pointer (some ⟨bk, off, none⟩)) _ rfl rfl (by kernel_rfl) (by kernel_rfl) (by kernel_rfl) (fun _ _ _ h => h) (Or.inl ⟨by rfl, fun v hv => by skip; clear hv; go_simp⟩) hHeld ?_
  simp only [Act.put, List.setIfInBounds_toArray, List.set_cons_zero, List.set_cons_succ]
  refine take_at 6 17 (.int .u32 x0) _ rfl rfl (by kernel_rfl) (by kernel_rfl) (by kernel_rfl) (fun _ _ _ h => h) (Or.inl ⟨by rfl, fun v hv => by have h2 := hv.c0; clear hv; go_simp⟩) hHeld ?_
  simp only [Act.put, List.setIfInBounds_toArray, List.set_cons_zero, List.set_cons_succ]
  refine take_at 7 18 (.int .i64 x0) _ rfl rfl (by kernel_rfl) (by kernel_rfl) (by kernel_rfl) (fun _ _ _ h => h) (Or.inl ⟨by rfl, fun v hv => by skip; clear hv; go_simp⟩) hHeld ?_
  simp only [Act.put, List.setIfInBounds_toArray, List.set_cons_zero, List.set_cons_succ]
  refine take_at 8 19 (.slice (some ⟨bk, off, none⟩) 5 cap) _ rfl rfl (by kernel_rfl) (by kernel_rfl) (by kernel_rfl) (fun _ _ _ h => h) (Or.inl ⟨by rfl, fun v hv => by have h2 := hv.box; clear hv; go_simp⟩) hHeld ?_
  simp only [Act.put, List.setIfInBounds_toArray, List.set_cons_zero, List.set_cons_succ]
  refine take_at 9 20 (.pointer (some ⟨bk, off + 2, none⟩)) _ rfl rfl (by kernel_rfl) (by kernel_rfl) (by kernel_rfl) (fun _ _ _ h => h) (Or.inl ⟨by rfl, fun v hv => by skip; clear hv; go_simp⟩) hHeld ?_
  simp only [Act.put, List.setIfInBounds_toArray, List.set_cons_zero, List.set_cons_succ]
  refine take_at 10 21 (.int .u32 x2) _ rfl rfl (by kernel_rfl) (by kernel_rfl) (by kernel_rfl) (fun _ _ _ h => h) (Or.inl ⟨by rfl, fun v hv => by have h2 := hv.c2; clear hv; go_simp⟩) hHeld ?_
  simp only [Act.put, List.setIfInBounds_toArray, List.set_cons_zero, List.set_cons_succ]
  refine take_at 11 22 (.int .i64 x2) _ rfl rfl (by kernel_rfl) (by kernel_rfl) (by kernel_rfl) (fun _ _ _ h => h) (Or.inl ⟨by rfl, fun v hv => by skip; clear hv; go_simp⟩) hHeld ?_
  simp only [Act.put, List.setIfInBounds_toArray, List.set_cons_zero, List.set_cons_succ]
  refine take_at 12 23 (.slice (some ⟨bk, off, none⟩) 5 cap) _ rfl rfl (by kernel_rfl) (by kernel_rfl) (by kernel_rfl) (fun _ _ _ h => h) (Or.inl ⟨by rfl, fun v hv => by have h2 := hv.box; clear hv; go_simp⟩) hHeld ?_
  simp only [Act.put, List.setIfInBounds_toArray, List.set_cons_zero, List.set_cons_succ]
  refine take_at 13 24 (.pointer (some ⟨bk, off + 3, none⟩)) _ rfl rfl (by kernel_rfl) (by kernel_rfl) (by kernel_rfl) (fun _ _ _ h => h) (Or.inl ⟨by rfl, fun v hv => by skip; clear hv; go_simp⟩) hHeld ?_
  simp only [Act.put, List.setIfInBounds_toArray, List.set_cons_zero, List.set_cons_succ]
  refine take_at 14 25 (.int .u32 x3) _ rfl rfl (by kernel_rfl) (by kernel_rfl) (by kernel_rfl) (fun _ _ _ h => h) (Or.inl ⟨by rfl, fun v hv => by have h2 := hv.c3; clear hv; go_simp⟩) hHeld ?_
  simp only [Act.put, List.setIfInBounds_toArray, List.set_cons_zero, List.set_cons_succ]
  refine take_at 15 26 (.int .u64 x3) _ rfl rfl (by kernel_rfl) (by kernel_rfl) (by kernel_rfl) (fun _ _ _ h => h) (Or.inl ⟨by rfl, fun v hv => by skip; clear hv; go_simp⟩) hHeld ?_
  simp only [Act.put, List.setIfInBounds_toArray, List.set_cons_zero, List.set_cons_succ]
  refine take_at 16 27 (.slice (some ⟨bk, off, none⟩) 5 cap) _ rfl rfl (by kernel_rfl) (by kernel_rfl) (by kernel_rfl) (fun _ _ _ h => h) (Or.inl ⟨by rfl, fun v hv => by have h2 := hv.box; clear hv; go_simp⟩) hHeld ?_
  simp only [Act.put, List.setIfInBounds_toArray, List.set_cons_zero, List.set_cons_succ]
  refine take_at 17 28 (.pointer (some ⟨bk, off + 4, none⟩)) _ rfl rfl (by kernel_rfl) (by kernel_rfl) (by kernel_rfl) (fun _ _ _ h => h) (Or.inl ⟨by rfl, fun v hv => by skip; clear hv; go_simp⟩) hHeld ?_
  simp only [Act.put, List.setIfInBounds_toArray, List.set_cons_zero, List.set_cons_succ]
  refine take_at 18 29 (.int .u32 x4) _ rfl rfl (by kernel_rfl) (by kernel_rfl) (by kernel_rfl) (fun _ _ _ h => h) (Or.inl ⟨by rfl, fun v hv => by have h2 := hv.c4; clear hv; go_simp⟩) hHeld ?_
  simp only [Act.put, List.setIfInBounds_toArray, List.set_cons_zero, List.set_cons_succ]
  refine take_at 19 30 (.int .u64 x4) _ rfl rfl (by kernel_rfl) (by kernel_rfl) (by kernel_rfl) (fun _ _ _ h => h) (Or.inl ⟨by rfl, fun v hv => by skip; clear hv; go_simp⟩) hHeld ?_
  simp only [Act.put, List.setIfInBounds_toArray, List.set_cons_zero, List.set_cons_succ]
  refine take_at 20 31 (.int .u64 (x4 * 4294967296)) _ rfl rfl (by kernel_rfl) (by kernel_rfl) (by kernel_rfl) (fun _ _ _ h => h) (Or.inl ⟨by rfl, fun v hv => by skip; clear hv; go_simp⟩) hHeld ?_
  simp only [Act.put, List.setIfInBounds_toArray, List.set_cons_zero, List.set_cons_succ]
  refine take_at 21 32 (.int .u64 (bN : Int)) _ rfl rfl (by kernel_rfl) (by kernel_rfl) (by kernel_rfl) (fun _ _ _ h => h) (Or.inl ⟨by rfl, fun v hv => by skip; clear hv; go_simp⟩) hHeld ?_
  simp only [Act.put, List.setIfInBounds_toArray, List.set_cons_zero, List.set_cons_succ]
  refine take_at 22 33 (.agg #[.int .i64 x2, .int .u64 (bN : Int)]) _ rfl rfl (by kernel_rfl) (by kernel_rfl) (by kernel_rfl) (fun _ _ _ h => h) (Or.inl ⟨by rfl, fun v hv => by skip; clear hv; go_simp⟩) hHeld ?_
  simp only [Act.put, List.setIfInBounds_toArray, List.set_cons_zero, List.set_cons_succ]
  refine take_at 23 34 (.func (.func 35) #[] #[.pointer (some ⟨w.heap.size, 0, none⟩)]) _ rfl rfl (by kernel_rfl) (by kernel_rfl) (by kernel_rfl) (fun _ _ _ h => h) (Or.inl ⟨by rfl, fun v hv => by skip; clear hv; go_simp⟩) hHeld ?_
  simp only [Act.put, List.setIfInBounds_toArray, List.set_cons_zero, List.set_cons_succ]
  refine call_at 24 35 (.int .i64 y2) _ rfl rfl (by kernel_rfl) (by kernel_rfl) (by kernel_rfl) (fun _ _ _ h => h) 35 #[.int .i64 2, .pointer (some ⟨w.heap.size, 0, none⟩)] ⟨by rfl, fun v hv => by clear hv; go_simp⟩ (fun v hv => G2.out v hv) hHeld ?_
  simp only [Act.put, List.setIfInBounds_toArray, List.set_cons_zero, List.set_cons_succ]
  refine take_at 25 36 (.func (.func 35) #[] #[.pointer (some ⟨w.heap.size, 0, none⟩)]) _ rfl rfl (by kernel_rfl) (by kernel_rfl) (by kernel_rfl) (fun _ _ _ h => h) (Or.inl ⟨by rfl, fun v hv => by skip; clear hv; go_simp⟩) hHeld ?_
  simp only [Act.put, List.setIfInBounds_toArray, List.set_cons_zero, List.set_cons_succ]
  refine call_at 26 37 (.int .i64 y3) _ rfl rfl (by kernel_rfl) (by kernel_rfl) (by kernel_rfl) (fun _ _ _ h => h) 35 #[.int .i64 3, .pointer (some ⟨w.heap.size, 0, none⟩)] ⟨by rfl, fun v hv => by clear hv; go_simp⟩ (fun v hv => G3.out v hv) hHeld ?_
  simp only [Act.put, List.setIfInBounds_toArray, List.set_cons_zero, List.set_cons_succ]
  refine take_at 27 38 (.agg #[.int .i64 y0, .int .i64 y1, .int .i64 x0, .int .i64 x2, .int .u64 (bN : Int), .int .i64 y2, .int .i64 y3]) _ rfl rfl (by kernel_rfl) (by kernel_rfl) (by kernel_rfl) (fun _ _ _ h => h) (Or.inl ⟨by rfl, fun v hv => by skip; clear hv; go_simp⟩) hHeld ?_
  simp only [Act.put, List.setIfInBounds_toArray, List.set_cons_zero, List.set_cons_succ]
  have HOv : Hid (Blk ((w.alloc (.cells #[.slice (some ⟨bk, off, none⟩) 5 cap] 22)).alloc (.cells #[.int .i64 0, .int .i64 0, .int .i64 0, .int .i64 0, .int .u64 0, .int .i64 0, .int .i64 0] 36)).drew (w.heap.size + 1) #[.int .i64 0, .int .i64 0, .int .i64 0, .int .i64 0, .int .u64 0, .int .i64 0, .int .i64 0] 36) := Blk.drew HO.out 1
  have HBv : Hid (Below w.heap.size w ((w.alloc (.cells #[.slice (some ⟨bk, off, none⟩) 5 cap] 22)).alloc (.cells #[.int .i64 0, .int .i64 0, .int .i64 0, .int .i64 0, .int .u64 0, .int .i64 0, .int .i64 0] 36)).drew) := bel_drew HB.out 1
  clear HO HX HB q0 G0 G1 G2 G3 hor hsh wx0 wx2 wx3 wx4
  generalize ((w.alloc (.cells #[.slice (some ⟨bk, off, none⟩) 5 cap] 22)).alloc (.cells #[.int .i64 0, .int .i64 0, .int .i64 0, .int .i64 0, .int .u64 0, .int .i64 0, .int .i64 0] 36)).drew = V at *
  have HL : Hid (bk < V.heap.size ∧ w.heap.size + 1 < V.heap.size) := ⟨World.block_lt_of_cell? V _ HR.out.c0, HOv.out.lt⟩
  have HR1 : Hid (Rs (V.alloc (.cells #[.int .i64 0, .int .i64 0, .int .i64 0, .int .i64 0, .int .u64 0, .int .i64 0, .int .i64 0] 36)) (w.heap.size) bk off cap x0 x1 x2 x3 x4) := HR.out.below ((Below.refl _ _).alloc (Nat.le_refl _) _)
  have HG1 : Hid (Blk (V.alloc (.cells #[.int .i64 0, .int .i64 0, .int .i64 0, .int .i64 0, .int .u64 0, .int .i64 0, .int .i64 0] 36)) V.heap.size #[.int .i64 0, .int .i64 0, .int .i64 0, .int .i64 0, .int .u64 0, .int .i64 0, .int .i64 0] 36) := Blk.new _ _ _
  have HO1 : Hid (Blk (V.alloc (.cells #[.int .i64 0, .int .i64 0, .int .i64 0, .int .i64 0, .int .u64 0, .int .i64 0, .int .i64 0] 36)) (w.heap.size + 1) #[.int .i64 0, .int .i64 0, .int .i64 0, .int .i64 0, .int .u64 0, .int .i64 0, .int .i64 0] 36) := HOv.out.alloc _
  have HB1 : Hid (Below w.heap.size w (V.alloc (.cells #[.int .i64 0, .int .i64 0, .int .i64 0, .int .i64 0, .int .u64 0, .int .i64 0, .int .i64 0] 36))) := HBv.out.alloc HBv.out.size _
  refine wpAnyH_ready (rs := [28]) (by kernel_rfl) (by simp) (AllReadyH.cons rfl (fun K hK => ?_) AllReadyH.nil)
  rw [if_pos (by rfl)]
  refine wp_runOp (v := .pointer (some ⟨V.heap.size, 0, none⟩)) (w' := V.alloc (.cells #[.int .i64 0, .int .i64 0, .int .i64 0, .int .i64 0, .int .u64 0, .int .i64 0, .int .i64 0] 36)) 5 rfl (by clear hK; go_simp) ?_
  simp only [Act.put, List.setIfInBounds_toArray, List.set_cons_zero, List.set_cons_succ]
  refine hK.out _ _ HR1.out (fun hHeld => ?_)
  clear hK HR HOv HBv
  refine wpAnyH_ready (rs := [29]) (by kernel_rfl) (by simp) (AllReadyH.cons rfl (fun K hK => ?_) AllReadyH.nil)
  rw [if_pos (by rfl)]
  refine wp_letOp 36 _ _ rfl V.heap.size rfl #[.int .i64 y0, .int .i64 y1, .int .i64 x0, .int .i64 x2, .int .u64 (bN : Int), .int .i64 y2, .int .i64 y3] rfl (by kernel_rfl) (by simp [Value.oneCell']) #[.int .i64 0, .int .i64 0, .int .i64 0, .int .i64 0, .int .u64 0, .int .i64 0, .int .i64 0] 36 HG1.out rfl rfl ?_
  intro WZ hUZ
  have hl := HL.out
  refine hK.out _ _ (HR1.out.upd hUZ (by omega) (by omega)) (fun hHeld => ?_)
  refine wpAnyH_done (by kernel_rfl) ?_ _
  have HG2 : Hid (Blk WZ V.heap.size #[.int .i64 y0, .int .i64 y1, .int .i64 x0, .int .i64 x2, .int .u64 (bN : Int), .int .i64 y2, .int .i64 y3] 36) := hUZ.blk
  have HO2 : Hid (Blk WZ (w.heap.size + 1) #[.int .i64 0, .int .i64 0, .int .i64 0, .int .i64 0, .int .u64 0, .int .i64 0, .int .i64 0] 36) := hUZ.keep HO1.out (by omega)
  have HB2 : Hid (Below w.heap.size w WZ) := hUZ.bel _ _ (by omega) HB1.out
  clear hUZ hK HR1 HG1 HO1 HB1 hHeld hl b0 b1 b2 b3 b4
  generalize V.heap.size = g at *
  go_wp2_with (first | (refine wp_whole rfl 36 _ rfl (g) rfl 36 #[.int .i64 y0, .int .i64 y1, .int .i64 x0, .int .i64 x2, .int .u64 (bN : Int), .int .i64 y2, .int .i64 y3] _ HG2.out Tryd.underlying36 rfl (by kernel_rfl) ?_) | fail)
  refine (HM.out _).mono ?_
  rintro e w3 ⟨r, rfl, hr, hb3⟩
  have HG3 : Hid (Blk w3 g #[.int .i64 y0, .int .i64 y1, .int .i64 x0, .int .i64 x2, .int .u64 (bN : Int), .int .i64 y2, .int .i64 y3] 36) := HG2.out.next hb3
  have HO3 : Hid (Blk w3 (w.heap.size + 1) #[.int .i64 0, .int .i64 0, .int .i64 0, .int .i64 0, .int .u64 0, .int .i64 0, .int .i64 0] 36) := HO2.out.next hb3
  have HB3 : Hid (Below w.heap.size w w3) := bel_step HB2.out hb3
  have HP : Hid (r = true ↔ P) := hr
  clear hr hb3 HG2 HO2 HB2 HM
  cases r with
  | false =>
    have HN : Hid (¬ P) := fun h => by have := HP.out.2 h; cases this
    clear HP
    go_wp2_with (first | (refine wp_letAll rfl 36 _ _ rfl (w.heap.size + 1) rfl #[.int .i64 0, .int .i64 0, .int .i64 0, .int .i64 0, .int .u64 0, .int .i64 0, .int .i64 0] rfl (by kernel_rfl) (by simp [Value.oneCell']) #[.int .i64 0, .int .i64 0, .int .i64 0, .int .i64 0, .int .u64 0, .int .i64 0, .int .i64 0] 36 HO3.out rfl ?_) | fail)
    intro WF hUF
    have HBF : Hid (Below w.heap.size w WF) := hUF.bel _ _ (by omega) HB3.out
    have R0 : Hid (WF.cell? ⟨w.heap.size + 1, 0, none⟩ = some (.int .i64 0)) := hUF.blk.cell 0
    have R1 : Hid (WF.cell? ⟨w.heap.size + 1, 1, none⟩ = some (.int .i64 0)) := hUF.blk.cell 1
    have R2 : Hid (WF.cell? ⟨w.heap.size + 1, 2, none⟩ = some (.int .i64 0)) := hUF.blk.cell 2
    have R3 : Hid (WF.cell? ⟨w.heap.size + 1, 3, none⟩ = some (.int .i64 0)) := hUF.blk.cell 3
    have R4 : Hid (WF.cell? ⟨w.heap.size + 1, 4, none⟩ = some (.int .u64 0)) := hUF.blk.cell 4
    have R5 : Hid (WF.cell? ⟨w.heap.size + 1, 5, none⟩ = some (.int .i64 0)) := hUF.blk.cell 5
    have R6 : Hid (WF.cell? ⟨w.heap.size + 1, 6, none⟩ = some (.int .i64 0)) := hUF.blk.cell 6
    clear hUF
    go_wp2_with fail
    exact bodyPost_ret (v := .tuple #[.agg #[.int .i64 0, .int .i64 0, .int .i64 0, .int .i64 0, .int .u64 0, .int .i64 0, .int .i64 0], .int .i64 5]) (by simp [results, Tryd.results15, R0.out, R1.out, R2.out, R3.out, R4.out, R5.out, R6.out, go_sem]) rfl ⟨HBF.out, .inr ⟨HN.out, rfl⟩⟩
  | true =>
    have HY : Hid P := HP.out.1 rfl
    clear HP
    go_wp2_with (first | (refine wp_whole rfl 36 _ rfl (g) rfl 36 #[.int .i64 y0, .int .i64 y1, .int .i64 x0, .int .i64 x2, .int .u64 (bN : Int), .int .i64 y2, .int .i64 y3] _ HG3.out Tryd.underlying36 rfl (by kernel_rfl) ?_) | (refine wp_letAll rfl 36 _ _ rfl (w.heap.size + 1) rfl #[.int .i64 y0, .int .i64 y1, .int .i64 x0, .int .i64 x2, .int .u64 (bN : Int), .int .i64 y2, .int .i64 y3] rfl (by kernel_rfl) (by simp [Value.oneCell']) #[.int .i64 0, .int .i64 0, .int .i64 0, .int .i64 0, .int .u64 0, .int .i64 0, .int .i64 0] 36 HO3.out rfl ?_) | fail)
    intro WF hUF
    have HBF : Hid (Below w.heap.size w WF) := hUF.bel _ _ (by omega) HB3.out
    have R0 : Hid (WF.cell? ⟨w.heap.size + 1, 0, none⟩ = some (.int .i64 y0)) := hUF.blk.cell 0
    have R1 : Hid (WF.cell? ⟨w.heap.size + 1, 1, none⟩ = some (.int .i64 y1)) := hUF.blk.cell 1
    have R2 : Hid (WF.cell? ⟨w.heap.size + 1, 2, none⟩ = some (.int .i64 x0)) := hUF.blk.cell 2
    have R3 : Hid (WF.cell? ⟨w.heap.size + 1, 3, none⟩ = some (.int .i64 x2)) := hUF.blk.cell 3
    have R4 : Hid (WF.cell? ⟨w.heap.size + 1, 4, none⟩ = some (.int .u64 (bN : Int))) := hUF.blk.cell 4
    have R5 : Hid (WF.cell? ⟨w.heap.size + 1, 5, none⟩ = some (.int .i64 y2)) := hUF.blk.cell 5
    have R6 : Hid (WF.cell? ⟨w.heap.size + 1, 6, none⟩ = some (.int .i64 y3)) := hUF.blk.cell 6
    clear hUF
    go_wp2_with fail
    exact bodyPost_ret (v := .tuple #[.agg #[.int .i64 y0, .int .i64 y1, .int .i64 x0, .int .i64 x2, .int .u64 (bN : Int), .int .i64 y2, .int .i64 y3], .int .i64 0]) (by simp [results, Tryd.results15, R0.out, R1.out, R2.out, R3.out, R4.out, R5.out, R6.out, go_sem]) rfl ⟨HBF.out, .inl ⟨HY.out, rfl⟩⟩
theorem pread (a : Option Addr) (n cap : Nat) (l : List Int) (w : World) (hr : RowU w a n l) (hl : ∀ x ∈ l, 0 ≤ x ∧ x < 4294967296) : Calls Tryd.prog 15 #[.slice a n cap] w fun e w' => ReadPost w l e w' := by
  by_cases h5 : n = 5
  · subst h5
    obtain ⟨bk, off, rfl, hlt, hc⟩ := hr.at (by decide)
    have hlen := hr.1
    have e := list5 hlen
    have hb : Below w.heap.size w ((w.alloc (.cells #[.slice (some ⟨bk, off, none⟩) 5 cap] 22)).alloc (.cells #[.int .i64 0, .int .i64 0, .int .i64 0, .int .i64 0, .int .u64 0, .int .i64 0, .int .i64 0] 36)) := ((Below.refl _ _).alloc (Nat.le_refl _) _).alloc (by simp) _
    have B : ∀ i, i < 5 → 0 ≤ l.getD i 0 ∧ l.getD i 0 < 4294967296 := fun i hi => hl _ (by rw [List.getD_eq_getElem?_getD, List.getElem?_eq_getElem (by omega)]; exact List.getElem_mem _)
    have hX : Blk ((w.alloc (.cells #[.slice (some ⟨bk, off, none⟩) 5 cap] 22)).alloc (.cells #[.int .i64 0, .int .i64 0, .int .i64 0, .int .i64 0, .int .u64 0, .int .i64 0, .int .i64 0] 36)) (w.heap.size) #[.slice (some ⟨bk, off, none⟩) 5 cap] 22 := (Blk.new _ _ _).alloc _
    have cc : ∀ i, i < 5 → ((w.alloc (.cells #[.slice (some ⟨bk, off, none⟩) 5 cap] 22)).alloc (.cells #[.int .i64 0, .int .i64 0, .int .i64 0, .int .i64 0, .int .u64 0, .int .i64 0, .int .i64 0] 36)).cell? ⟨bk, off + i, none⟩ = some (.int .u32 (l.getD i 0)) := fun i hi => by rw [hb.cell (p := ⟨bk, off + i, none⟩) hlt]; exact hc i hi
    have hRs : Rs ((w.alloc (.cells #[.slice (some ⟨bk, off, none⟩) 5 cap] 22)).alloc (.cells #[.int .i64 0, .int .i64 0, .int .i64 0, .int .i64 0, .int .u64 0, .int .i64 0, .int .i64 0] 36)) (w.heap.size) bk off cap (l.getD 0 0) (l.getD 1 0) (l.getD 2 0) (l.getD 3 0) (l.getD 4 0) := ⟨hX.cell 0, cc 0 (by decide), cc 1 (by decide), cc 2 (by decide), cc 3 (by decide), cc 4 (by decide)⟩
    have hbN : (rdL l).b < 18446744073709551616 := by
      have h3 := B 3 (by decide); have h4 := B 4 (by decide)
      unfold rdL rd; simp only []; omega
    refine (pread_five bk off cap _ _ _ _ _ (rdL l).me (rdL l).rev (rdL l).bad (rdL l).lock (rdL l).b (rdL l).may w hRs (B 0 (by decide)) (B 1 (by decide)) (B 2 (by decide)) (B 3 (by decide)) (B 4 (by decide)) rfl rfl rfl rfl rfl (fun W => pmay_any (rdL l) W hbN)).mono ?_
    rintro e w' ⟨hB, ⟨hp, rfl⟩ | ⟨hp, rfl⟩⟩
    · exact ⟨rdL l, 0, rfl, .ok (by simpa using hlen) hp, hB⟩
    · exact ⟨mt0, 5, rfl, .state (by simpa using hlen) hp, hB⟩
  · exact pread_size a n cap l w hr.1 h5
theorem kread {I : World → Prop} : KRead I := fun W a n cap l _ hr _ hl => pread a n cap l W hr hl

end Go.Proofs.YtgipkpkjoicehabDoor.met
