/- What (*Int).Mul and (*Int).Add make. -/
import Derived.Test.YtlicdeppfhmfjaaGreatDoorBigMul
namespace Go.Proofs.YtlicdeppfhmfjaaGreatDoor.words
open Go.RowKit
set_option maxRecDepth 100000

theorem Bg.parts {w : World} {z m : Nat} (h : Bg w z m) : ∃ a n c, w.cell? ⟨z, 0, none⟩ = some (.bool false) ∧ w.cell? ⟨z, 1, none⟩ = some (.slice a n c) ∧ Ru w a n c (dig m) := by
  obtain ⟨a, n, c, h1, h2⟩ := h
  obtain ⟨c0, c1, _, _⟩ := ob_cells h1
  exact ⟨a, n, c, c0, c1, h2⟩

/-- What a number's operation leaves: z is r; all else stands. -/
def OpPost (w : World) (z r : Nat) (e : Ending) (w' : World) : Prop := e = .returned (.pointer (some ⟨z, 0, none⟩)) ∧ Bg w' z r ∧ Ex w w' z

theorem cell_bel {w w1 : World} {p : Addr} {v : Value} (hb : Below w.heap.size w w1) (h : w.cell? p = some v) : w1.cell? p = some v := (hb.cell (World.block_lt_of_cell? w p h)).trans h
theorem cell_ex {w w1 : World} {z y i : Nat} {v : Value} (he : Ex w w1 z) (h : w.cell? ⟨y, i, none⟩ = some v) (hne : y ≠ z) : w1.cell? ⟨y, i, none⟩ = some v :=
  (World.cell?_of_block (w := w) (a := ⟨y, i, none⟩) (he.block y (World.block_lt_of_cell? w _ h) hne)).trans h

/-- Behind 'give' no number is below 0. -/
theorem neg_ex {w w1 : World} {z x : Nat} {v u : Value} (he : Ex w w1 z) (hz : w1.heap[z]? = some (.cells #[.bool false, u] 104 (0, 0))) (h : w.cell? ⟨x, 0, none⟩ = some v) (hv : v = .bool false) : w1.cell? ⟨x, 0, none⟩ = some (.bool false) := by
  subst hv
  by_cases e : x = z
  · subst e; exact (ob_cells hz).1
  · exact cell_ex he h e

/-- A sum's words, and that it is not below 0. -/
def SumGives (w : World) (m : Nat) (e : Ending) (w' : World) : Prop := ∃ a n cap, e = .returned (.tuple #[.bool false, .slice a n cap]) ∧ Ru w' a n cap (dig m) ∧ Below w.heap.size w w'
theorem SumGives.mk {w w' : World} {m n cap : Nat} {a : Option Addr} (h1 : Ru w' a n cap (dig m)) (h2 : Below w.heap.size w w') : SumGives w m (.returned (.tuple #[.bool false, .slice a n cap])) w' := ⟨a, n, cap, rfl, h1, h2⟩

theorem sum_plus (a b : Option Addr) (n k ca cb : Nat) (la lb : List Nat) (w : World) (ha : Ru w a n ca la) (hb : Ru w b k cb lb) (hn : n ≤ 100) (hk : k ≤ 100) :
    Calls Tryz.prog 104 #[.bool false, .slice a n ca, .bool false, .slice b k cb] w fun e w' => SumGives w (nv la + nv lb) e w' := by
  have hq : (false == false) = true := rfl
  have HA : Hid (Calls Tryz.prog 145 #[.slice a n ca, .slice b k cb] w fun e w' => Gives w (nv la + nv lb) e w') := add_any a b n k ca cb la lb w ha hb hn hk
  clear ha hb
  go_enter Tryz.func104, Tryz.ntmps104
  go_wp2_with fail
  refine HA.out.mono ?_
  rintro e w1 ⟨a3, n3, c3, rfl, hr, hb⟩
  have HG : Hid (SumGives w (nv la + nv lb) (.returned (.tuple #[.bool false, .slice a3 n3 c3])) w1) := SumGives.mk hr hb
  clear hr hb
  go_wp2_with fail
  go_ret2
  exact HG.out

set_option maxHeartbeats 4000000 in
theorem Mul_any (z x y m k : Nat) (w : World) (hx : Bg w x m) (hy : Bg w y k) (hz : Ob w z) (hyz : y ≠ z) (hm : (dig m).length ≤ 100) (hk : (dig k).length ≤ 100) :
    Calls Tryz.prog 64 #[.pointer (some ⟨z, 0, none⟩), .pointer (some ⟨x, 0, none⟩), .pointer (some ⟨y, 0, none⟩)] w fun e w' => OpPost w z (m * k) e w' := by
  obtain ⟨xa, xn, xc, x0, x1, xr⟩ := hx.parts
  obtain ⟨ya, yn, yc, y0, y1, yr⟩ := hy.parts
  have hne : (false != false) = false := rfl
  have HM : Hid (∀ w', Below w.heap.size w w' → Calls Tryz.prog 102 #[.slice xa xn xc, .slice ya yn yc] w' fun e w'' => Gives w' (m * k) e w'') := fun w' hb => by
    have := mul_any xa ya xn yn xc yc _ _ w' (xr.below hb) (yr.below hb) (by rw [← xr.len]; exact hm) (by rw [← yr.len]; exact hk)
    rwa [nv_dig, nv_dig] at this
  have HZ : Hid (Ob w z) := hz
  have KW : Hid (Below w.heap.size w w.drew) := (Below.refl _ w).drew
  have KS : Hid (w.drew.cell? ⟨x, 0, none⟩ = some (.bool false) ∧ w.drew.cell? ⟨y, 0, none⟩ = some (.bool false) ∧ w.drew.cell? ⟨y, 1, none⟩ = some (.slice ya yn yc)) := ⟨x0, y0, y1⟩
  clear hx hy hz xr yr hm hk
  go_enter Tryz.func64, Tryz.ntmps64
  go_wp2_with fail
  refine wp_region_held_drew (S := fun w1 => w1.cell? ⟨x, 0, none⟩ = some (.bool false) ∧ w1.cell? ⟨y, 0, none⟩ = some (.bool false) ∧ w1.cell? ⟨y, 1, none⟩ = some (.slice ya yn yc)) (by kernel_rfl) KS.out ?_
  intro hS0
  refine wpAnyH_take (i := 0) (v := ?v1) rfl (by kernel_rfl) (by kernel_rfl) (by kernel_rfl) (fun _ _ _ h => h) (Or.inl ⟨by rfl, ?y1⟩) (by assumption) ?_
  case y1 => (intro w hSw; (try dsimp only at hSw); go_simp; try (with_reducible rfl))
  try simp only [Act.put]
  try simp only [List.setIfInBounds_toArray]
  try simp only [List.set_cons_succ]
  try simp only [List.set_cons_zero]
  refine wpAnyH_take (i := 1) (v := ?v2) rfl (by kernel_rfl) (by kernel_rfl) (by kernel_rfl) (fun _ _ _ h => h) (Or.inl ⟨by rfl, ?y2⟩) (by assumption) ?_
  case y2 => (intro w hSw; (try dsimp only at hSw); go_simp; try (with_reducible rfl))
  try simp only [Act.put]
  try simp only [List.setIfInBounds_toArray]
  try simp only [List.set_cons_succ]
  try simp only [List.set_cons_zero]
  refine wpAnyH_take (i := 2) (v := ?v3) rfl (by kernel_rfl) (by kernel_rfl) (by kernel_rfl) (fun _ _ _ h => h) (Or.inl ⟨by rfl, ?y3⟩) (by assumption) ?_
  case y3 => (intro w hSw; (try dsimp only at hSw); go_simp; try (with_reducible rfl))
  try simp only [Act.put]
  try simp only [List.setIfInBounds_toArray]
  try simp only [List.set_cons_succ]
  try simp only [List.set_cons_zero]
  refine wpAnyH_take (i := 3) (v := ?v4) rfl (by kernel_rfl) (by kernel_rfl) (by kernel_rfl) (fun _ _ _ h => h) (Or.inl ⟨by rfl, ?y4⟩) (by assumption) ?_
  case y4 => (intro w hSw; (try dsimp only at hSw); go_simp; try (with_reducible rfl))
  try simp only [Act.put]
  try simp only [List.setIfInBounds_toArray]
  try simp only [List.set_cons_succ]
  try simp only [List.set_cons_zero]
  refine wpAnyH_take (i := 4) (v := ?v5) rfl (by kernel_rfl) (by kernel_rfl) (by kernel_rfl) (fun _ _ _ h => h) (Or.inl ⟨by rfl, ?y5⟩) (by assumption) ?_
  case y5 => (intro w hSw; (try dsimp only at hSw); go_simp; try (with_reducible rfl))
  try simp only [Act.put]
  try simp only [List.setIfInBounds_toArray]
  try simp only [List.set_cons_succ]
  try simp only [List.set_cons_zero]
  refine wpAnyH_take (i := 5) (v := ?v6) rfl (by kernel_rfl) (by kernel_rfl) (by kernel_rfl) (fun _ _ _ h => h) (Or.inl ⟨by rfl, ?y6⟩) (by assumption) ?_
  case y6 => (intro w hSw; (try dsimp only at hSw); go_simp; try (with_reducible rfl))
  try simp only [Act.put]
  try simp only [List.setIfInBounds_toArray]
  try simp only [List.set_cons_succ]
  try simp only [List.set_cons_zero]
  refine wpAnyH_take (i := 6) (v := ?v7) rfl (by kernel_rfl) (by kernel_rfl) (by kernel_rfl) (fun _ _ _ h => h) (Or.inl ⟨by rfl, ?y7⟩) (by assumption) ?_
  case y7 => (intro w hSw; (try dsimp only at hSw); go_simp; try (with_reducible rfl))
  try simp only [Act.put]
  try simp only [List.setIfInBounds_toArray]
  try simp only [List.set_cons_succ]
  try simp only [List.set_cons_zero]
  refine wpAnyH_take (i := 7) (v := ?v8) rfl (by kernel_rfl) (by kernel_rfl) (by kernel_rfl) (fun _ _ _ h => h) (Or.inl ⟨by rfl, ?y8⟩) (by assumption) ?_
  case y8 => (intro w hSw; (try dsimp only at hSw); go_simp; try (with_reducible rfl))
  try simp only [Act.put]
  try simp only [List.setIfInBounds_toArray]
  try simp only [List.set_cons_succ]
  try simp only [List.set_cons_zero]
  refine wpAnyH_take (i := 8) (v := ?v9) rfl (by kernel_rfl) (by kernel_rfl) (by kernel_rfl) (fun _ _ _ h => h) (Or.inl ⟨by rfl, ?y9⟩) (by assumption) ?_
  case y9 => (intro w hSw; (try dsimp only at hSw); go_simp; try (with_reducible rfl))
  try simp only [Act.put]
  try simp only [List.setIfInBounds_toArray]
  try simp only [List.set_cons_succ]
  try simp only [List.set_cons_zero]
  refine wpAnyH_take (i := 9) (v := ?v10) rfl (by kernel_rfl) (by kernel_rfl) (by kernel_rfl) (fun _ _ _ h => h) (Or.inl ⟨by rfl, ?y10⟩) (by assumption) ?_
  case y10 => (intro w hSw; (try dsimp only at hSw); go_simp; try (with_reducible rfl))
  try simp only [Act.put]
  try simp only [List.setIfInBounds_toArray]
  try simp only [List.set_cons_succ]
  try simp only [List.set_cons_zero]
  refine wpAnyH_take (i := 10) (v := ?v11) rfl (by kernel_rfl) (by kernel_rfl) (by kernel_rfl) (fun _ _ _ h => h) (Or.inl ⟨by rfl, ?y11⟩) (by assumption) ?_
  case y11 => (intro w hSw; (try dsimp only at hSw); go_simp; try (with_reducible rfl))
  try simp only [Act.put]
  try simp only [List.setIfInBounds_toArray]
  try simp only [List.set_cons_succ]
  try simp only [List.set_cons_zero]
  refine wpAnyH_take (i := 11) (v := ?v12) rfl (by kernel_rfl) (by kernel_rfl) (by kernel_rfl) (fun _ _ _ h => h) (Or.inl ⟨by rfl, ?y12⟩) (by assumption) ?_
  case y12 => (intro w hSw; (try dsimp only at hSw); go_simp; try (with_reducible rfl))
  try simp only [Act.put]
  try simp only [List.setIfInBounds_toArray]
  try simp only [List.set_cons_succ]
  try simp only [List.set_cons_zero]
  refine wpAnyH_take (i := 12) (v := ?v13) rfl (by kernel_rfl) (by kernel_rfl) (by kernel_rfl) (fun _ _ _ h => h) (Or.inl ⟨by rfl, ?y13⟩) (by assumption) ?_
  case y13 => (intro w hSw; (try dsimp only at hSw); go_simp; try (with_reducible rfl))
  try simp only [Act.put]
  try simp only [List.setIfInBounds_toArray]
  try simp only [List.set_cons_succ]
  try simp only [List.set_cons_zero]
  refine wpAnyH_take (i := 14) (v := ?v14) rfl (by kernel_rfl) (by kernel_rfl) (by kernel_rfl) (fun _ _ _ h => h) (Or.inl ⟨by rfl, ?y14⟩) (by assumption) ?_
  case y14 => (intro w hSw; (try dsimp only at hSw); go_simp; try (with_reducible rfl))
  try simp only [Act.put]
  try simp only [List.setIfInBounds_toArray]
  try simp only [List.set_cons_succ]
  try simp only [List.set_cons_zero]
  refine wpAnyH_take (i := 15) (v := ?v15) rfl (by kernel_rfl) (by kernel_rfl) (by kernel_rfl) (fun _ _ _ h => h) (Or.inl ⟨by rfl, ?y15⟩) (by assumption) ?_
  case y15 => (intro w hSw; (try dsimp only at hSw); go_simp; try (with_reducible rfl))
  try simp only [Act.put]
  try simp only [List.setIfInBounds_toArray]
  try simp only [List.set_cons_succ]
  try simp only [List.set_cons_zero]
  refine wpAnyH_take (i := 16) (v := ?v16) rfl (by kernel_rfl) (by kernel_rfl) (by kernel_rfl) (fun _ _ _ h => h) (Or.inl ⟨by rfl, ?y16⟩) (by assumption) ?_
  case y16 => (intro w hSw; (try dsimp only at hSw); go_simp; try (with_reducible rfl))
  try simp only [Act.put]
  try simp only [List.setIfInBounds_toArray]
  try simp only [List.set_cons_succ]
  try simp only [List.set_cons_zero]
  refine wpAnyH_take (i := 17) (v := ?v17) rfl (by kernel_rfl) (by kernel_rfl) (by kernel_rfl) (fun _ _ _ h => h) (Or.inl ⟨by rfl, ?y17⟩) (by assumption) ?_
  case y17 => (intro w hSw; (try dsimp only at hSw); go_simp; try (with_reducible rfl))
  try simp only [Act.put]
  try simp only [List.setIfInBounds_toArray]
  try simp only [List.set_cons_succ]
  try simp only [List.set_cons_zero]
  refine wpAnyH_ready (rs := [13]) (by kernel_rfl) (by simp) ?_
  refine AllReadyH.cons rfl (fun K hK => ?_) AllReadyH.nil
  go_simp
  refine hK.out _ _ KS.out (fun hHeld => ?_)
  clear hK K
  refine wpAnyH_ready (rs := [18]) (by kernel_rfl) (by simp) ?_
  refine AllReadyH.cons rfl (fun K hK => ?_) AllReadyH.nil
  go_simp
  go_wp2_with fail
  refine (HM.out _ KW.out).mono ?_
  rintro e w1 ⟨ra, rn, rc, rfl, hr, hb⟩
  have B1 : Hid (Below w.heap.size w w1) := KW.out.trans (hb.mono KW.out.size)
  have K1 : Hid (w1.cell? ⟨x, 0, none⟩ = some (.bool false) ∧ w1.cell? ⟨y, 0, none⟩ = some (.bool false) ∧ w1.cell? ⟨y, 1, none⟩ = some (.slice ya yn yc)) := ⟨cell_bel hb KS.out.1, cell_bel hb KS.out.2.1, cell_bel hb KS.out.2.2⟩
  have R1 : Hid (Ru w1 ra rn rc (dig (m * k))) := hr
  clear hb hr
  try go_simp
  refine hK.out _ _ K1.out (fun hHeld => ?_)
  clear hK K
  refine wpAnyH_ready (rs := [19]) (by kernel_rfl) (by simp) ?_
  refine AllReadyH.cons rfl (fun K hK => ?_) AllReadyH.nil
  go_simp
  go_wp2_with fail
  refine (give_any z _ _ _ _ (HZ.out.below B1.out)).mono ?_
  rintro e w2 ⟨rfl, h2, hex⟩
  have K2 : Hid (w2.cell? ⟨x, 0, none⟩ = some (.bool false) ∧ w2.cell? ⟨y, 0, none⟩ = some (.bool false) ∧ w2.cell? ⟨y, 1, none⟩ = some (.slice ya yn yc)) := ⟨neg_ex hex h2 K1.out.1 rfl, cell_ex hex K1.out.2.1 hyz, cell_ex hex K1.out.2.2 hyz⟩
  have F2 : Hid (Bg w2 z (m * k) ∧ Ex w w2 z) := ⟨⟨_, _, _, h2, R1.out.ex (HZ.out.below B1.out) hex⟩, Ex.of B1.out hex⟩
  clear h2 hex
  try go_simp
  refine hK.out _ _ K2.out (fun hHeld => ?_)
  clear hK K
  refine wpAnyH_ready (rs := [20]) (by kernel_rfl) (by simp) ?_
  refine AllReadyH.cons rfl (fun K hK => ?_) AllReadyH.nil
  go_simp
  refine hK.out _ _ K2.out (fun hHeld => ?_)
  clear hK K
  refine wpAnyH_done (by kernel_rfl) ?_ _
  go_wp2_with fail
  go_ret
  exact ⟨rfl, F2.out.1, F2.out.2⟩

set_option maxHeartbeats 4000000 in
theorem Add_any (z x y m k : Nat) (w : World) (hx : Bg w x m) (hy : Bg w y k) (hz : Ob w z) (hyz : y ≠ z) (hm : (dig m).length ≤ 100) (hk : (dig k).length ≤ 100) :
    Calls Tryz.prog 66 #[.pointer (some ⟨z, 0, none⟩), .pointer (some ⟨x, 0, none⟩), .pointer (some ⟨y, 0, none⟩)] w fun e w' => OpPost w z (m + k) e w' := by
  obtain ⟨xa, xn, xc, x0, x1, xr⟩ := hx.parts
  obtain ⟨ya, yn, yc, y0, y1, yr⟩ := hy.parts
  have hne : (false != false) = false := rfl
  have HM : Hid (∀ w', Below w.heap.size w w' → Calls Tryz.prog 104 #[.bool false, .slice xa xn xc, .bool false, .slice ya yn yc] w' fun e w'' => SumGives w' (m + k) e w'') := fun w' hb => by
    have := sum_plus xa ya xn yn xc yc _ _ w' (xr.below hb) (yr.below hb) (by rw [← xr.len]; exact hm) (by rw [← yr.len]; exact hk)
    rwa [nv_dig, nv_dig] at this
  have HZ : Hid (Ob w z) := hz
  have KW : Hid (Below w.heap.size w w.drew) := (Below.refl _ w).drew
  have KS : Hid (w.drew.cell? ⟨x, 0, none⟩ = some (.bool false) ∧ w.drew.cell? ⟨y, 0, none⟩ = some (.bool false) ∧ w.drew.cell? ⟨y, 1, none⟩ = some (.slice ya yn yc)) := ⟨x0, y0, y1⟩
  clear hx hy hz xr yr hm hk
  go_enter Tryz.func66, Tryz.ntmps66
  go_wp2_with fail
  refine wp_region_held_drew (S := fun w1 => w1.cell? ⟨x, 0, none⟩ = some (.bool false) ∧ w1.cell? ⟨y, 0, none⟩ = some (.bool false) ∧ w1.cell? ⟨y, 1, none⟩ = some (.slice ya yn yc)) (by kernel_rfl) KS.out ?_
  intro hS0
  refine wpAnyH_take (i := 0) (v := ?v18) rfl (by kernel_rfl) (by kernel_rfl) (by kernel_rfl) (fun _ _ _ h => h) (Or.inl ⟨by rfl, ?y18⟩) (by assumption) ?_
  case y18 => (intro w hSw; (try dsimp only at hSw); go_simp; try (with_reducible rfl))
  try simp only [Act.put]
  try simp only [List.setIfInBounds_toArray]
  try simp only [List.set_cons_succ]
  try simp only [List.set_cons_zero]
  refine wpAnyH_take (i := 1) (v := ?v19) rfl (by kernel_rfl) (by kernel_rfl) (by kernel_rfl) (fun _ _ _ h => h) (Or.inl ⟨by rfl, ?y19⟩) (by assumption) ?_
  case y19 => (intro w hSw; (try dsimp only at hSw); go_simp; try (with_reducible rfl))
  try simp only [Act.put]
  try simp only [List.setIfInBounds_toArray]
  try simp only [List.set_cons_succ]
  try simp only [List.set_cons_zero]
  refine wpAnyH_take (i := 2) (v := ?v20) rfl (by kernel_rfl) (by kernel_rfl) (by kernel_rfl) (fun _ _ _ h => h) (Or.inl ⟨by rfl, ?y20⟩) (by assumption) ?_
  case y20 => (intro w hSw; (try dsimp only at hSw); go_simp; try (with_reducible rfl))
  try simp only [Act.put]
  try simp only [List.setIfInBounds_toArray]
  try simp only [List.set_cons_succ]
  try simp only [List.set_cons_zero]
  refine wpAnyH_take (i := 3) (v := ?v21) rfl (by kernel_rfl) (by kernel_rfl) (by kernel_rfl) (fun _ _ _ h => h) (Or.inl ⟨by rfl, ?y21⟩) (by assumption) ?_
  case y21 => (intro w hSw; (try dsimp only at hSw); go_simp; try (with_reducible rfl))
  try simp only [Act.put]
  try simp only [List.setIfInBounds_toArray]
  try simp only [List.set_cons_succ]
  try simp only [List.set_cons_zero]
  refine wpAnyH_take (i := 4) (v := ?v22) rfl (by kernel_rfl) (by kernel_rfl) (by kernel_rfl) (fun _ _ _ h => h) (Or.inl ⟨by rfl, ?y22⟩) (by assumption) ?_
  case y22 => (intro w hSw; (try dsimp only at hSw); go_simp; try (with_reducible rfl))
  try simp only [Act.put]
  try simp only [List.setIfInBounds_toArray]
  try simp only [List.set_cons_succ]
  try simp only [List.set_cons_zero]
  refine wpAnyH_take (i := 5) (v := ?v23) rfl (by kernel_rfl) (by kernel_rfl) (by kernel_rfl) (fun _ _ _ h => h) (Or.inl ⟨by rfl, ?y23⟩) (by assumption) ?_
  case y23 => (intro w hSw; (try dsimp only at hSw); go_simp; try (with_reducible rfl))
  try simp only [Act.put]
  try simp only [List.setIfInBounds_toArray]
  try simp only [List.set_cons_succ]
  try simp only [List.set_cons_zero]
  refine wpAnyH_take (i := 6) (v := ?v24) rfl (by kernel_rfl) (by kernel_rfl) (by kernel_rfl) (fun _ _ _ h => h) (Or.inl ⟨by rfl, ?y24⟩) (by assumption) ?_
  case y24 => (intro w hSw; (try dsimp only at hSw); go_simp; try (with_reducible rfl))
  try simp only [Act.put]
  try simp only [List.setIfInBounds_toArray]
  try simp only [List.set_cons_succ]
  try simp only [List.set_cons_zero]
  refine wpAnyH_take (i := 7) (v := ?v25) rfl (by kernel_rfl) (by kernel_rfl) (by kernel_rfl) (fun _ _ _ h => h) (Or.inl ⟨by rfl, ?y25⟩) (by assumption) ?_
  case y25 => (intro w hSw; (try dsimp only at hSw); go_simp; try (with_reducible rfl))
  try simp only [Act.put]
  try simp only [List.setIfInBounds_toArray]
  try simp only [List.set_cons_succ]
  try simp only [List.set_cons_zero]
  refine wpAnyH_take (i := 9) (v := ?v26) rfl (by kernel_rfl) (by kernel_rfl) (by kernel_rfl) (fun _ _ _ h => h) (Or.inl ⟨by rfl, ?y26⟩) (by assumption) ?_
  case y26 => (intro w hSw; (try dsimp only at hSw); go_simp; try (with_reducible rfl))
  try simp only [Act.put]
  try simp only [List.setIfInBounds_toArray]
  try simp only [List.set_cons_succ]
  try simp only [List.set_cons_zero]
  refine wpAnyH_take (i := 10) (v := ?v27) rfl (by kernel_rfl) (by kernel_rfl) (by kernel_rfl) (fun _ _ _ h => h) (Or.inl ⟨by rfl, ?y27⟩) (by assumption) ?_
  case y27 => (intro w hSw; (try dsimp only at hSw); go_simp; try (with_reducible rfl))
  try simp only [Act.put]
  try simp only [List.setIfInBounds_toArray]
  try simp only [List.set_cons_succ]
  try simp only [List.set_cons_zero]
  refine wpAnyH_take (i := 11) (v := ?v28) rfl (by kernel_rfl) (by kernel_rfl) (by kernel_rfl) (fun _ _ _ h => h) (Or.inl ⟨by rfl, ?y28⟩) (by assumption) ?_
  case y28 => (intro w hSw; (try dsimp only at hSw); go_simp; try (with_reducible rfl))
  try simp only [Act.put]
  try simp only [List.setIfInBounds_toArray]
  try simp only [List.set_cons_succ]
  try simp only [List.set_cons_zero]
  refine wpAnyH_take (i := 12) (v := ?v29) rfl (by kernel_rfl) (by kernel_rfl) (by kernel_rfl) (fun _ _ _ h => h) (Or.inl ⟨by rfl, ?y29⟩) (by assumption) ?_
  case y29 => (intro w hSw; (try dsimp only at hSw); go_simp; try (with_reducible rfl))
  try simp only [Act.put]
  try simp only [List.setIfInBounds_toArray]
  try simp only [List.set_cons_succ]
  try simp only [List.set_cons_zero]
  refine wpAnyH_take (i := 13) (v := ?v30) rfl (by kernel_rfl) (by kernel_rfl) (by kernel_rfl) (fun _ _ _ h => h) (Or.inl ⟨by rfl, ?y30⟩) (by assumption) ?_
  case y30 => (intro w hSw; (try dsimp only at hSw); go_simp; try (with_reducible rfl))
  try simp only [Act.put]
  try simp only [List.setIfInBounds_toArray]
  try simp only [List.set_cons_succ]
  try simp only [List.set_cons_zero]
  refine wpAnyH_take (i := 14) (v := ?v31) rfl (by kernel_rfl) (by kernel_rfl) (by kernel_rfl) (fun _ _ _ h => h) (Or.inl ⟨by rfl, ?y31⟩) (by assumption) ?_
  case y31 => (intro w hSw; (try dsimp only at hSw); go_simp; try (with_reducible rfl))
  try simp only [Act.put]
  try simp only [List.setIfInBounds_toArray]
  try simp only [List.set_cons_succ]
  try simp only [List.set_cons_zero]
  refine wpAnyH_take (i := 15) (v := ?v32) rfl (by kernel_rfl) (by kernel_rfl) (by kernel_rfl) (fun _ _ _ h => h) (Or.inl ⟨by rfl, ?y32⟩) (by assumption) ?_
  case y32 => (intro w hSw; (try dsimp only at hSw); go_simp; try (with_reducible rfl))
  try simp only [Act.put]
  try simp only [List.setIfInBounds_toArray]
  try simp only [List.set_cons_succ]
  try simp only [List.set_cons_zero]
  refine wpAnyH_take (i := 16) (v := ?v33) rfl (by kernel_rfl) (by kernel_rfl) (by kernel_rfl) (fun _ _ _ h => h) (Or.inl ⟨by rfl, ?y33⟩) (by assumption) ?_
  case y33 => (intro w hSw; (try dsimp only at hSw); go_simp; try (with_reducible rfl))
  try simp only [Act.put]
  try simp only [List.setIfInBounds_toArray]
  try simp only [List.set_cons_succ]
  try simp only [List.set_cons_zero]
  refine wpAnyH_ready (rs := [8]) (by kernel_rfl) (by simp) ?_
  refine AllReadyH.cons rfl (fun K hK => ?_) AllReadyH.nil
  go_simp
  refine hK.out _ _ KS.out (fun hHeld => ?_)
  clear hK K
  refine wpAnyH_ready (rs := [17]) (by kernel_rfl) (by simp) ?_
  refine AllReadyH.cons rfl (fun K hK => ?_) AllReadyH.nil
  go_simp
  go_wp2_with fail
  refine (HM.out _ KW.out).mono ?_
  rintro e w1 ⟨ra, rn, rc, rfl, hr, hb⟩
  have B1 : Hid (Below w.heap.size w w1) := KW.out.trans (hb.mono KW.out.size)
  have K1 : Hid (w1.cell? ⟨x, 0, none⟩ = some (.bool false) ∧ w1.cell? ⟨y, 0, none⟩ = some (.bool false) ∧ w1.cell? ⟨y, 1, none⟩ = some (.slice ya yn yc)) := ⟨cell_bel hb KS.out.1, cell_bel hb KS.out.2.1, cell_bel hb KS.out.2.2⟩
  have R1 : Hid (Ru w1 ra rn rc (dig (m + k))) := hr
  clear hb hr
  try go_simp
  refine hK.out _ _ K1.out (fun hHeld => ?_)
  clear hK K
  refine wpAnyH_take (i := 18) (v := ?v34) rfl (by kernel_rfl) (by kernel_rfl) (by kernel_rfl) (fun _ _ _ h => h) (Or.inl ⟨by rfl, ?y34⟩) (by assumption) ?_
  case y34 => (intro w hSw; (try dsimp only at hSw); go_simp; try (with_reducible rfl))
  try simp only [Act.put]
  try simp only [List.setIfInBounds_toArray]
  try simp only [List.set_cons_succ]
  try simp only [List.set_cons_zero]
  refine wpAnyH_take (i := 19) (v := ?v35) rfl (by kernel_rfl) (by kernel_rfl) (by kernel_rfl) (fun _ _ _ h => h) (Or.inl ⟨by rfl, ?y35⟩) (by assumption) ?_
  case y35 => (intro w hSw; (try dsimp only at hSw); go_simp; try (with_reducible rfl))
  try simp only [Act.put]
  try simp only [List.setIfInBounds_toArray]
  try simp only [List.set_cons_succ]
  try simp only [List.set_cons_zero]
  refine wpAnyH_ready (rs := [20]) (by kernel_rfl) (by simp) ?_
  refine AllReadyH.cons rfl (fun K hK => ?_) AllReadyH.nil
  go_simp
  go_wp2_with fail
  refine (give_any z _ _ _ _ (HZ.out.below B1.out)).mono ?_
  rintro e w2 ⟨rfl, h2, hex⟩
  have K2 : Hid (w2.cell? ⟨x, 0, none⟩ = some (.bool false) ∧ w2.cell? ⟨y, 0, none⟩ = some (.bool false) ∧ w2.cell? ⟨y, 1, none⟩ = some (.slice ya yn yc)) := ⟨neg_ex hex h2 K1.out.1 rfl, cell_ex hex K1.out.2.1 hyz, cell_ex hex K1.out.2.2 hyz⟩
  have F2 : Hid (Bg w2 z (m + k) ∧ Ex w w2 z) := ⟨⟨_, _, _, h2, R1.out.ex (HZ.out.below B1.out) hex⟩, Ex.of B1.out hex⟩
  clear h2 hex
  try go_simp
  refine hK.out _ _ K2.out (fun hHeld => ?_)
  clear hK K
  refine wpAnyH_ready (rs := [21]) (by kernel_rfl) (by simp) ?_
  refine AllReadyH.cons rfl (fun K hK => ?_) AllReadyH.nil
  go_simp
  refine hK.out _ _ K2.out (fun hHeld => ?_)
  clear hK K
  refine wpAnyH_done (by kernel_rfl) ?_ _
  go_wp2_with fail
  go_ret
  exact ⟨rfl, F2.out.1, F2.out.2⟩

end Go.Proofs.YtlicdeppfhmfjaaGreatDoor.words
