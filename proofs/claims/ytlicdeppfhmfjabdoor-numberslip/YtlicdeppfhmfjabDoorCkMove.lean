/- Where a digit comes to, and the motions of a text. -/
import Derived.Test.YtlicdeppfhmfjabDoorCkMul
import Derived.Test.YtlicdeppfhmfjabDoorCkDig
import Derived.OwnWalk
import Derived.BigRegion
import Derived.DataReads
import Derived.Lib.LaidTab
namespace Go.Proofs.YtlicdeppfhmfjabDoor.check
open Go.RowKit

/-- The table of the moves, in memory. -/
def MTab (w : World) : Prop := ∀ d, d < 10 → w.cell? ⟨6, d, none⟩ = some (.int .i64 ((mv1 d : Nat) : Int))
theorem MTab.below {w w' : World} (h : MTab w) (hb : Below w.heap.size w w') : MTab w' := fun d hd => by
  have h1 := h d hd
  rw [hb.cell (World.block_lt_of_cell? w _ h1)]; exact h1
theorem mtab_of {w : World} {name : String} (hg : Tryd.prog.globalNamed name = some 6) (h : Lib.TabIs Tryd.prog w name .i64 [1, 5, 7, 6, 2, 8, 3, 0, 9, 4]) : MTab w := by
  unfold Lib.TabIs World.var? at h
  rw [hg] at h
  simp only [Option.bind_some] at h
  intro d hd
  split at h
  · rename_i cs t fr hc
    have hcs := Option.some.inj h
    simp only [World.cell?, hc]
    rw [hcs]
    have : ∀ d, d < 10 → (List.map (fun z => Value.int .i64 z) [1, 5, 7, 6, 2, 8, 3, 0, 9, 4]).toArray[d]? = some (Value.int .i64 ((mv1 d : Nat) : Int)) := by
      intro d hd
      match d, hd with
      | 0, _ | 1, _ | 2, _ | 3, _ | 4, _ | 5, _ | 6, _ | 7, _ | 8, _ | 9, _ => rfl
    simpa using this d hd
  · cases h

set_option maxHeartbeats 400000 in
theorem moved_any (d place : Nat) (w : World) (hd : d < 10) (hp : place ≤ 1000) (ht : MTab w) :
    Calls Tryd.prog 90 #[.int .i64 (d : Int), .int .i64 (place : Int)] w fun e w' => e = .returned (.int .i64 ((mvN (place % 8) d : Nat) : Int)) ∧ w' = w := by
  have e8 : ((place : Nat) : Int) % 8 = ((place % 8 : Nat) : Int) := by omega
  have hm : place % 8 < 8 := Nat.mod_lt _ (by decide)
  have HT : Hid (MTab w) := ht
  clear ht
  generalize hq : place % 8 = q at *
  clear hq
  go_enter Tryd.func90, Tryd.ntmps90
  go_wp2_with fail
  go_loop [0, 7] (fun v i => ∃ k : Nat, k ≤ q ∧ i = .int .i64 (k : Int) ∧ v = .int .i64 ((mvN k d : Nat) : Int)) (fun _ i => q - (intOf i).toNat)
  case atStart => exact ⟨0, Nat.zero_le _, rfl, rfl⟩
  case round =>
    obtain ⟨k, hk, rfl, rfl⟩ := hrel
    have hx := mvN_lt k d hd
    have HS : Hid (mvN (k + 1) d = mv1 (mvN k d)) := rfl
    by_cases hlt : k < q
    · have hcell := HT.out (mvN k d) hx
      generalize mvN k d = x at *
      generalize mv1 x = y at *
      go_wp2_with fail
      go_round
      case rel => exact ⟨k + 1, by omega, by go_num, by rw [HS.out]⟩
      case measure => simp [intOf]; omega
    · have hkq : k = q := by omega
      rw [hkq]
      generalize hgx : mvN q d = x at *
      have HG : Hid (mvN q d = x) := hgx
      clear hkq hgx
      go_wp2_with fail
      go_ret
      exact ⟨by rw [HG.out]; rfl, rfl⟩

/-- Block g holds the n motions f. -/
def RowM (w : World) (g n : Nat) (f : Nat → Nat) : Prop := w.heap[g]? = some (.cells ((List.range n).map fun i => Value.int .i64 ((f i : Nat) : Int)).toArray 89 (0, 0))
variable {w w' : World} {g n : Nat} {f : Nat → Nat}
theorem RowM.cell (h : RowM w g n f) {i : Nat} (hi : i < n) : w.cell? ⟨g, i, none⟩ = some (.int .i64 ((f i : Nat) : Int)) := by unfold RowM at h; simp [World.cell?, h, hi]
theorem RowM.free (h : RowM w g n f) (i : Nat) : w.frozen? ⟨g, i, none⟩ = false := by unfold RowM at h; simp [World.frozen?, h]
def updM (f : Nat → Nat) (i v : Nat) : Nat → Nat := fun k => if k = i then v else f k
theorem RowM.set (h : RowM w g n f) (i v : Nat) : RowM (w.setCell ⟨g, i, none⟩ (.int .i64 ((v : Nat) : Int))) g n (updM f i v) := by
  unfold RowM at *
  simp only [World.setCell, Array.getElem?_modify, h, if_true, Option.map_some]
  congr 2
  simp only [Option.isSome_none, Bool.false_eq_true, if_false]
  apply Array.ext'
  simp only [Array.toList_setIfInBounds]
  apply List.ext_getElem?
  intro k
  by_cases hk : k < n
  · by_cases e : k = i
    · subst e; simp [updM, hk]
    · rw [List.getElem?_set_ne (by omega)]; simp [updM, hk, e]
  · rw [List.getElem?_eq_none (by simp; omega), List.getElem?_eq_none (by simp; omega)]
theorem rowM_made {w1 : World} {n g base : Nat} (h : w1.ownsRow base 89 1 (.slice (some ⟨g, 0, none⟩) n n) n (madeCells #[Value.int .i64 0] n).toList) : RowM w1 g n (fun _ => 0) := by
  rcases h.2 with ⟨h1, _⟩ | ⟨g', cap, cur, h1, _, h2, _, _, h3, h4⟩
  · cases h1
  · simp only [Value.slice.injEq, Option.some.injEq, Addr.mk.injEq] at h1
    obtain ⟨⟨rfl, -⟩, -, rfl⟩ := h1
    unfold RowM
    rw [h2]
    congr 2
    apply Array.ext'
    have e1 : cur.toList = (madeCells #[Value.int .i64 0] n).toList := by
      rw [← h4, List.take_of_length_le (by simp; omega)]
    rw [e1, toList_madeCells_one]
    apply List.ext_getElem?
    intro k
    by_cases hk : k < n
    · simp [hk]
    · rw [List.getElem?_eq_none (by simp; omega), List.getElem?_eq_none (by simp; omega)]
theorem info_motion : (Tryd.prog.info? 89).map (fun i => (i.zero, i.size, i.bytes)) = some (some (.int .i64 0), 1, 8) := by kernel_rfl

/-- What motions make, one behind the other. -/
def foldM (f : Nat → Nat) : Nat → Nat
  | 0 => 0
  | k + 1 => mulN (foldM f k) (f k)
theorem foldM_lt (f : Nat → Nat) (k : Nat) (h : ∀ j, j < k → f j < 10) : foldM f k < 10 := by
  induction k with
  | zero => exact (by decide : 0 < 10)
  | succ k ih => exact mul_lt _ (ih fun j hj => h j (by omega)) _ (h k (by omega))
theorem foldM_congr {f f' : Nat → Nat} (k : Nat) (h : ∀ j, j < k → f j = f' j) : foldM f k = foldM f' k := by
  induction k with
  | zero => rfl
  | succ k ih => simp only [foldM]; rw [ih fun j hj => h j (by omega), h k (by omega)]
/-- The motion of the digit at a place. -/
def motN (last : Nat) (l : List Nat) (j : Nat) : Nat := mvN ((last + j) % 8) (l.getD j 0)
theorem foldM_fold (last : Nat) (l : List Nat) : foldM (motN last l) l.length = foldN last 0 l := by
  induction l using list_snoc_ind with
  | h0 => rfl
  | h1 l d ih =>
    rw [foldN_append, List.length_append, List.length_singleton, foldM]
    have e1 : foldM (motN last (l ++ [d])) l.length = foldM (motN last l) l.length := foldM_congr _ fun j hj => by
      unfold motN; congr 1; simp [List.getD, List.getElem?_append_left hj]
    rw [e1, ih]
    show mulN _ (motN last (l ++ [d]) l.length) = mulN _ _
    congr 1
    unfold motN; congr 1; simp [List.getD]

set_option maxHeartbeats 400000 in
theorem follow_any (g n : Nat) (f : Nat → Nat) (w : World) (hr : RowM w g n f) (hf : ∀ j, j < n → f j < 10) (hn : n ≤ 200) :
    Calls Tryd.prog 66 #[.slice (some ⟨g, 0, none⟩) n n, .func (.func 68) #[] #[]] w fun e w' => e = .returned (.int .i64 ((foldM f n : Nat) : Int)) ∧ w' = w := by
  have HR : Hid (RowM w g n f ∧ ∀ j, j < n → f j < 10) := ⟨hr, hf⟩
  clear hr hf
  go_enter Tryd.func66, Tryd.ntmps66
  go_wp2_with fail
  go_loop [5, 10] (fun v i => ∃ k : Nat, k ≤ n ∧ i = .int .i64 (k : Int) ∧ v = .int .i64 ((foldM f k : Nat) : Int)) (fun _ i => n - (intOf i).toNat)
  case atStart => exact ⟨0, Nat.zero_le _, rfl, rfl⟩
  case round =>
    obtain ⟨k, hk, rfl, rfl⟩ := hrel
    have hx := foldM_lt f k fun j hj => HR.out.2 j (by omega)
    have HS : Hid (foldM f (k + 1) = mulN (foldM f k) (f k)) := rfl
    by_cases hlt : k < n
    · have hcell := HR.out.1.cell hlt
      have hy := HR.out.2 k hlt
      have HC := then_any (foldM f k) (f k) w hx hy
      generalize foldM f k = x at *
      generalize f k = y at *
      generalize mulN x y = z at *
      go_wp2_with fail
      refine HC.mono ?_
      rintro e w1 ⟨rfl, rfl⟩
      go_wp2_with fail
      go_round
      case rel => exact ⟨k + 1, by omega, by go_num, by rw [HS.out]⟩
      case measure => simp [intOf]; omega
    · have hkq : k = n := by omega
      rw [hkq]
      generalize hgx : foldM f n = x at *
      have HG : Hid (foldM f n = x) := hgx
      clear hkq hgx
      go_wp2_with fail
      go_ret
      exact ⟨by rw [HG.out]; rfl, rfl⟩

end Go.Proofs.YtlicdeppfhmfjabDoor.check
