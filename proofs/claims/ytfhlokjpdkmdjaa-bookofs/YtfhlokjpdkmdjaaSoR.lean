/- Rows of what was sold. -/
import Derived.Test.YtfhlokjpdkmdjaaSoN
import Derived.Test.YtfhlokjpdkmdjaaBlk
import Derived.Maps.AppendAt
import Derived.OwnWalk
import Derived.WalkKit
import Derived.Test.YtfhlokjpdkmdjaaProg
namespace Go.Proofs.Ytfhlokjpdkmdjaa.book
open Go.RowKit
set_option maxRecDepth 100000
set_option linter.unusedVariables false
set_option linter.unusedSimpArgs false

def So.cs (x : So) : List Value := [.int .i64 x.id, .int .i64 x.cl, .int .i64 x.am, .int .i64 x.tg, .int .i64 x.rv]
def So.v (x : So) : Value := .agg #[.int .i64 x.id, .int .i64 x.cl, .int .i64 x.am, .int .i64 x.tg, .int .i64 x.rv]
def cellsS : List So → List Value
  | [] => []
  | x :: l => x.cs ++ cellsS l
theorem cellsS_len (l : List So) : (cellsS l).length = l.length * 5 := by
  induction l with
  | nil => rfl
  | cons e l ih => rw [cellsS, List.length_append, ih, List.length_cons]; show 5 + _ = _; omega
theorem cellsS_app (l m : List So) : cellsS (l ++ m) = cellsS l ++ cellsS m := by
  induction l with
  | nil => rfl
  | cons e l ih => rw [List.cons_append, cellsS, cellsS, ih, List.append_assoc]
theorem oneS (l : List So) : ∀ u ∈ cellsS l, u.oneCell' = true := by
  induction l with
  | nil => intro u hu; cases hu
  | cons e l ih =>
    intro u hu
    rw [cellsS] at hu
    rcases List.mem_append.1 hu with hu | hu
    · simp only [So.cs, List.mem_cons, List.not_mem_nil, or_false] at hu
      rcases hu with rfl | rfl | rfl | rfl | rfl <;> rfl
    · exact ih u hu
theorem cellsS_at (l : List So) (k j : Nat) (hk : k < l.length) (hj : j < 5) : (cellsS l)[k * 5 + j]? = (l.getD k so0).cs[j]? := by
  induction l generalizing k with
  | nil => simp at hk
  | cons x l ih =>
    have h8 : x.cs.length = 5 := rfl
    cases k with
    | zero => rw [Nat.zero_mul, Nat.zero_add, cellsS, List.getElem?_append_left (by omega)]; rfl
    | succ k =>
      rw [show (k + 1) * 5 + j = x.cs.length + (k * 5 + j) by omega, cellsS, List.getElem?_append_right (by omega), Nat.add_sub_cancel_left]
      exact ih k (by simpa using hk)
/-- This slice of what was sold reads so. -/
def RowS (w : World) (a : Option Addr) (n : Nat) (l : List So) : Prop := l.length = n ∧ (n = 0 ∨ ∃ b off, a = some ⟨b, off, none⟩ ∧ b < w.heap.size ∧ ∀ i j, i < n → j < 5 → w.cell? ⟨b, off + i * 5 + j, none⟩ = (l.getD i so0).cs[j]?)
theorem RowS.below {w w' : World} {a : Option Addr} {n : Nat} {l : List So} (h : RowS w a n l) (hb : Below w.heap.size w w') : RowS w' a n l := by
  refine ⟨h.1, ?_⟩
  rcases h.2 with h0 | ⟨b, off, rfl, lb, hc⟩
  · exact .inl h0
  · exact .inr ⟨b, off, rfl, Nat.lt_of_lt_of_le lb hb.size, fun i j hi hj => (hb.cell (p := ⟨b, off + i * 5 + j, none⟩) lb).trans (hc i j hi hj)⟩
theorem RowS.nil (w : World) (a : Option Addr) : RowS w a 0 [] := ⟨rfl, .inl rfl⟩
/-- What was sold, that nobody else holds. -/
def Lo (w : World) (base : Nat) (v : Value) (l : List So) : Prop := w.ownsRow base 103 5 v l.length (cellsS l)
theorem Lo.zero (w : World) (base : Nat) : Lo w base (.slice none 0 0) [] := World.ownsRow_nil _ _ _ _
theorem Lo.alloc {w : World} {base : Nat} {v : Value} {l : List So} (h : Lo w base v l) (o : Obj) : Lo (w.alloc o) base v l := World.ownsRow.alloc h o
theorem Lo.next {w w' : World} {base : Nat} {v : Value} {l : List So} (h : Lo w base v l) (hb : Below w.heap.size w w') : Lo w' base v l := by
  refine ⟨h.1, ?_⟩
  rcases h.2 with hn | ⟨g, cap, cur, hv, hg, hc, rest⟩
  · exact .inl hn
  · exact .inr ⟨g, cap, cur, hv, hg, Blk.next hc hb, rest⟩
/-- Something else grows. -/
theorem Lo.kept {w w' : World} {base : Nat} {own : Option Nat} {v : Value} {l : List So} (h : Lo w base v l) (hg : w.grownBy w' own) (hne : ∀ g, v.ownBlock = some g → own ≠ some g) : Lo w' base v l := by
  refine World.ownsRow.kept h hg ?_
  cases e : v.ownBlock with
  | none => exact .inl rfl
  | some g => exact .inr (fun q => hne g e q.symm)
theorem Lo.row {w : World} {base : Nat} {v : Value} {l : List So} (h : Lo w base v l) : ∃ a cap, v = .slice a l.length cap ∧ RowS w a l.length l ∧ (a = none → cap = 0) ∧ l.length ≤ cap := by
  rcases h.2 with ⟨hv, hn⟩ | ⟨g, cap, cur, hv, _, hc, h1, _⟩
  · exact ⟨none, 0, by rw [hn]; exact hv, ⟨rfl, .inl hn⟩, fun _ => rfl, by omega⟩
  · subst hv
    refine ⟨_, cap, rfl, ⟨rfl, .inr ⟨g, 0, rfl, Blk.lt hc, fun i j hi hj => ?_⟩⟩, (fun h => by cases h), h1⟩
    have e1 := World.ownsRow.cellAt h (i * 5 + j) (by omega)
    rw [Nat.zero_add, e1]
    exact cellsS_at l i j hi hj
theorem soldI : (Try.prog.info? 103).map (fun i => (i.zero, i.size, i.bytes)) = some (some (.agg so0.cs.toArray), 5, 40) := by kernel_rfl
/-- One more was sold, in a region that draws its order. -/
theorem step_sold {w : World} {o : Oper} {a : Act} {K : Act → World → Prop} {Q : Exit → Act → World → Prop} (d : Nat) (hd : o.dst = some d) (s x : Operand)
    (ho : o.op = .call { callee := .builtin .append, args := #[s, x], argTypes := #[56, 56] })
    (base G : Nat) (v : Value) (l : List So) (r : So) (hs : a.eval s = v) (hx : a.eval x = .slice (some ⟨G, 0, none⟩) 1 1) (hv : Lo w base v l) (hu : Blk w G r.cs.toArray 103) (hn : l.length ≤ 2000000) (hbase : base ≤ w.heap.size)
    (h : ∀ v' w', Lo w' base v' (l ++ [r]) → w.grownBy w' v.ownBlock → (v'.ownBlock = v.ownBlock ∨ v'.ownBlock = some w.heap.size) → K (a.put (some d) v') w') : Oper.wp Try.prog o a w K Q := by
  rw [← hd] at h
  obtain ⟨i0, hi, hz0, hz1, hz2⟩ := info_parts soldI
  obtain ⟨v', w', hr, h2, h3, _, h5⟩ := run_append_own_at (P := Try.prog) w base 56 o.type 103 i0 (.agg so0.cs.toArray) 5 40 Try.underlying56 hi hz0 hz1 hz2 rfl (by decide) v l.length (cellsS l) hv ⟨G, 0, none⟩ 1 1 (cellsS [r]) (by rw [cellsS_len]; rfl) (by
    intro j u hj
    rw [Addr.add_lit, Nat.zero_add, hu.cell j]
    rw [cellsS, cellsS, List.append_nil] at hj
    simpa using hj) (oneS [r]) (by unfold maxLen; omega) (by omega) hbase
  unfold Oper.wp execOp
  simp only [ho, resolve, invoke, builtin, Sem.run_bind, Sem.run_pure, Result.andThen_ok, List.map_toArray, List.map_cons, List.map_nil, hs, hx, hr]
  refine h v' w' ?_ h3 h5
  unfold Lo
  rw [List.length_append, cellsS_app]
  exact h2

end Go.Proofs.Ytfhlokjpdkmdjaa.book
