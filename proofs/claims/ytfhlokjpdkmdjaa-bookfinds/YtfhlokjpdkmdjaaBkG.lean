/- Rows of customers. -/
import Derived.Test.YtfhlokjpdkmdjaaBlk
import Derived.Test.YtfhlokjpdkmdjaaWRow
import Derived.Maps.AppendAt
import Derived.OwnWalk
import Derived.Test.YtfhlokjpdkmdjaaProg
namespace Go.Proofs.Ytfhlokjpdkmdjaa.book
open Go.RowKit
set_option maxRecDepth 100000
set_option linter.unusedVariables false
set_option linter.unusedSimpArgs false

/-- The eight cells of a customer: an account's numbers, where its debts lie, and what was sold. -/
structure Cu where
  me : Int
  rv : Int
  nx : Int
  mo : Int
  bo : Int
  fr : Int
  dp : Option Addr
  dn : Nat
  dc : Nat
  sp : Option Addr
  sn : Nat
  sc : Nat
def cu0 : Cu := ⟨0, 0, 0, 0, 0, 0, none, 0, 0, none, 0, 0⟩
/-- Nothing but a meter. -/
def cuM (m : Int) : Cu := { cu0 with me := m }
def Cu.cs (x : Cu) : List Value := [.int .i64 x.me, .int .i64 x.rv, .int .i64 x.nx, .int .i64 x.mo, .int .i64 x.bo, .int .i64 x.fr, .slice x.dp x.dn x.dc, .slice x.sp x.sn x.sc]
def cellsC : List Cu → List Value
  | [] => []
  | x :: l => x.cs ++ cellsC l
theorem cellsC_len (l : List Cu) : (cellsC l).length = l.length * 8 := by
  induction l with
  | nil => rfl
  | cons e l ih => rw [cellsC, List.length_append, ih, List.length_cons]; show 8 + _ = _; omega
theorem cellsC_app (l m : List Cu) : cellsC (l ++ m) = cellsC l ++ cellsC m := by
  induction l with
  | nil => rfl
  | cons e l ih => rw [List.cons_append, cellsC, cellsC, ih, List.append_assoc]
theorem oneC (l : List Cu) : ∀ u ∈ cellsC l, u.oneCell' = true := by
  induction l with
  | nil => intro u hu; cases hu
  | cons e l ih =>
    intro u hu
    rw [cellsC] at hu
    rcases List.mem_append.1 hu with hu | hu
    · simp only [Cu.cs, List.mem_cons, List.not_mem_nil, or_false] at hu
      rcases hu with rfl | rfl | rfl | rfl | rfl | rfl | rfl | rfl <;> rfl
    · exact ih u hu
theorem cellsC_at (l : List Cu) (k j : Nat) (hk : k < l.length) (hj : j < 8) : (cellsC l)[k * 8 + j]? = (l.getD k cu0).cs[j]? := by
  induction l generalizing k with
  | nil => simp at hk
  | cons x l ih =>
    have h8 : x.cs.length = 8 := rfl
    cases k with
    | zero => rw [Nat.zero_mul, Nat.zero_add, cellsC, List.getElem?_append_left (by omega)]; rfl
    | succ k =>
      rw [show (k + 1) * 8 + j = x.cs.length + (k * 8 + j) by omega, cellsC, List.getElem?_append_right (by omega), Nat.add_sub_cancel_left]
      exact ih k (by simpa using hk)
/-- This slice of customers reads so. -/
def RowC (w : World) (a : Option Addr) (n : Nat) (l : List Cu) : Prop := l.length = n ∧ (n = 0 ∨ ∃ b off, a = some ⟨b, off, none⟩ ∧ b < w.heap.size ∧ ∀ i j, i < n → j < 8 → w.cell? ⟨b, off + i * 8 + j, none⟩ = (l.getD i cu0).cs[j]?)
theorem RowC.below {w w' : World} {a : Option Addr} {n : Nat} {l : List Cu} (h : RowC w a n l) (hb : Below w.heap.size w w') : RowC w' a n l := by
  refine ⟨h.1, ?_⟩
  rcases h.2 with h0 | ⟨b, off, rfl, lb, hc⟩
  · exact .inl h0
  · exact .inr ⟨b, off, rfl, Nat.lt_of_lt_of_le lb hb.size, fun i j hi hj => (hb.cell (p := ⟨b, off + i * 8 + j, none⟩) lb).trans (hc i j hi hj)⟩
/-- Customers that nobody else holds. -/
def Lc (w : World) (base : Nat) (v : Value) (l : List Cu) : Prop := w.ownsRow base 58 8 v l.length (cellsC l)
theorem Lc.zero (w : World) (base : Nat) : Lc w base (.slice none 0 0) [] := World.ownsRow_nil _ _ _ _
theorem Lc.alloc {w : World} {base : Nat} {v : Value} {l : List Cu} (h : Lc w base v l) (o : Obj) : Lc (w.alloc o) base v l := World.ownsRow.alloc h o
theorem Lc.next {w w' : World} {base : Nat} {v : Value} {l : List Cu} (h : Lc w base v l) (hb : Below w.heap.size w w') : Lc w' base v l := by
  refine ⟨h.1, ?_⟩
  rcases h.2 with hn | ⟨g, cap, cur, hv, hg, hc, rest⟩
  · exact .inl hn
  · exact .inr ⟨g, cap, cur, hv, hg, Blk.next hc hb, rest⟩
theorem Lc.row {w : World} {base : Nat} {v : Value} {l : List Cu} (h : Lc w base v l) : ∃ a cap, v = .slice a l.length cap ∧ RowC w a l.length l ∧ (a = none → cap = 0) ∧ l.length ≤ cap := by
  rcases h.2 with ⟨hv, hn⟩ | ⟨g, cap, cur, hv, _, hc, h1, _⟩
  · exact ⟨none, 0, by rw [hn]; exact hv, ⟨rfl, .inl hn⟩, fun _ => rfl, by omega⟩
  · subst hv
    refine ⟨_, cap, rfl, ⟨rfl, .inr ⟨g, 0, rfl, Blk.lt hc, fun i j hi hj => ?_⟩⟩, (fun h => by cases h), h1⟩
    have e1 := World.ownsRow.cellAt h (i * 8 + j) (by omega)
    rw [Nat.zero_add, e1]
    exact cellsC_at l i j hi hj
theorem custI : (Try.prog.info? 58).map (fun i => (i.zero, i.size, i.bytes)) = some (some (.agg cu0.cs.toArray), 8, 96) := by kernel_rfl
/-- One customer is put behind the others, in a region that draws its order. -/
theorem step_cust {w : World} {o : Oper} {a : Act} {K : Act → World → Prop} {Q : Exit → Act → World → Prop} (s x : Operand)
    (ho : o.op = .call { callee := .builtin .append, args := #[s, x], argTypes := #[43, 43] })
    (base G : Nat) (v : Value) (l : List Cu) (r : Cu) (hs : a.eval s = v) (hx : a.eval x = .slice (some ⟨G, 0, none⟩) 1 1) (hv : Lc w base v l) (hu : Blk w G r.cs.toArray 58) (hn : l.length ≤ 2000000) (hbase : base ≤ w.heap.size)
    (h : ∀ v' w', Lc w' base v' (l ++ [r]) → w.grownBy w' v.ownBlock → (v'.ownBlock = v.ownBlock ∨ v'.ownBlock = some w.heap.size) → K (a.put o.dst v') w') : Oper.wp Try.prog o a w K Q := by
  obtain ⟨i0, hi, hz0, hz1, hz2⟩ := info_parts custI
  obtain ⟨v', w', hr, h2, h3, _, h5⟩ := run_append_own_at (P := Try.prog) w base 43 o.type 58 i0 (.agg cu0.cs.toArray) 8 96 Try.underlying43 hi hz0 hz1 hz2 rfl (by decide) v l.length (cellsC l) hv ⟨G, 0, none⟩ 1 1 (cellsC [r]) (by rw [cellsC_len]; rfl) (by
    intro j u hj
    rw [Addr.add_lit, Nat.zero_add, hu.cell j]
    rw [cellsC, cellsC, List.append_nil] at hj
    simpa using hj) (oneC [r]) (by unfold maxLen; omega) (by omega) hbase
  unfold Oper.wp execOp
  simp only [ho, resolve, invoke, builtin, Sem.run_bind, Sem.run_pure, Result.andThen_ok, List.map_toArray, List.map_cons, List.map_nil, hs, hx, hr]
  refine h v' w' ?_ h3 h5
  unfold Lc
  rw [List.length_append, cellsC_app]
  exact h2
/-- The first with this meter. -/
def FindIs (l : List Cu) (me at_ f : Int) : Prop := (∃ k, k < l.length ∧ (l.getD k cu0).me = me ∧ (∀ j, j < k → (l.getD j cu0).me ≠ me) ∧ at_ = (k : Int) ∧ f = 0) ∨ ((∀ j, j < l.length → (l.getD j cu0).me ≠ me) ∧ at_ = 0 ∧ f = 18)
def FoundIs (l : List Cu) (me at_ : Int) : Prop := (∃ k, k < l.length ∧ (l.getD k cu0).me = me ∧ (∀ j, j < k → (l.getD j cu0).me ≠ me) ∧ at_ = (k : Int)) ∨ ((∀ j, j < l.length → (l.getD j cu0).me ≠ me) ∧ at_ = -1)
theorem find_both {l : List Cu} {me a f b : Int} (h : FindIs l me a f) (h' : FoundIs l me b) : (b < 0 ∧ a = 0 ∧ f = 18) ∨ (0 ≤ b ∧ a = b ∧ f = 0) := by
  rcases h with ⟨k, hk, e, hl, rfl, rfl⟩ | ⟨hl, rfl, rfl⟩ <;> rcases h' with ⟨k', hk', e', hl', rfl⟩ | ⟨hl', rfl⟩
  · have : k = k' := by
      rcases Nat.lt_trichotomy k k' with c | c | c
      · exact absurd e (hl' k c)
      · exact c
      · exact absurd e' (hl k' c)
    subst this
    exact .inr ⟨by omega, rfl, rfl⟩
  · exact absurd e (hl' k hk)
  · exact absurd e' (hl k' hk')
  · exact .inl ⟨by decide, rfl, rfl⟩

end Go.Proofs.Ytfhlokjpdkmdjaa.book
