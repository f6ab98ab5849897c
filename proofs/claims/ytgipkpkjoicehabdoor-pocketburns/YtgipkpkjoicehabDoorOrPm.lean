/- Maps of what was tagged. -/
import Derived.Test.YtgipkpkjoicehabDoorOrD
import Derived.Test.YtgipkpkjoicehabDoorLet
import Derived.Laws.StructEq
import Derived.Maps.OwnOps
namespace Go.Proofs.YtgipkpkjoicehabDoor.ora
open Go.RowKit
open Go.ChangeMaps (setBlock heap_setBlock_same heap_setBlock_other)
set_option maxRecDepth 100000
set_option linter.unusedVariables false
set_option linter.unusedSimpArgs false

def ent (p : Pr) (i : Nat) : MapEntry := { key := .agg #[.int .i64 p.m, .int .i64 p.r, .int .i64 p.b], val := .int .i64 p.t, born := i }
def ents : List Pr → Nat → List MapEntry
  | [], _ => []
  | p :: l, i => ent p i :: ents l (i + 1)
theorem ents_app (l : List Pr) (p : Pr) (i : Nat) : ents (l ++ [p]) i = ents l i ++ [ent p (i + l.length)] := by
  induction l generalizing i with
  | nil => rfl
  | cons x l ih => simp only [List.cons_append, ents, ih, List.length_cons]; rw [show i + 1 + l.length = i + (l.length + 1) by omega]
/-- The map of the pairs so far. -/
def Mp (w : World) (B : Nat) (l : List Pr) : Prop := w.heap[B]? = some (.map (ents l 0).toArray l.length)
theorem Mp.lt {w : World} {B : Nat} {l : List Pr} (h : Mp w B l) : B < w.heap.size := by
  unfold Mp at h
  by_cases hh : B < w.heap.size
  · exact hh
  · rw [Array.getElem?_eq_none (by omega)] at h; cases h
theorem Mp.below {w w' : World} {B : Nat} {l : List Pr} (h : Mp w B l) (hb : Below w.heap.size w w') : Mp w' B l := by
  have hl := h.lt
  unfold Mp at *; rw [hb.block B hl]; exact h
theorem Mp.new (w : World) : Mp (w.alloc (.map #[] 0)) w.heap.size [] := by
  show (w.heap.push _)[w.heap.size]? = _
  rw [Array.getElem?_push_size]; rfl
/-- The tag of the first pair for it. -/
def look : List Pr → Int → Int → Int → Option Int
  | [], _, _, _ => none
  | p :: l, m, r, b => if m = p.m ∧ r = p.r ∧ b = p.b then some p.t else look l m r b
theorem look_no {l : List Pr} {m r b : Int} (h : No l m r b) : look l m r b = none := by
  induction l with
  | nil => rfl
  | cons p l ih =>
    have h0 := h 0 (by simp)
    rw [look, if_neg (fun e => h0 ⟨e.1.symm, e.2.1.symm, e.2.2.symm⟩)]
    exact ih fun j hj => h (j + 1) (by simpa using hj)
theorem look_at {l : List Pr} {m r b : Int} {i : Nat} (h : At l m r b i) : look l m r b = some (l.getD i pr0).t := by
  induction l generalizing i with
  | nil => exact absurd h.lt (Nat.not_lt_zero _)
  | cons p l ih =>
    cases i with
    | zero =>
      have h0 := h.is
      rw [look, if_pos ⟨h0.1.symm, h0.2.1.symm, h0.2.2.symm⟩]; rfl
    | succ i =>
      have h0 := h.first 0 (by omega)
      rw [look, if_neg (fun e => h0 ⟨e.1.symm, e.2.1.symm, e.2.2.symm⟩)]
      exact ih ⟨by have := h.lt; simpa using this, h.is, fun j hj => h.first (j + 1) (by omega)⟩
theorem look_take {l : List Pr} {m r b : Int} {k : Nat} (hk : k ≤ l.length) : look (l.take k) m r b = none ↔ ∀ j, j < k → ¬ (l.getD j pr0).key m r b := by
  have hg : ∀ j, j < k → (l.take k).getD j pr0 = l.getD j pr0 := fun j hj => by simp [List.getD, List.getElem?_take, hj]
  rcases find_or (l.take k) m r b with ⟨i, hi⟩ | hn
  · constructor
    · intro h; rw [look_at hi] at h; cases h
    · intro h
      have hl := hi.lt
      rw [List.length_take] at hl
      have := hi.is
      rw [hg i (by omega)] at this
      exact absurd this (h i (by omega))
  · constructor
    · intro _ j hj
      have := hn j (by rw [List.length_take]; omega)
      rwa [hg j hj] at this
    · intro _; exact look_no hn
theorem skq (d : Nat) (a b : Int) (w : World) : (Op.equalIn (d + 1) 3 (.int .i64 a) (.int .i64 b)).run Tryd.prog w = .ok (a == b) w := run_equalIn_int w d _ _ _ a b Tryd.underlying3
theorem sk0 (s t c : Int) (w : World) : (part 3 #[.int .i64 s, .int .i64 t, .int .i64 c] 0).run Tryd.prog w = .ok (.int .i64 s) w := by kernel_rfl
theorem sk1 (s t c : Int) (w : World) : (part 3 #[.int .i64 s, .int .i64 t, .int .i64 c] 1).run Tryd.prog w = .ok (.int .i64 t) w := by kernel_rfl
theorem sk2 (s t c : Int) (w : World) : (part 3 #[.int .i64 s, .int .i64 t, .int .i64 c] 2).run Tryd.prog w = .ok (.int .i64 c) w := by kernel_rfl
theorem eqSub (m r b : Int) (p : Pr) (w : World) :
    (Op.equal 113 (.agg #[.int .i64 m, .int .i64 r, .int .i64 b]) (.agg #[.int .i64 p.m, .int .i64 p.r, .int .i64 p.b])).run Tryd.prog w = .ok (decide (m = p.m ∧ r = p.r ∧ b = p.b)) w := by
  unfold Op.equal
  rw [show Op.maxDepth = 9999 + 1 from rfl, run_equalIn_agg w 9999 113 _ _ (by kernel_rfl) (by kernel_rfl)]
  simp only [Program.fieldsOf, Tryd.underlying113, Op.eqFields, Sem.run_bind, Sem.run_ite]
  by_cases h1 : m = p.m <;> by_cases h2 : r = p.r <;> by_cases h3 : b = p.b <;> simp [sk0, sk1, sk2, show (9999 : Nat) = 9998 + 1 from rfl, skq, h1, h2, h3]
theorem chk (em : Bool) (m r b : Int) (w : World) : (Instr.checkKey em 10000 113 (.agg #[.int .i64 m, .int .i64 r, .int .i64 b])).run Tryd.prog w = .ok () w := by kernel_rfl
theorem asking (m r b : Int) (w : World) : ∀ (l : List Pr) (i j : Nat), (look l m r b = none → (Instr.findAsking 113 (.agg #[.int .i64 m, .int .i64 r, .int .i64 b]) (ents l i) j).run Tryd.prog w = .ok none w) ∧
    ∀ t, look l m r b = some t → ∃ q, (Instr.findAsking 113 (.agg #[.int .i64 m, .int .i64 r, .int .i64 b]) (ents l i) j).run Tryd.prog w = .ok (some (q, .int .i64 t)) w
  | [], i, j => ⟨fun _ => rfl, fun t h => by cases h⟩
  | p :: l, i, j => by
    have ih := asking m r b w l (i + 1) (j + 1)
    unfold look
    by_cases hp : m = p.m ∧ r = p.r ∧ b = p.b
    · refine ⟨fun h => (by rw [if_pos hp] at h; cases h), fun t h => ⟨j, ?_⟩⟩
      rw [if_pos hp] at h
      cases h
      simp [ents, Instr.findAsking, ent, eqSub, hp, Sem.run_bind]
    · rw [if_neg hp]
      have e : ∀ X, (Instr.findAsking 113 (.agg #[.int .i64 m, .int .i64 r, .int .i64 b]) (ents (p :: l) i) j).run Tryd.prog w = X ↔ (Instr.findAsking 113 (.agg #[.int .i64 m, .int .i64 r, .int .i64 b]) (ents l (i + 1)) (j + 1)).run Tryd.prog w = X := fun X => by
        simp [ents, Instr.findAsking, ent, eqSub, hp, Sem.run_bind]
      exact ⟨fun h => (e _).2 (ih.1 h), fun t h => (ih.2 t h).imp fun q hq => (e _).2 hq⟩
theorem finding (m r b : Int) (w : World) (l : List Pr) : (look l m r b = none → (Instr.findKey 113 (.agg #[.int .i64 m, .int .i64 r, .int .i64 b]) (ents l 0)).run Tryd.prog w = .ok none w) ∧
    ∀ t, look l m r b = some t → ∃ q, (Instr.findKey 113 (.agg #[.int .i64 m, .int .i64 r, .int .i64 b]) (ents l 0)).run Tryd.prog w = .ok (some (q, .int .i64 t)) w := by
  cases l with
  | nil => exact ⟨fun _ => by simp [Instr.findKey, ents, Instr.findNow, run_underlying Tryd.underlying113, Sem.run_bind], fun t h => by cases h⟩
  | cons p l =>
    have e : (Instr.findKey 113 (.agg #[.int .i64 m, .int .i64 r, .int .i64 b]) (ents (p :: l) 0)).run Tryd.prog w = (Instr.findAsking 113 (.agg #[.int .i64 m, .int .i64 r, .int .i64 b]) (ents (p :: l) 0)).run Tryd.prog w := by
      simp [Instr.findKey, ents, Instr.findNow, Instr.sameNow, run_underlying Tryd.underlying113, Sem.run_bind]
    rw [e]
    exact asking m r b w (p :: l) 0 0
theorem zint (w : World) : (zeroValue 3).run Tryd.prog w = .ok (.int .i64 0) w := by kernel_rfl
theorem look_run {w : World} {B : Nat} {l : List Pr} (h : Mp w B l) (m r b : Int) :
    (Instr.lookup 105 (.map (some B)) (.agg #[.int .i64 m, .int .i64 r, .int .i64 b]) true).run Tryd.prog w = .ok (.tuple #[.int .i64 ((look l m r b).getD 0), .bool (look l m r b).isSome]) w := by
  have hf := finding m r b w l
  cases hl : look l m r b with
  | none => simp [Instr.lookup, run_underlying Tryd.underlying105, MapKept.run_getObj_map h, chk, hf.1 hl, zint, Result.andThen, Sem.run_bind]
  | some t =>
    obtain ⟨q, hq⟩ := hf.2 t hl
    simp [Instr.lookup, run_underlying Tryd.underlying105, MapKept.run_getObj_map h, chk, hq, Result.andThen, Sem.run_bind]
theorem look_nil (w : World) (m r b : Int) :
    (Instr.lookup 105 (.map none) (.agg #[.int .i64 m, .int .i64 r, .int .i64 b]) true).run Tryd.prog w = .ok (.tuple #[.int .i64 0, .bool false]) w := by kernel_rfl
theorem upd_run {w : World} {B : Nat} {l : List Pr} (h : Mp w B l) (m r b t : Int) (hn : look l m r b = none) :
    ∃ W, (Instr.mapUpdate 105 (.map (some B)) (.agg #[.int .i64 m, .int .i64 r, .int .i64 b]) (.int .i64 t)).run Tryd.prog w = .ok () W ∧ Mp W B (l ++ [⟨m, r, b, t⟩]) ∧ (∀ G, G ≠ B → W.heap[G]? = w.heap[G]?) ∧ (∀ B0 w0, B0 ≤ B → Below B0 w0 w → Below B0 w0 W) ∧ W.heap.size = w.heap.size := by
  have hf := (finding m r b w l).1 hn
  refine ⟨setBlock w B (.map ((ents l 0).toArray.push ⟨.agg #[.int .i64 m, .int .i64 r, .int .i64 b], .int .i64 t, l.length⟩) (l.length + 1)), ?_, ?_, fun G hG => heap_setBlock_other h _ hG, fun B0 w0 hB hb => ?_, by simp [setBlock]⟩
  · simp [Instr.mapUpdate, run_underlying Tryd.underlying105, MapKept.run_getObj_map h, chk, hf, MapKept.run_setObj_map _ h, Result.andThen, setBlock, Sem.run_bind]
  · unfold Mp
    rw [heap_setBlock_same h, ents_app, List.length_append]
    simp [ent]
  · refine ⟨hb.os, hb.tape, hb.output, by simp [setBlock]; exact hb.size, fun k hk => ?_⟩
    rw [heap_setBlock_other h _ (by omega)]; exact hb.block k hk
theorem run_mkMap (w : World) (n : Int) : (Instr.makeMap 105 (some (.int .i64 n))).run Tryd.prog w = .ok (.map (some w.heap.size)) (w.alloc (.map #[] 0)) := by kernel_rfl

end Go.Proofs.YtgipkpkjoicehabDoor.ora
