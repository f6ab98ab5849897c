import Derived.Test.YtgipkpkjoicehaaGreatDoorOrD
import Derived.Test.YtgipkpkjoicehaaGreatDoorLet
import Derived.Laws.StructEq
import Derived.Maps.OwnOps
import Derived.Deep.RegionHeldLaw
import Derived.Test.YtgipkpkjoicehaaGreatDoorJPocketKeys2
import Derived.Test.YtgipkpkjoicehaaGreatDoorMtD
import Derived.Test.YtgipkpkjoicehaaGreatDoorMjI
import Derived.Test.YtgipkpkjoicehaaGreatDoorMpM
import Derived.Test.YtgipkpkjoicehaaGreatDoorSlN
import Derived.Test.YtgipkpkjoicehaaGreatDoorMtP
import Derived.Test.YtgipkpkjoicehaaGreatDoorClRow
import Derived.Test.YtgipkpkjoicehaaGreatDoorTkN
import Derived.Test.YtgipkpkjoicehaaGreatDoorSlL
import Derived.Test.YtgipkpkjoicehaaGreatDoorMpR
import Derived.Test.YtgipkpkjoicehaaGreatDoorSlS
import Derived.Test.YtgipkpkjoicehaaGreatDoorMpW
import Derived.Test.YtgipkpkjoicehaaGreatDoorMtR
import Derived.Test.YtgipkpkjoicehaaGreatDoorMtDW
import Derived.BigRegion
import Derived.Test.YtgipkpkjoicehaaGreatDoorClGvU
import Derived.Test.YtgipkpkjoicehaaGreatDoorWRow
import Derived.Test.YtgipkpkjoicehaaGreatDoorSlT
import Derived.Test.YtgipkpkjoicehaaGreatDoorClGave
import Derived.Test.YtgipkpkjoicehaaGreatDoorClIn
import Derived.Test.YtgipkpkjoicehaaGreatDoorJPocketKeys1
import Derived.Test.YtgipkpkjoicehaaGreatDoorBlk
import Derived.Test.YtgipkpkjoicehaaGreatDoorCkTxt

/- Maps of what was tagged. -/
namespace Go.Proofs.YtgipkpkjoicehaaGreatDoor.ora
open Go.RowKit
open Go.ChangeMaps (setBlock heap_setBlock_same heap_setBlock_other)
set_option maxRecDepth 100000
set_option linter.unusedVariables false
set_option linter.unusedSimpArgs false

def ent (p : Pr) (i : Nat) : MapEntry := { key := .agg #[.int .i64 p.m, .int .i64 p.r, .int .i64 p.b], val := .int .i64 p.t, born := i }
def ents : List Pr → Nat → List MapEntry
  | [], _ => []
  | p :: l, i => ent p i :: ents l (i + 1)
theorem ents_app (l : List Pr) (p : Pr) (i : Nat) : ents (l ++ [p]) i = ents l i ++ [ent p (i + l.length)] := by
  induction l generalizing i with
  | nil => rfl
  | cons x l ih => simp only [List.cons_append, ents, ih, List.length_cons]; rw [show i + 1 + l.length = i + (l.length + 1) by omega]
/-- The map of the pairs so far. -/
def Mp (w : World) (B : Nat) (l : List Pr) : Prop := w.heap[B]? = some (.map (ents l 0).toArray l.length)
theorem Mp.lt {w : World} {B : Nat} {l : List Pr} (h : Mp w B l) : B < w.heap.size := by
  unfold Mp at h
  by_cases hh : B < w.heap.size
  · exact hh
  · rw [Array.getElem?_eq_none (by omega)] at h; cases h
theorem Mp.below {w w' : World} {B : Nat} {l : List Pr} (h : Mp w B l) (hb : Below w.heap.size w w') : Mp w' B l := by
  have hl := h.lt
  unfold Mp at *; rw [hb.block B hl]; exact h
theorem Mp.new (w : World) : Mp (w.alloc (.map #[] 0)) w.heap.size [] := by
  show (w.heap.push _)[w.heap.size]? = _
  rw [Array.getElem?_push_size]; rfl
/-- The tag of the first pair for it. -/
def look : List Pr → Int → Int → Int → Option Int
  | [], _, _, _ => none
  | p :: l, m, r, b => if m = p.m ∧ r = p.r ∧ b = p.b then some p.t else look l m r b
theorem look_no {l : List Pr} {m r b : Int} (h : No l m r b) : look l m r b = none := by
  induction l with
  | nil => rfl
  | cons p l ih =>
    have h0 := h 0 (by simp)
    rw [look, if_neg (fun e => h0 ⟨e.1.symm, e.2.1.symm, e.2.2.symm⟩)]
    exact ih fun j hj => h (j + 1) (by simpa using hj)
theorem look_at {l : List Pr} {m r b : Int} {i : Nat} (h : At l m r b i) : look l m r b = some (l.getD i pr0).t := by
  induction l generalizing i with
  | nil => exact absurd h.lt (Nat.not_lt_zero _)
  | cons p l ih =>
    cases i with
    | zero =>
      have h0 := h.is
      rw [look, if_pos ⟨h0.1.symm, h0.2.1.symm, h0.2.2.symm⟩]; rfl
    | succ i =>
      have h0 := h.first 0 (by omega)
      rw [look, if_neg (fun e => h0 ⟨e.1.symm, e.2.1.symm, e.2.2.symm⟩)]
      exact ih ⟨by have := h.lt; simpa using this, h.is, fun j hj => h.first (j + 1) (by omega)⟩
theorem look_take {l : List Pr} {m r b : Int} {k : Nat} (hk : k ≤ l.length) : look (l.take k) m r b = none ↔ ∀ j, j < k → ¬ (l.getD j pr0).key m r b := by
  have hg : ∀ j, j < k → (l.take k).getD j pr0 = l.getD j pr0 := fun j hj => by simp [List.getD, List.getElem?_take, hj]
  rcases find_or (l.take k) m r b with ⟨i, hi⟩ | hn
  · constructor
    · intro h; rw [look_at hi] at h; cases h
    · intro h
      have hl := hi.lt
      rw [List.length_take] at hl
      have := hi.is
      rw [hg i (by omega)] at this
      exact absurd this (h i (by omega))
  · constructor
    · intro _ j hj
      have := hn j (by rw [List.length_take]; omega)
      rwa [hg j hj] at this
    · intro _; exact look_no hn
theorem skq (d : Nat) (a b : Int) (w : World) : (Op.equalIn (d + 1) 3 (.int .i64 a) (.int .i64 b)).run Tryz.prog w = .ok (a == b) w := run_equalIn_int w d _ _ _ a b Tryz.underlying3
theorem sk0 (s t c : Int) (w : World) : (part 3 #[.int .i64 s, .int .i64 t, .int .i64 c] 0).run Tryz.prog w = .ok (.int .i64 s) w := by kernel_rfl
theorem sk1 (s t c : Int) (w : World) : (part 3 #[.int .i64 s, .int .i64 t, .int .i64 c] 1).run Tryz.prog w = .ok (.int .i64 t) w := by kernel_rfl
theorem sk2 (s t c : Int) (w : World) : (part 3 #[.int .i64 s, .int .i64 t, .int .i64 c] 2).run Tryz.prog w = .ok (.int .i64 c) w := by kernel_rfl
theorem eqSub (m r b : Int) (p : Pr) (w : World) :
    (Op.equal 140 (.agg #[.int .i64 m, .int .i64 r, .int .i64 b]) (.agg #[.int .i64 p.m, .int .i64 p.r, .int .i64 p.b])).run Tryz.prog w = .ok (decide (m = p.m ∧ r = p.r ∧ b = p.b)) w := by
  unfold Op.equal
  rw [show Op.maxDepth = 9999 + 1 from rfl, run_equalIn_agg w 9999 140 _ _ (by kernel_rfl) (by kernel_rfl)]
  simp only [Program.fieldsOf, Tryz.underlying140, Op.eqFields, Sem.run_bind, Sem.run_ite]
  by_cases h1 : m = p.m <;> by_cases h2 : r = p.r <;> by_cases h3 : b = p.b <;> simp [sk0, sk1, sk2, show (9999 : Nat) = 9998 + 1 from rfl, skq, h1, h2, h3]
theorem chk (em : Bool) (m r b : Int) (w : World) : (Instr.checkKey em 10000 140 (.agg #[.int .i64 m, .int .i64 r, .int .i64 b])).run Tryz.prog w = .ok () w := by kernel_rfl
theorem asking (m r b : Int) (w : World) : ∀ (l : List Pr) (i j : Nat), (look l m r b = none → (Instr.findAsking 140 (.agg #[.int .i64 m, .int .i64 r, .int .i64 b]) (ents l i) j).run Tryz.prog w = .ok none w) ∧
    ∀ t, look l m r b = some t → ∃ q, (Instr.findAsking 140 (.agg #[.int .i64 m, .int .i64 r, .int .i64 b]) (ents l i) j).run Tryz.prog w = .ok (some (q, .int .i64 t)) w
  | [], i, j => ⟨fun _ => rfl, fun t h => by cases h⟩
  | p :: l, i, j => by
    have ih := asking m r b w l (i + 1) (j + 1)
    unfold look
    by_cases hp : m = p.m ∧ r = p.r ∧ b = p.b
    · refine ⟨fun h => (by rw [if_pos hp] at h; cases h), fun t h => ⟨j, ?_⟩⟩
      rw [if_pos hp] at h
      cases h
      simp [ents, Instr.findAsking, ent, eqSub, hp, Sem.run_bind]
    · rw [if_neg hp]
      have e : ∀ X, (Instr.findAsking 140 (.agg #[.int .i64 m, .int .i64 r, .int .i64 b]) (ents (p :: l) i) j).run Tryz.prog w = X ↔ (Instr.findAsking 140 (.agg #[.int .i64 m, .int .i64 r, .int .i64 b]) (ents l (i + 1)) (j + 1)).run Tryz.prog w = X := fun X => by
        simp [ents, Instr.findAsking, ent, eqSub, hp, Sem.run_bind]
      exact ⟨fun h => (e _).2 (ih.1 h), fun t h => (ih.2 t h).imp fun q hq => (e _).2 hq⟩
theorem finding (m r b : Int) (w : World) (l : List Pr) : (look l m r b = none → (Instr.findKey 140 (.agg #[.int .i64 m, .int .i64 r, .int .i64 b]) (ents l 0)).run Tryz.prog w = .ok none w) ∧
    ∀ t, look l m r b = some t → ∃ q, (Instr.findKey 140 (.agg #[.int .i64 m, .int .i64 r, .int .i64 b]) (ents l 0)).run Tryz.prog w = .ok (some (q, .int .i64 t)) w := by
  cases l with
  | nil => exact ⟨fun _ => by simp [Instr.findKey, ents, Instr.findNow, run_underlying Tryz.underlying140, Sem.run_bind], fun t h => by cases h⟩
  | cons p l =>
    have e : (Instr.findKey 140 (.agg #[.int .i64 m, .int .i64 r, .int .i64 b]) (ents (p :: l) 0)).run Tryz.prog w = (Instr.findAsking 140 (.agg #[.int .i64 m, .int .i64 r, .int .i64 b]) (ents (p :: l) 0)).run Tryz.prog w := by
      simp [Instr.findKey, ents, Instr.findNow, Instr.sameNow, run_underlying Tryz.underlying140, Sem.run_bind]
    rw [e]
    exact asking m r b w (p :: l) 0 0
theorem zint (w : World) : (zeroValue 3).run Tryz.prog w = .ok (.int .i64 0) w := by kernel_rfl
theorem look_run {w : World} {B : Nat} {l : List Pr} (h : Mp w B l) (m r b : Int) :
    (Instr.lookup 111 (.map (some B)) (.agg #[.int .i64 m, .int .i64 r, .int .i64 b]) true).run Tryz.prog w = .ok (.tuple #[.int .i64 ((look l m r b).getD 0), .bool (look l m r b).isSome]) w := by
  have hf := finding m r b w l
  cases hl : look l m r b with
  | none => simp [Instr.lookup, run_underlying Tryz.underlying111, MapKept.run_getObj_map h, chk, hf.1 hl, zint, Result.andThen, Sem.run_bind]
  | some t =>
    obtain ⟨q, hq⟩ := hf.2 t hl
    simp [Instr.lookup, run_underlying Tryz.underlying111, MapKept.run_getObj_map h, chk, hq, Result.andThen, Sem.run_bind]
theorem look_nil (w : World) (m r b : Int) :
    (Instr.lookup 111 (.map none) (.agg #[.int .i64 m, .int .i64 r, .int .i64 b]) true).run Tryz.prog w = .ok (.tuple #[.int .i64 0, .bool false]) w := by kernel_rfl
theorem upd_run {w : World} {B : Nat} {l : List Pr} (h : Mp w B l) (m r b t : Int) (hn : look l m r b = none) :
    ∃ W, (Instr.mapUpdate 111 (.map (some B)) (.agg #[.int .i64 m, .int .i64 r, .int .i64 b]) (.int .i64 t)).run Tryz.prog w = .ok () W ∧ Mp W B (l ++ [⟨m, r, b, t⟩]) ∧ (∀ G, G ≠ B → W.heap[G]? = w.heap[G]?) ∧ (∀ B0 w0, B0 ≤ B → Below B0 w0 w → Below B0 w0 W) ∧ W.heap.size = w.heap.size := by
  have hf := (finding m r b w l).1 hn
  refine ⟨setBlock w B (.map ((ents l 0).toArray.push ⟨.agg #[.int .i64 m, .int .i64 r, .int .i64 b], .int .i64 t, l.length⟩) (l.length + 1)), ?_, ?_, fun G hG => heap_setBlock_other h _ hG, fun B0 w0 hB hb => ?_, by simp [setBlock]⟩
  · simp [Instr.mapUpdate, run_underlying Tryz.underlying111, MapKept.run_getObj_map h, chk, hf, MapKept.run_setObj_map _ h, Result.andThen, setBlock, Sem.run_bind]
  · unfold Mp
    rw [heap_setBlock_same h, ents_app, List.length_append]
    simp [ent]
  · refine ⟨hb.os, hb.tape, hb.output, by simp [setBlock]; exact hb.size, fun k hk => ?_⟩
    rw [heap_setBlock_other h _ (by omega)]; exact hb.block k hk
theorem run_mkMap (w : World) (n : Int) : (Instr.makeMap 111 (some (.int .i64 n))).run Tryz.prog w = .ok (.map (some w.heap.size)) (w.alloc (.map #[] 0)) := by kernel_rfl

end Go.Proofs.YtgipkpkjoicehaaGreatDoor.ora

/- The program's oracle: pairs. -/
namespace Go.Proofs.YtgipkpkjoicehaaGreatDoor.ora
open Go.RowKit
set_option maxRecDepth 100000
set_option linter.unusedVariables false
set_option linter.unusedSimpArgs false

theorem of_any (m r b t : Int) (w : World) :
    Calls Tryz.prog 95 #[.agg #[.int .i64 m, .int .i64 r, .int .i64 b, .int .i64 t]] w fun e w' => e = .returned (.agg #[.int .i64 m, .int .i64 r, .int .i64 b]) ∧ Below w.heap.size w w' := by
  have hN := (Blk.new w #[.int .i64 m, .int .i64 r, .int .i64 b, .int .i64 t] 55).alloc (.cells #[.int .i64 0, .int .i64 0, .int .i64 0] 140)
  have c0 := hN.cell 0
  have c1 := hN.cell 1
  have c2 := hN.cell 2
  have hM := Blk.new1 w (.cells #[.int .i64 m, .int .i64 r, .int .i64 b, .int .i64 t] 55) #[.int .i64 0, .int .i64 0, .int .i64 0] 140
  have HM : Hid (Blk _ _ _ _) := hM
  have HB : Hid (Below w.heap.size w ((w.alloc (.cells #[.int .i64 m, .int .i64 r, .int .i64 b, .int .i64 t] 55)).alloc (.cells #[.int .i64 0, .int .i64 0, .int .i64 0] 140))) := ((Below.refl _ _).alloc (Nat.le_refl _) _).alloc (by simp) _
  clear hN hM
  go_enter Tryz.func95, Tryz.ntmps95
  go_wp2_with (first
    | (refine wp_letAll rfl 140 _ _ rfl (w.heap.size + 1) rfl _ rfl (by kernel_rfl) (by simp [Value.oneCell']) _ _ HM.out rfl ?_; intro W hu)
    | fail)
  have d0 := hu.blk.cell 0
  have d1 := hu.blk.cell 1
  have d2 := hu.blk.cell 2
  have HBB : Hid (Below w.heap.size w W) := hu.bel _ _ (by omega) HB.out
  clear hu HM HB c0 c1 c2
  go_wp2_with fail
  exact bodyPost_ret (v := .agg #[.int .i64 m, .int .i64 r, .int .i64 b]) (by simp [results, Tryz.results95, d0, d1, d2, go_sem]) rfl ⟨rfl, HBB.out⟩
set_option maxHeartbeats 1000000 in
theorem within_any (m r b t : Int) (w : World) :
    Calls Tryz.prog 96 #[.agg #[.int .i64 m, .int .i64 r, .int .i64 b, .int .i64 t]] w fun e w' => Told w (Pr.mk m r b t).may e w' := by
  have hN := Blk.new w #[.int .i64 m, .int .i64 r, .int .i64 b, .int .i64 t] 55
  have c0 := hN.cell 0
  have c1 := hN.cell 1
  have c2 := hN.cell 2
  have c3 := hN.cell 3
  have HB : Hid (Below w.heap.size w (w.alloc (.cells #[.int .i64 m, .int .i64 r, .int .i64 b, .int .i64 t] 55))) := (Below.refl _ _).alloc (Nat.le_refl _) _
  clear hN
  by_cases h0 : 0 ≤ m
  · skip
    by_cases h1 : m < 50
    · skip
      by_cases h2 : 0 ≤ r
      · skip
        by_cases h3 : r ≤ 15
        · skip
          by_cases h4 : 0 ≤ b
          · skip
            by_cases h5 : b ≤ 8796093022207
            · skip
              by_cases h6 : 0 ≤ t
              · skip
                by_cases h7 : t ≤ 65535
                · skip
                  have HF : Hid ((Pr.mk m r b t).may) := ⟨⟨h0, by show m ≤ 49; omega⟩, ⟨h2, h3⟩, ⟨h4, h5⟩, ⟨h6, h7⟩⟩
                  have q0 : decide (0 ≤ m) = true := by simp; omega
                  have q1 : decide (m < 50) = true := by simp; omega
                  have q2 : decide (0 ≤ r) = true := by simp; omega
                  have q3 : decide (r ≤ 15) = true := by simp; omega
                  have q4 : decide (0 ≤ b) = true := by simp; omega
                  have q5 : decide (b ≤ 8796093022207) = true := by simp; omega
                  have q6 : decide (0 ≤ t) = true := by simp; omega
                  have q7 : decide (t ≤ 65535) = true := by simp; omega
                  clear h0 h1 h2 h3 h4 h5 h6 h7
                  go_enter Tryz.func96, Tryz.ntmps96
                  go_wp2_with fail
                  go_ret
                  exact Told.yes HF.out HB.out
                · have q7 : decide (t ≤ 65535) = false := by simp; omega
                  have HF : Hid (¬ (Pr.mk m r b t).may) := fun h => by unfold Pr.may at h; simp only at h; omega
                  have q0 : decide (0 ≤ m) = true := by simp; omega
                  have q1 : decide (m < 50) = true := by simp; omega
                  have q2 : decide (0 ≤ r) = true := by simp; omega
                  have q3 : decide (r ≤ 15) = true := by simp; omega
                  have q4 : decide (0 ≤ b) = true := by simp; omega
                  have q5 : decide (b ≤ 8796093022207) = true := by simp; omega
                  have q6 : decide (0 ≤ t) = true := by simp; omega
                  clear h0 h1 h2 h3 h4 h5 h6 h7
                  go_enter Tryz.func96, Tryz.ntmps96
                  go_wp2_with fail
                  go_ret
                  exact Told.no HF.out HB.out
              · have q6 : decide (0 ≤ t) = false := by simp; omega
                have HF : Hid (¬ (Pr.mk m r b t).may) := fun h => by unfold Pr.may at h; simp only at h; omega
                have q0 : decide (0 ≤ m) = true := by simp; omega
                have q1 : decide (m < 50) = true := by simp; omega
                have q2 : decide (0 ≤ r) = true := by simp; omega
                have q3 : decide (r ≤ 15) = true := by simp; omega
                have q4 : decide (0 ≤ b) = true := by simp; omega
                have q5 : decide (b ≤ 8796093022207) = true := by simp; omega
                clear h0 h1 h2 h3 h4 h5 h6
                go_enter Tryz.func96, Tryz.ntmps96
                go_wp2_with fail
                go_ret
                exact Told.no HF.out HB.out
            · have q5 : decide (b ≤ 8796093022207) = false := by simp; omega
              have HF : Hid (¬ (Pr.mk m r b t).may) := fun h => by unfold Pr.may at h; simp only at h; omega
              have q0 : decide (0 ≤ m) = true := by simp; omega
              have q1 : decide (m < 50) = true := by simp; omega
              have q2 : decide (0 ≤ r) = true := by simp; omega
              have q3 : decide (r ≤ 15) = true := by simp; omega
              have q4 : decide (0 ≤ b) = true := by simp; omega
              clear h0 h1 h2 h3 h4 h5
              go_enter Tryz.func96, Tryz.ntmps96
              go_wp2_with fail
              go_ret
              exact Told.no HF.out HB.out
          · have q4 : decide (0 ≤ b) = false := by simp; omega
            have HF : Hid (¬ (Pr.mk m r b t).may) := fun h => by unfold Pr.may at h; simp only at h; omega
            have q0 : decide (0 ≤ m) = true := by simp; omega
            have q1 : decide (m < 50) = true := by simp; omega
            have q2 : decide (0 ≤ r) = true := by simp; omega
            have q3 : decide (r ≤ 15) = true := by simp; omega
            clear h0 h1 h2 h3 h4
            go_enter Tryz.func96, Tryz.ntmps96
            go_wp2_with fail
            go_ret
            exact Told.no HF.out HB.out
        · have q3 : decide (r ≤ 15) = false := by simp; omega
          have HF : Hid (¬ (Pr.mk m r b t).may) := fun h => by unfold Pr.may at h; simp only at h; omega
          have q0 : decide (0 ≤ m) = true := by simp; omega
          have q1 : decide (m < 50) = true := by simp; omega
          have q2 : decide (0 ≤ r) = true := by simp; omega
          clear h0 h1 h2 h3
          go_enter Tryz.func96, Tryz.ntmps96
          go_wp2_with fail
          go_ret
          exact Told.no HF.out HB.out
      · have q2 : decide (0 ≤ r) = false := by simp; omega
        have HF : Hid (¬ (Pr.mk m r b t).may) := fun h => by unfold Pr.may at h; simp only at h; omega
        have q0 : decide (0 ≤ m) = true := by simp; omega
        have q1 : decide (m < 50) = true := by simp; omega
        clear h0 h1 h2
        go_enter Tryz.func96, Tryz.ntmps96
        go_wp2_with fail
        go_ret
        exact Told.no HF.out HB.out
    · have q1 : decide (m < 50) = false := by simp; omega
      have HF : Hid (¬ (Pr.mk m r b t).may) := fun h => by unfold Pr.may at h; simp only at h; omega
      have q0 : decide (0 ≤ m) = true := by simp; omega
      clear h0 h1
      go_enter Tryz.func96, Tryz.ntmps96
      go_wp2_with fail
      go_ret
      exact Told.no HF.out HB.out
  · have q0 : decide (0 ≤ m) = false := by simp; omega
    have HF : Hid (¬ (Pr.mk m r b t).may) := fun h => by unfold Pr.may at h; simp only at h; omega
    clear h0
    go_enter Tryz.func96, Tryz.ntmps96
    go_wp2_with fail
    go_ret
    exact Told.no HF.out HB.out

end Go.Proofs.YtgipkpkjoicehaaGreatDoor.ora

/- The program's oracle: what was given. -/
namespace Go.Proofs.YtgipkpkjoicehaaGreatDoor.ora
open Go.RowKit
set_option maxRecDepth 100000
set_option linter.unusedVariables false
set_option linter.unusedSimpArgs false

/-- What was given, as a map; or nothing. -/
def Given (w : World) (l : List Pr) (e : Ending) (w' : World) : Prop :=
  Below w.heap.size w w' ∧ ((May l ∧ ∃ B, e = .returned (.tuple #[.map (some B), .bool true]) ∧ Mp w' B l) ∨ (¬ May l ∧ e = .returned (.tuple #[.map none, .bool false])))
/-- As far as the loop went. -/
def Seen (l : List Pr) (k : Nat) : Prop := ∀ i, i < k → (l.getD i pr0).may ∧ At l (l.getD i pr0).m (l.getD i pr0).r (l.getD i pr0).b i
/-- The box, the map, and what came in. -/
structure Bg (w wr : World) (B : Nat) (a : Option Addr) (n cap : Nat) (l : List Pr) (k : Nat) : Prop where
  bo : Bo w wr a n cap l
  mp : Mp wr B (l.take k)
  hB : w.heap.size ≤ B
theorem Bg.next {w wr w' : World} {B : Nat} {a : Option Addr} {n cap : Nat} {l : List Pr} {k : Nat} (h : Bg w wr B a n cap l k) (hb : Below wr.heap.size wr w') : Bg w w' B a n cap l k := ⟨h.bo.next hb, h.mp.below hb, h.hB⟩
theorem Bg.alloc {w wr : World} {B : Nat} {a : Option Addr} {n cap : Nat} {l : List Pr} {k : Nat} (h : Bg w wr B a n cap l k) (o : Obj) : Bg w (wr.alloc o) B a n cap l k := h.next ((Below.refl _ _).alloc (Nat.le_refl _) _)
theorem Bg.drew {w wr : World} {B : Nat} {a : Option Addr} {n cap : Nat} {l : List Pr} {k : Nat} (h : Bg w wr B a n cap l k) (q : Nat) : Bg w (wr.drewN q) B a n cap l k := h.next (bel_drew (Below.refl _ _) q)
theorem rowP_oth {w W : World} {a : Option Addr} {n : Nat} {l : List Pr} {B : Nat} {l' : List Pr} (h : RowP w a n l) (hM : Mp w B l') (ho : ∀ G, G ≠ B → W.heap[G]? = w.heap[G]?) : RowP W a n l := by
  refine ⟨h.1, ?_⟩
  rcases h.2 with h0 | ⟨b, off, rfl, hc⟩
  · exact .inl h0
  · refine .inr ⟨b, off, rfl, fun i hi => ?_⟩
    obtain ⟨h1, h2, h3, h4⟩ := hc i hi
    have hb : b ≠ B := by
      rintro rfl
      unfold Mp at hM
      simp [World.cell?, hM] at h1
    have e : ∀ o, W.cell? ⟨b, o, none⟩ = w.cell? ⟨b, o, none⟩ := fun o => by simp only [World.cell?, ho b hb]
    exact ⟨(e _).trans h1, (e _).trans h2, (e _).trans h3, (e _).trans h4⟩
theorem blk_oth {w W : World} {G B : Nat} {cs : Array Value} {t : TypeId} {l' : List Pr} (h : Blk w G cs t) (hM : Mp w B l') (ho : ∀ G, G ≠ B → W.heap[G]? = w.heap[G]?) : Blk W G cs t := by
  have hb : G ≠ B := by
    rintro rfl
    unfold Mp at hM; unfold Blk at h
    rw [h] at hM; cases hM
  unfold Blk at *; rw [ho G hb]; exact h
theorem Bg.put {w wr W : World} {B : Nat} {a : Option Addr} {n cap : Nat} {l : List Pr} {k : Nat} (h : Bg w wr B a n cap l k) (hk : k < l.length) (hM : Mp W B (l.take k ++ [⟨(l.getD k pr0).m, (l.getD k pr0).r, (l.getD k pr0).b, (l.getD k pr0).t⟩]))
    (ho : ∀ G, G ≠ B → W.heap[G]? = wr.heap[G]?) (hb : ∀ B0 w0, B0 ≤ B → Below B0 w0 wr → Below B0 w0 W) : Bg w W B a n cap l (k + 1) :=
  ⟨⟨blk_oth h.bo.box h.mp ho, rowP_oth h.bo.row h.mp ho, hb _ _ h.hB h.bo.bel⟩, by rw [take_nextP l k hk] at hM; exact hM, h.hB⟩
theorem seen_no {l : List Pr} {k : Nat} (hk : k < l.length) (hm : May l) : look (l.take k) (l.getD k pr0).m (l.getD k pr0).r (l.getD k pr0).b = none := (look_take (by omega)).2 (hm.each k hk).2.first
theorem seen_yes {l : List Pr} {k : Nat} (hk : k < l.length) (hs : Seen l k) (hl : look (l.take k) (l.getD k pr0).m (l.getD k pr0).r (l.getD k pr0).b = none) (hp : (Pr.mk (l.getD k pr0).m (l.getD k pr0).r (l.getD k pr0).b (l.getD k pr0).t).may) : Seen l (k + 1) := fun i hi => by
  by_cases e : i = k
  · subst e; exact ⟨hp, hk, ⟨rfl, rfl, rfl⟩, (look_take (by omega)).1 hl⟩
  · exact hs i (by omega)
set_option maxHeartbeats 2000000 in
theorem given_any (a : Option Addr) (n cap : Nat) (l : List Pr) (w : World) (hr : RowP w a n l) :
    Calls Tryz.prog 63 #[.agg #[.slice a n cap]] w fun e w' => Given w l e w' := by
  have HB0 : Hid (Bo w (w.alloc (.cells #[.slice a n cap] 25)) a n cap l) := Bo.new hr
  have HL : Hid (l.length = n) := hr.1
  clear hr
  have c0 := HB0.out.box.cell 0
  by_cases hn : n ≤ 500
  · have hgt' : decide ((500 : Int) < (n : Int)) = false := by simp; omega
    obtain ⟨B, hBe⟩ : ∃ B, B = w.heap.size + 1 := ⟨_, rfl⟩
    have hmk : ∀ z : Int, (Instr.makeMap 111 (some (.int .i64 z))).run Tryz.prog (w.alloc (.cells #[.slice a n cap] 25)) = .ok (.map (some B)) ((w.alloc (.cells #[.slice a n cap] 25)).alloc (.map #[] 0)) := fun z => by rw [run_mkMap, hBe]; simp
    have HG0 : Hid (Bg w ((w.alloc (.cells #[.slice a n cap] 25)).alloc (.map #[] 0)) B a n cap l 0) := ⟨HB0.out.alloc _, by
      have := Mp.new (w.alloc (.cells #[.slice a n cap] 25))
      rw [show (w.alloc (.cells #[.slice a n cap] 25)).heap.size = B by rw [hBe]; simp] at this
      rw [List.take_zero]; exact this, by omega⟩
    have d0 := HG0.out.bo.box.cell 0
    clear hBe HB0
    have HPM : Hid (∀ W m r b t, Calls Tryz.prog 96 #[.agg #[.int .i64 m, .int .i64 r, .int .i64 b, .int .i64 t]] W fun e w' => Told W (Pr.mk m r b t).may e w') := fun W m r b t => within_any m r b t W
    have HOF : Hid (∀ W m r b t, Calls Tryz.prog 95 #[.agg #[.int .i64 m, .int .i64 r, .int .i64 b, .int .i64 t]] W fun e w' => e = .returned (.agg #[.int .i64 m, .int .i64 r, .int .i64 b]) ∧ Below W.heap.size W w') := fun W m r b t => of_any m r b t W
    go_enter Tryz.func63, Tryz.ntmps63
    go_wp2_with fail
    clear c0 d0 hmk hgt'
    generalize (w.alloc (.cells #[.slice a n cap] 25)).alloc (.map #[] 0) = W0 at *
    go_loopw [20] (fun j wr => ∃ k : Nat, k ≤ n ∧ j = .int .i64 (k : Int) ∧ Hid (Seen l k) ∧ Bg w wr B a n cap l k) (fun j _ => n - (intOf j).toNat)
    case atStart => exact ⟨0, Nat.zero_le _, rfl, fun i hi => absurd hi (Nat.not_lt_zero _), HG0.out⟩
    case round =>
      obtain ⟨k, hk, rfl, HA, hbo⟩ := hrel
      have HI : Hid (Bg w wr B a n cap l k) := hbo
      clear hbo HG0
      by_cases hlt : k < n
      · obtain ⟨bl, off, rfl, _, hc⟩ := HI.out.bo.row.at (by omega)
        obtain ⟨f0, f1, f2, f3⟩ := hc k hlt
        have hkl : k < l.length := by rw [HL.out]; exact hlt
        have HNO : Hid (look (l.take k) (l.getD k pr0).m (l.getD k pr0).r (l.getD k pr0).b ≠ none → ¬ May l) := fun h hm => h (seen_no hkl hm)
        have HN1 : Hid (May l → (Pr.mk (l.getD k pr0).m (l.getD k pr0).r (l.getD k pr0).b (l.getD k pr0).t).may) := fun hm => (hm.each k hkl).1
        have HNX : Hid (look (l.take k) (l.getD k pr0).m (l.getD k pr0).r (l.getD k pr0).b = none → (Pr.mk (l.getD k pr0).m (l.getD k pr0).r (l.getD k pr0).b (l.getD k pr0).t).may → Seen l (k + 1)) := fun h1 h2 => seen_yes hkl HA.out h1 h2
        have HPUT : Hid (∀ v W, Bg w v B (some ⟨bl, off, none⟩) n cap l k → Mp W B (l.take k ++ [⟨(l.getD k pr0).m, (l.getD k pr0).r, (l.getD k pr0).b, (l.getD k pr0).t⟩]) → (∀ G, G ≠ B → W.heap[G]? = v.heap[G]?) → (∀ B0 w0, B0 ≤ B → Below B0 w0 v → Below B0 w0 W) → Bg w W B (some ⟨bl, off, none⟩) n cap l (k + 1)) := fun v W h1 h2 h3 h4 => h1.put hkl h2 h3 h4
        clear hc HA hkl
        generalize (l.getD k pr0).m = pm at *
        generalize (l.getD k pr0).r = prr at *
        generalize (l.getD k pr0).b = pb at *
        generalize (l.getD k pr0).t = pt at *
        have hN := Blk.new wr #[.int .i64 pm, .int .i64 prr, .int .i64 pb, .int .i64 pt] 55
        have n0 := hN.cell 0
        have n1 := hN.cell 1
        have n2 := hN.cell 2
        have n3 := hN.cell 3
        have HNB : Hid (Blk (wr.alloc (.cells #[.int .i64 pm, .int .i64 prr, .int .i64 pb, .int .i64 pt] 55)) wr.heap.size #[.int .i64 pm, .int .i64 prr, .int .i64 pb, .int .i64 pt] 55) := hN
        have HI2 : Hid (Bg w (wr.alloc (.cells #[.int .i64 pm, .int .i64 prr, .int .i64 pb, .int .i64 pt] 55)) B (some ⟨bl, off, none⟩) n cap l k) := HI.out.alloc _
        clear hN HI
        go_wp2_with fail
        refine (HOF.out _ _ _ _ _).mono ?_
        rintro e w2 ⟨rfl, hb2⟩
        have HI3 : Hid (Bg w w2 B (some ⟨bl, off, none⟩) n cap l k) := HI2.out.next hb2
        have HM : Hid (Blk w2 wr.heap.size #[.int .i64 pm, .int .i64 prr, .int .i64 pb, .int .i64 pt] 55) := HNB.out.next hb2
        have m0 := HM.out.cell 0
        have m1 := HM.out.cell 1
        have m2 := HM.out.cell 2
        have m3 := HM.out.cell 3
        have hlk := look_run HI3.out.mp pm prr pb
        clear HNB hb2 n0 n1 n2 n3 HI2 f0 f1 f2 f3
        generalize wr.heap.size = gn at *
        cases hlo : look (l.take k) pm prr pb with
        | some x =>
          rw [hlo] at hlk
          simp only [Option.getD_some, Option.isSome_some] at hlk
          have HF : Hid (¬ May l) := HNO.out (by rw [hlo]; exact fun h => by cases h)
          clear hlo
          go_wp2_with fail
          go_ret2
          exact ⟨HI3.out.bo.bel, .inr ⟨HF.out, rfl⟩⟩
        | none =>
          rw [hlo] at hlk
          simp only [Option.getD_none, Option.isSome_none] at hlk
          have HLO : Hid (look (l.take k) pm prr pb = none) := hlo
          clear hlo
          go_wp2_with fail
          refine (HPM.out _ _ _ _ _).mono ?_
          rintro e w3 ⟨rr, rfl, hrr, hb3⟩
          have HI4 : Hid (Bg w w3 B (some ⟨bl, off, none⟩) n cap l k) := HI3.out.next hb3
          have HM3 : Hid (Blk w3 gn #[.int .i64 pm, .int .i64 prr, .int .i64 pb, .int .i64 pt] 55) := HM.out.next hb3
          clear hlk m0 m1 m2 m3 HM HI3 hb3
          cases rr with
          | false =>
            have HF : Hid (¬ May l) := fun hm => by have := hrr.2 (HN1.out hm); cases this
            clear hrr
            go_wp2_with fail
            go_ret2
            exact ⟨HI4.out.bo.bel, .inr ⟨HF.out, rfl⟩⟩
          | true =>
            have HPY : Hid ((Pr.mk pm prr pb pt).may) := hrr.1 rfl
            clear hrr
            have K3 : Hid (w3.drew.cell? ⟨gn, 0, none⟩ = some (.int .i64 pm) ∧ w3.drew.cell? ⟨gn, 0 + 1, none⟩ = some (.int .i64 prr) ∧ w3.drew.cell? ⟨gn, 0 + 2, none⟩ = some (.int .i64 pb) ∧ w3.drew.cell? ⟨gn, 0 + 3, none⟩ = some (.int .i64 pt)) := ⟨HM3.out.cell 0, HM3.out.cell 1, HM3.out.cell 2, HM3.out.cell 3⟩
            have HI5 : Hid (Bg w w3.drew B (some ⟨bl, off, none⟩) n cap l k) := HI4.out.drew 1
            have HM5 : Hid (Blk w3.drew gn #[.int .i64 pm, .int .i64 prr, .int .i64 pb, .int .i64 pt] 55) := HM3.out
            go_wp2_with fail
            go_region_held_law (fun v => v.cell? ⟨gn, 0, none⟩ = some (.int .i64 pm) ∧ v.cell? ⟨gn, 0 + 1, none⟩ = some (.int .i64 prr) ∧ v.cell? ⟨gn, 0 + 2, none⟩ = some (.int .i64 pb) ∧ v.cell? ⟨gn, 0 + 3, none⟩ = some (.int .i64 pt))
              (first | with_reducible exact K3.out | with_reducible exact K4.out | with_reducible exact K5.out)
              (first
                | (go_at_call 95; refine (HOF.out _ _ _ _ _).mono ?_; rintro e w4 ⟨rfl, hb4⟩
                   have HI6 : Hid (Bg w w4 B (some ⟨bl, off, none⟩) n cap l k) := HI5.out.next hb4
                   have HM6 : Hid (Blk w4 gn #[.int .i64 pm, .int .i64 prr, .int .i64 pb, .int .i64 pt] 55) := HM5.out.next hb4
                   have K4 : Hid (w4.cell? ⟨gn, 0, none⟩ = some (.int .i64 pm) ∧ w4.cell? ⟨gn, 0 + 1, none⟩ = some (.int .i64 prr) ∧ w4.cell? ⟨gn, 0 + 2, none⟩ = some (.int .i64 pb) ∧ w4.cell? ⟨gn, 0 + 3, none⟩ = some (.int .i64 pt)) := ⟨HM6.out.cell 0, HM6.out.cell 1, HM6.out.cell 2, HM6.out.cell 3⟩
                   obtain ⟨W5, hu5, hm5, ho5, hb5, hs5⟩ := upd_run HI6.out.mp pm prr pb pt HLO.out
                   have HI7 : Hid (Bg w W5 B (some ⟨bl, off, none⟩) n cap l (k + 1)) := HPUT.out _ _ HI6.out hm5 ho5 hb5
                   have hM7 := blk_oth HM6.out HI6.out.mp ho5
                   have K5 : Hid (W5.cell? ⟨gn, 0, none⟩ = some (.int .i64 pm) ∧ W5.cell? ⟨gn, 0 + 1, none⟩ = some (.int .i64 prr) ∧ W5.cell? ⟨gn, 0 + 2, none⟩ = some (.int .i64 pb) ∧ W5.cell? ⟨gn, 0 + 3, none⟩ = some (.int .i64 pt)) := ⟨hM7.cell 0, hM7.cell 1, hM7.cell 2, hM7.cell 3⟩
                   clear hm5 ho5 hb5 hs5 hM7 hb4))
            all_goals go_wp2_with fail
            all_goals go_roundw
            case rel => exact ⟨k + 1, by omega, by go_num, HNX.out HLO.out HPY.out, HI7.out⟩
            case measure => simp [intOf]; omega
      · obtain rfl : k = n := by omega
        have hlt' : decide ((k : Int) < (k : Int)) = false := by simp
        have HF : Hid (May l) := ⟨by rw [HL.out]; exact hn, fun i hi => HA.out i (by rw [← HL.out]; exact hi)⟩
        have HM : Hid (Mp wr B l) := by have := HI.out.mp; rw [List.take_of_length_le (by rw [HL.out]; exact Nat.le_refl _)] at this; exact this
        clear hlt HA
        go_wp2_with fail
        go_ret2
        exact ⟨HI.out.bo.bel, .inl ⟨HF.out, B, rfl, HM.out⟩⟩
  · have hgt' : decide ((500 : Int) < (n : Int)) = true := by simp; omega
    have HF : Hid (¬ May l) := fun h => by have := h.few; rw [HL.out] at this; omega
    clear hn HL
    go_enter Tryz.func63, Tryz.ntmps63
    go_wp2_with fail
    go_ret2
    exact ⟨HB0.out.bel, .inr ⟨HF.out, rfl⟩⟩

end Go.Proofs.YtgipkpkjoicehaaGreatDoor.ora

/- The program's oracle: May, Verify, Issue. -/
namespace Go.Proofs.YtgipkpkjoicehaaGreatDoor.ora
open Go.RowKit
set_option maxRecDepth 100000
set_option linter.unusedVariables false
set_option linter.unusedSimpArgs false

theorem pom (a : Option Addr) (n cap : Nat) (l : List Pr) (w : World) (hr : RowP w a n l) :
    Calls Tryz.prog 28 #[.agg #[.slice a n cap]] w fun e w' => Told w (May l) e w' := by
  have HB0 : Hid (Bo w (w.alloc (.cells #[.slice a n cap] 25)) a n cap l) := Bo.new hr
  have HM : Hid (∀ W, RowP W a n l → Calls Tryz.prog 63 #[.agg #[.slice a n cap]] W fun e w' => Given W l e w') := fun W h => given_any a n cap l W h
  clear hr
  have c0 := HB0.out.box.cell 0
  go_enter Tryz.func28, Tryz.ntmps28
  go_wp2_with fail
  refine (HM.out _ HB0.out.row).mono ?_
  rintro e w1 ⟨hb, ⟨hm, B, rfl, _⟩ | ⟨hm, rfl⟩⟩
  · have HF : Hid (May l ∧ Below w.heap.size w w1) := ⟨hm, bel_step HB0.out.bel hb⟩
    clear hm hb
    go_wp2_with fail
    go_ret
    exact Told.yes HF.out.1 HF.out.2
  · have HF : Hid (¬ May l ∧ Below w.heap.size w w1) := ⟨hm, bel_step HB0.out.bel hb⟩
    clear hm hb
    go_wp2_with fail
    go_ret
    exact Told.no HF.out.1 HF.out.2
set_option maxHeartbeats 1000000 in
theorem pov (a : Option Addr) (n cap : Nat) (l : List Pr) (m r b t : Int) (w : World) (hr : RowP w a n l) :
    Calls Tryz.prog 98 #[.agg #[.slice a n cap], .int .i64 m, .int .i64 r, .int .i64 b, .int .i64 t] w fun e w' => Told w (Is l m r b t) e w' := by
  have HB0 : Hid (Bo w (w.alloc (.cells #[.slice a n cap] 25)) a n cap l) := Bo.new hr
  have HM : Hid (∀ W, RowP W a n l → Calls Tryz.prog 63 #[.agg #[.slice a n cap]] W fun e w' => Given W l e w') := fun W h => given_any a n cap l W h
  clear hr
  have c0 := HB0.out.box.cell 0
  go_enter Tryz.func98, Tryz.ntmps98
  go_wp2_with fail
  refine (HM.out _ HB0.out.row).mono ?_
  rintro e w1 ⟨hb, ⟨hm, B, rfl, hmp⟩ | ⟨hm, rfl⟩⟩
  · have HBB : Hid (Below w.heap.size w w1) := bel_step HB0.out.bel hb
    have hlk := look_run hmp m r b
    rcases find_or l m r b with ⟨i, hi⟩ | hno
    · rw [look_at hi] at hlk
      simp only [Option.getD_some, Option.isSome_some] at hlk
      have HIS : Hid (Is l m r b t ↔ (l.getD i pr0).t = t) := ⟨fun h => by obtain ⟨_, j, hj, hx⟩ := h; have := hi.one hj; subst this; exact hx, fun h => ⟨hm, i, hi, h⟩⟩
      clear hb hmp hm hi HB0 c0
      generalize (l.getD i pr0).t = pt at *
      by_cases hx : pt = t
      · have hq : (t == pt) = true := by simp [hx]
        have HF : Hid (Is l m r b t) := HIS.out.2 hx
        clear hx
        go_wp2_with fail
        go_ret
        exact Told.yes HF.out HBB.out
      · have hq : (t == pt) = false := by simp; exact fun h => hx h.symm
        have HF : Hid (¬ Is l m r b t) := fun h => hx (HIS.out.1 h)
        clear hx
        go_wp2_with fail
        go_ret
        exact Told.no HF.out HBB.out
    · rw [look_no hno] at hlk
      simp only [Option.getD_none, Option.isSome_none] at hlk
      have HF : Hid (¬ Is l m r b t) := fun h => by obtain ⟨_, j, hj, _⟩ := h; exact hj.not hno
      clear hb hmp hm hno HB0 c0
      go_wp2_with fail
      go_ret
      exact Told.no HF.out HBB.out
  · have HBB : Hid (Below w.heap.size w w1) := bel_step HB0.out.bel hb
    have hlk := look_nil w1 m r b
    have HF : Hid (¬ Is l m r b t) := fun h => hm h.1
    clear hb hm HB0 c0
    go_wp2_with fail
    go_ret
    exact Told.no HF.out HBB.out

end Go.Proofs.YtgipkpkjoicehaaGreatDoor.ora

/- Whether a token was sold here, under the key of now or of before. -/
namespace Go.Proofs.YtgipkpkjoicehaaGreatDoor.met
open Go.RowKit Go.Proofs.YtgipkpkjoicehaaGreatDoor.ora
set_option maxRecDepth 100000
set_option linter.unusedVariables false
set_option linter.unusedSimpArgs false

/-- While it is found out: the meter at work, and the box of the oracle. -/
structure Kn (w wr : World) (g : Nat) (m : Mt) (a : Option Addr) (n cap : Nat) (l : List Pr) : Prop where
  wk : Wk wr g m
  box : Blk wr w.heap.size #[.slice a n cap] 25
  row : RowP wr a n l
  bel : Below w.heap.size w wr
theorem Kn.next {w wr w' : World} {g : Nat} {m : Mt} {a : Option Addr} {n cap : Nat} {l : List Pr} (h : Kn w wr g m a n cap l) (hb : Below wr.heap.size wr w') : Kn w w' g m a n cap l := ⟨h.wk.next hb, h.box.next hb, h.row.below hb, bel_step h.bel hb⟩
theorem Kn.new {w : World} {g : Nat} {m : Mt} {a : Option Addr} {n : Nat} (cap : Nat) {l : List Pr} (hw : Wk w g m) (hr : RowP w a n l) : Kn w (w.alloc (.cells #[.slice a n cap] 25)) g m a n cap l := by
  have hb : Below w.heap.size w (w.alloc (.cells #[.slice a n cap] 25)) := (Below.refl _ _).alloc (Nat.le_refl _) _
  exact ⟨hw.alloc _, Blk.new _ _ _, hr.below hb, hb⟩
theorem Kn.drew {w wr : World} {g : Nat} {m : Mt} {a : Option Addr} {n cap : Nat} {l : List Pr} (h : Kn w wr g m a n cap l) (q : Nat) : Kn w (wr.drewN q) g m a n cap l := ⟨h.wk, h.box, h.row, bel_drew h.bel q⟩
theorem Kn.cells {w wr : World} {g n cap : Nat} {a : Option Addr} {l : List Pr} {me rev cr h : Int} {b : Nat} {bad lock : Int} (hk : Kn w wr g ⟨me, rev, cr, h, b, bad, lock⟩ a n cap l) : wr.cell? ⟨w.heap.size, 0, none⟩ = some (.slice a n cap) ∧ wr.cell? ⟨g, 0, none⟩ = some (.int .i64 me) ∧ wr.cell? ⟨g, 1, none⟩ = some (.int .i64 rev) :=
  ⟨hk.box.cell 0, Blk.cell hk.wk 0, Blk.cell hk.wk 1⟩
/-- What is found out. -/
def Know (w : World) (g : Nat) (m : Mt) (l : List Pr) (bo t : Int) (e : Ending) (w' : World) : Prop :=
  Chg w w' g ∧ ((Here l m.me m.rev bo t ∧ e = .returned (.int .i64 0) ∧ Wk w' g m) ∨ (¬ Here l m.me m.rev bo t ∧ Early l m.me m.rev bo t ∧ e = .returned (.int .i64 11) ∧ Wk w' g m) ∨ (¬ Here l m.me m.rev bo t ∧ ¬ Early l m.me m.rev bo t ∧ e = .returned (.int .i64 12) ∧ Wk w' g (badTry m)))
theorem not_early {l : List Pr} (hm : May l) {me rev bo t : Int} (h : ∀ k : Nat, (k : Int) < rev → ¬ Is l me (k : Int) bo t) : ¬ Early l me rev bo t := by
  rintro ⟨j, hj, h1, h2, h3, h4⟩
  have hp := (hm.each j hj).1.2.1
  refine h (l.getD j pr0).r.toNat (by omega) ?_
  rw [here_is hm]
  exact ⟨j, hj, h1, h2, h3, by omega⟩
set_option maxHeartbeats 2000000 in
theorem pknow (g : Nat) (m : Mt) (a : Option Addr) (n cap : Nat) (l : List Pr) (bo t : Int) (w : World) (hw : Wk w g m) (hr : RowP w a n l) (hl : May l) (hm : m.may) :
    Calls Tryz.prog 65 #[.pointer (some ⟨g, 0, none⟩), .agg #[.slice a n cap], .int .i64 bo, .int .i64 t] w fun e w' => Know w g m l bo t e w' := by
  have HV : Hid (∀ W r, RowP W a n l → Calls Tryz.prog 98 #[.agg #[.slice a n cap], .int .i64 m.me, .int .i64 r, .int .i64 bo, .int .i64 t] W fun e w' => ora.Told W (Is l m.me r bo t) e w') := fun W r h => pov a n cap l m.me r bo t W h
  have HBD : Hid (∀ W, Wk W g m → Calls Tryz.prog 99 #[.pointer (some ⟨g, 0, none⟩)] W fun e w' => e = .returned (.tuple #[]) ∧ Wk w' g (badTry m) ∧ Chg W w' g) := fun W h => pbad g m W h hm.bad
  have HHE : Hid (Is l m.me m.rev bo t ↔ Here l m.me m.rev bo t) := here_is hl m.me m.rev bo t
  have HEA : Hid (∀ k : Nat, (k : Int) < m.rev → Is l m.me (k : Int) bo t → Early l m.me m.rev bo t) := fun k hk h => (early_is hl m.me m.rev bo t).2 ⟨_, hk, h⟩
  have HNE : Hid ((∀ k : Nat, (k : Int) < m.rev → ¬ Is l m.me (k : Int) bo t) → ¬ Early l m.me m.rev bo t) := fun h => not_early hl h
  have HK0 : Hid (Kn w (w.alloc (.cells #[.slice a n cap] 25)) g m a n cap l) := Kn.new cap hw hr
  have hv0 := hm.rev
  clear hw hr hl hm
  obtain ⟨me, rev, cr, h, b, bad, lock⟩ := m
  simp only [] at HV HHE HEA HNE hv0
  have HV0 : Hid (Kn w (w.alloc (.cells #[.slice a n cap] 25)).drew g ⟨me, rev, cr, h, b, bad, lock⟩ a n cap l) := HK0.out.drew 1
  have KD : Hid ((w.alloc (.cells #[.slice a n cap] 25)).drew.cell? ⟨w.heap.size, 0, none⟩ = some (.slice a n cap) ∧ (w.alloc (.cells #[.slice a n cap] 25)).drew.cell? ⟨g, 0, none⟩ = some (.int .i64 me) ∧ (w.alloc (.cells #[.slice a n cap] 25)).drew.cell? ⟨g, 1, none⟩ = some (.int .i64 rev)) := HV0.out.cells
  go_enter Tryz.func65, Tryz.ntmps65
  go_wp2_with fail
  go_region_held_law (fun v => v.cell? ⟨w.heap.size, 0, none⟩ = some (.slice a n cap) ∧ v.cell? ⟨g, 0, none⟩ = some (.int .i64 me) ∧ v.cell? ⟨g, 1, none⟩ = some (.int .i64 rev))
    (first | with_reducible exact KD.out | with_reducible exact K1.out)
    (first
      | (go_at_call 98; refine (HV.out _ _ (by with_reducible exact HV0.out.row)).mono ?_; rintro e w1 ⟨r, rfl, hr, hb1⟩
         have HK1 : Hid (Kn w w1 g ⟨me, rev, cr, h, b, bad, lock⟩ a n cap l) := HV0.out.next hb1
         have K1 : Hid (w1.cell? ⟨w.heap.size, 0, none⟩ = some (.slice a n cap) ∧ w1.cell? ⟨g, 0, none⟩ = some (.int .i64 me) ∧ w1.cell? ⟨g, 1, none⟩ = some (.int .i64 rev)) := HK1.out.cells
         clear hb1))
  have HR : Hid (r = true ↔ Is l me rev bo t) := hr
  clear hr KD HV0 HK0
  cases r with
  | true =>
    have HF : Hid (Here l me rev bo t) := HHE.out.1 (HR.out.1 rfl)
    clear HR
    go_wp2_with fail
    go_ret
    exact ⟨.of HK1.out.bel, .inl ⟨HF.out, rfl, HK1.out.wk⟩⟩
  | false =>
    have HF : Hid (¬ Here l me rev bo t) := fun h => by have := HR.out.2 (HHE.out.2 h); cases this
    clear HR
    have c1 : w1.cell? ⟨g, 1, none⟩ = some (.int .i64 rev) := K1.out.2.2
    go_wp2_with fail
    clear c1 K1
    go_loopw [29] (fun j wr => ∃ k : Nat, j = .int .i64 (k : Int) ∧ (k : Int) ≤ rev ∧ Hid (∀ i : Nat, i < k → ¬ Is l me (i : Int) bo t) ∧ Kn w wr g ⟨me, rev, cr, h, b, bad, lock⟩ a n cap l) (fun j _ => (rev - intOf j).toNat)
    case atStart => exact ⟨0, rfl, hv0.1, (fun i hi => absurd hi (Nat.not_lt_zero _)), HK1.out⟩
    case round =>
      obtain ⟨k, rfl, hk, HN, hkn⟩ := hrel
      have HK : Hid (Kn w wr g ⟨me, rev, cr, h, b, bad, lock⟩ a n cap l) := hkn
      clear hkn HK1
      by_cases hlt : (k : Int) < rev
      · have hd : decide ((k : Int) < rev) = true := by simp [hlt]
        have HVr : Hid (Kn w wr.drew g ⟨me, rev, cr, h, b, bad, lock⟩ a n cap l) := HK.out.drew 1
        have KDr : Hid (wr.drew.cell? ⟨w.heap.size, 0, none⟩ = some (.slice a n cap) ∧ wr.drew.cell? ⟨g, 0, none⟩ = some (.int .i64 me) ∧ wr.drew.cell? ⟨g, 1, none⟩ = some (.int .i64 rev)) := HVr.out.cells
        go_wp2_with fail
        go_region_held_law (fun v => v.cell? ⟨w.heap.size, 0, none⟩ = some (.slice a n cap) ∧ v.cell? ⟨g, 0, none⟩ = some (.int .i64 me) ∧ v.cell? ⟨g, 1, none⟩ = some (.int .i64 rev))
          (first | with_reducible exact KDr.out | with_reducible exact K2.out)
          (first
            | (go_at_call 98; refine (HV.out _ _ (by with_reducible exact HVr.out.row)).mono ?_; rintro e w2 ⟨r, rfl, hr, hb2⟩
               have HK2 : Hid (Kn w w2 g ⟨me, rev, cr, h, b, bad, lock⟩ a n cap l) := HVr.out.next hb2
               have K2 : Hid (w2.cell? ⟨w.heap.size, 0, none⟩ = some (.slice a n cap) ∧ w2.cell? ⟨g, 0, none⟩ = some (.int .i64 me) ∧ w2.cell? ⟨g, 1, none⟩ = some (.int .i64 rev)) := HK2.out.cells
               clear hb2))
        have HR : Hid (r = true ↔ Is l me (k : Int) bo t) := hr
        clear hr KDr HVr HK K2
        cases r with
        | true =>
          have HE : Hid (Early l me rev bo t) := HEA.out k hlt (HR.out.1 rfl)
          clear HR hd
          go_wp2_with fail
          go_ret
          exact ⟨.of HK2.out.bel, .inr (.inl ⟨HF.out, HE.out, rfl, HK2.out.wk⟩)⟩
        | false =>
          have HNX : Hid (∀ i : Nat, i < k + 1 → ¬ Is l me (i : Int) bo t) := fun i hi h => by
            by_cases e : i = k
            · subst e; have := HR.out.2 h; cases this
            · exact HN.out i (by omega) h
          clear HR hd
          go_wp2_with fail
          go_roundw
          case rel => exact ⟨k + 1, by go_num, by omega, HNX, HK2.out⟩
          case measure => simp [intOf]; omega
      · have hd : decide ((k : Int) < rev) = false := by simp; omega
        have HE : Hid (¬ Early l me rev bo t) := HNE.out fun i hi => HN.out i (by omega)
        clear HN hlt hk
        go_wp2_with fail
        refine (HBD.out _ HK.out.wk).mono ?_
        rintro e w3 ⟨rfl, hw3, hc3⟩
        have HW3 : Hid (Wk w3 g (badTry ⟨me, rev, cr, h, b, bad, lock⟩)) := hw3
        have HC3 : Hid (Chg w w3 g) := (Chg.of HK.out.bel).trans hc3
        clear hw3 hc3
        go_wp2_with fail
        go_ret
        exact ⟨HC3.out, .inr (.inr ⟨HF.out, HE.out, rfl, HW3.out⟩)⟩

end Go.Proofs.YtgipkpkjoicehaaGreatDoor.met

/- What the program's keying does. -/
namespace Go.Proofs.YtgipkpkjoicehaaGreatDoor.met
open Go.RowKit Go.Proofs.YtgipkpkjoicehaaGreatDoor.ora
set_option maxRecDepth 100000
set_option linter.unusedVariables false
set_option linter.unusedSimpArgs false

def KKey (I : World → Prop) : Prop := ∀ W (m : Mt) a n cap l c i am t, I W → m.b < 18446744073709551616 → RowP W a n l → (a = none → cap = 0) → n ≤ cap → Calls Tryz.prog 13 #[m.v, .agg #[.slice a n cap], .agg #[.int .i64 c, .int .i64 i, .int .i64 am, .int .i64 t]] W fun e w' => KeyPost W m l c i am t e w'

end Go.Proofs.YtgipkpkjoicehaaGreatDoor.met

/- A meter at work keys a token in. -/
namespace Go.Proofs.YtgipkpkjoicehaaGreatDoor.met
open Go.RowKit Go.Proofs.YtgipkpkjoicehaaGreatDoor.ora Go.Proofs.YtgipkpkjoicehaaGreatDoor.token
set_option maxRecDepth 100000
set_option linter.unusedVariables false
set_option linter.unusedSimpArgs false

/-- What taking gives, of keying. -/
def TakeK (w : World) (g : Nat) (m : Mt) (c i am : Int) (e : Ending) (w' : World) : Prop :=
  Chg w w' g ∧ ∃ m' x f, e = .returned (.tuple #[.int .i64 x, .int .i64 f]) ∧ Wk w' g m' ∧ ∀ (l : List Pr) (t bo : Int), (m.may ∧ May l) → flawT c i am t = 0 → m.lock ≤ 0 → Here l m.me m.rev bo t → KeyIs m l c i am t bo m' x f
theorem run_fill (args : Array Value) (w : World) : (callFunc 115 args).run Tryz.prog w = .ok (.enter 115 args) w := by kernel_rfl
theorem run_empty (args : Array Value) (w : World) : (callFunc 116 args).run Tryz.prog w = .ok (.enter 116 args) w := by kernel_rfl
theorem run_rekey (args : Array Value) (w : World) : (callFunc 117 args).run Tryz.prog w = .ok (.enter 117 args) w := by kernel_rfl
theorem fill_bd {i am t : Int} (h : flawT 0 i am t = 0) : 0 ≤ am ∧ am ≤ 2097151 := by
  obtain ⟨k, hk, h1, h2, h3, h4⟩ := flaw_ok h
  rw [flawT_in (by omega)] at h
  split at h
  · rename_i h5
    simp only [Bool.and_eq_true, hasI_yes] at h5
    have h6 := h5.2.1
    unfold amLo amHi at h6
    simp at h6
    omega
  · cases h
theorem ptakes (g : Nat) (m : Mt) (c i am t : Int) (w : World) (hw : Wk w g m) (hb : m.b < 18446744073709551616) (hm : m.may) (hf : flawT c i am t = 0) (h3 : c ≠ 3) :
    Calls Tryz.prog 66 #[.pointer (some ⟨g, 0, none⟩), .agg #[.int .i64 c, .int .i64 i, .int .i64 am, .int .i64 t]] w fun e w' => TakeK w g m c i am e w' := by
  have hc : 0 ≤ c ∧ c ≤ 3 := by
    by_cases hx : c < 0 ∨ 3 < c
    · rw [flawT_class hx] at hf; cases hf
    · omega
  rcases (by omega : c = 0 ∨ c = 1 ∨ c = 2) with rfl | rfl | rfl
  · refine (take_abs 115 g m 0 i am t (99999999 - m.cr < am) 15 am { m with cr := m.cr + am } w hw hb (by decide) run_fill (fun W => pdeed0 g W) (fun W h => pfill g m am W h hm.cr (fill_bd hf))).mono ?_
    rintro e w' ⟨hch, ⟨j, hj, hj0, rfl, hw'⟩ | ⟨hj, hno, rfl, hw'⟩ | ⟨hj, hno, rfl, hw'⟩⟩
    · exact ⟨hch, m, 0, j, rfl, hw', fun l t bo h1 h2 h4 h5 => .judge j h1 h2 h4 (by decide) h5 hj hj0⟩
    · exact ⟨hch, m, 0, 15, rfl, hw', fun l t bo h1 h2 h4 h5 => .full h1 h2 h4 (by decide) h5 hj (fun hn => hn ⟨rfl, hno⟩)⟩
    · exact ⟨hch, _, am, 0, rfl, hw', fun l t bo h1 h2 h4 h5 => .take h1 h2 h4 (by decide) h5 hj (fun hn => hno hn.2) (fun hn => by have := hn.1; omega)⟩
  · refine (take_abs 116 g m 1 i am t False 1 0 { m with cr := 0 } w hw hb (by decide) run_empty (fun W => pdeed1 g W) (fun W h => pempty g m am W h)).mono ?_
    rintro e w' ⟨hch, ⟨j, hj, hj0, rfl, hw'⟩ | ⟨hj, hno, rfl, hw'⟩ | ⟨hj, hno, rfl, hw'⟩⟩
    · exact ⟨hch, m, 0, j, rfl, hw', fun l t bo h1 h2 h4 h5 => .judge j h1 h2 h4 (by decide) h5 hj hj0⟩
    · exact hno.elim
    · exact ⟨hch, _, 0, 0, rfl, hw', fun l t bo h1 h2 h4 h5 => .take h1 h2 h4 (by decide) h5 hj (fun hn => by have := hn.1; omega) (fun hn => by have := hn.1; omega)⟩
  · refine (take_abs 117 g m 2 i am t (am ≤ m.rev) 24 0 { m with rev := am } w hw hb (by decide) run_rekey (fun W => pdeed2 g W) (fun W h => prekey g m am W h)).mono ?_
    rintro e w' ⟨hch, ⟨j, hj, hj0, rfl, hw'⟩ | ⟨hj, hno, rfl, hw'⟩ | ⟨hj, hno, rfl, hw'⟩⟩
    · exact ⟨hch, m, 0, j, rfl, hw', fun l t bo h1 h2 h4 h5 => .judge j h1 h2 h4 (by decide) h5 hj hj0⟩
    · exact ⟨hch, m, 0, 24, rfl, hw', fun l t bo h1 h2 h4 h5 => .key h1 h2 h4 (by decide) h5 hj (fun hn => by have := hn.1; omega) (fun hn => hn ⟨rfl, hno⟩)⟩
    · exact ⟨hch, _, 0, 0, rfl, hw', fun l t bo h1 h2 h4 h5 => .take h1 h2 h4 (by decide) h5 hj (fun hn => by have := hn.1; omega) (fun hn => hno hn.2)⟩
/-- A token's body, or why it has none. -/
def BodyK (w : World) (c i am t : Int) (e : Ending) (w' : World) : Prop := ∃ bo, e = .returned (.tuple #[.int .i64 bo, .int .i64 (flawT c i am t)]) ∧ (flawT c i am t = 0 → bo = bodyI c i am) ∧ Below w.heap.size w w'
theorem pbodyk (c i am t : Int) (w : World) (ht : TTab w) : Calls Tryz.prog 64 #[.agg #[.int .i64 c, .int .i64 i, .int .i64 am, .int .i64 t]] w fun e w' => BodyK w c i am t e w' := by
  by_cases hf : flawT c i am t = 0
  · obtain ⟨k, hk, h1, h2, h3, h4⟩ := flaw_ok hf
    unfold BodyK
    rw [hf, h1, h2, h3, h4]
    refine (body_ok k w ht hk).mono ?_
    rintro e w' ⟨rfl, hb⟩
    exact ⟨_, rfl, fun _ => (body_tok k).symm, hb⟩
  · refine (body_no c i am t w ht hf).mono ?_
    rintro e w' ⟨rfl, hb⟩
    exact ⟨0, rfl, fun h => absurd h hf, hb⟩
/-- What a meter at work gives. -/
def KeyW (w : World) (g : Nat) (m : Mt) (l : List Pr) (c i am t : Int) (e : Ending) (w' : World) : Prop :=
  Chg w w' g ∧ ∃ m' x f, e = .returned (.tuple #[.int .i64 x, .int .i64 f]) ∧ Wk w' g m' ∧ KeyIs m l c i am t (bodyI c i am) m' x f
set_option maxHeartbeats 2000000 in
theorem pkeyw (g : Nat) (m : Mt) (a : Option Addr) (n cap : Nat) (l : List Pr) (c i am t : Int) (w : World) (ht : TTab w) (hw : Wk w g m) (hr : RowP w a n l) (hb : m.b < 18446744073709551616) (hm : m.may) (hl : May l) :
    Calls Tryz.prog 29 #[.pointer (some ⟨g, 0, none⟩), .agg #[.slice a n cap], .agg #[.int .i64 c, .int .i64 i, .int .i64 am, .int .i64 t]] w fun e w' => KeyW w g m l c i am t e w' := by
  have HMA : Hid (m.may ∧ May l) := ⟨hm, hl⟩
  have HBO : Hid (∀ W, TTab W → Calls Tryz.prog 64 #[.agg #[.int .i64 c, .int .i64 i, .int .i64 am, .int .i64 t]] W fun e w' => BodyK W c i am t e w') := fun W h => pbodyk c i am t W h
  have HKN : Hid (∀ W bo, Wk W g m → RowP W a n l → Calls Tryz.prog 65 #[.pointer (some ⟨g, 0, none⟩), .agg #[.slice a n cap], .int .i64 bo, .int .i64 t] W fun e w' => Know W g m l bo t e w') := fun W bo h1 h2 => pknow g m a n cap l bo t W h1 h2 hl hm
  have HTK : Hid (∀ W, flawT c i am t = 0 → c ≠ 3 → Wk W g m → Calls Tryz.prog 66 #[.pointer (some ⟨g, 0, none⟩), .agg #[.int .i64 c, .int .i64 i, .int .i64 am, .int .i64 t]] W fun e w' => TakeK W g m c i am e w') := fun W h1 h2 h3 => ptakes g m c i am t W h3 hb hm h1 h2
  have hb0 : Below w.heap.size w ((w.alloc (.cells #[.slice a n cap] 25)).alloc (.cells #[.int .i64 c, .int .i64 i, .int .i64 am, .int .i64 t] 44)) := ((Below.refl _ _).alloc (Nat.le_refl _) _).alloc (by simp) _
  have HT0 : Hid (TTab ((w.alloc (.cells #[.slice a n cap] 25)).alloc (.cells #[.int .i64 c, .int .i64 i, .int .i64 am, .int .i64 t] 44))) := ht.below hb0
  have HW0 : Hid (Wk ((w.alloc (.cells #[.slice a n cap] 25)).alloc (.cells #[.int .i64 c, .int .i64 i, .int .i64 am, .int .i64 t] 44)) g m) := hw.next hb0
  have HO0 : Hid (Blk ((w.alloc (.cells #[.slice a n cap] 25)).alloc (.cells #[.int .i64 c, .int .i64 i, .int .i64 am, .int .i64 t] 44)) (w.heap.size) #[.slice a n cap] 25) := (Blk.new _ _ _).alloc _
  have HK0 : Hid (Blk ((w.alloc (.cells #[.slice a n cap] 25)).alloc (.cells #[.int .i64 c, .int .i64 i, .int .i64 am, .int .i64 t] 44)) (w.heap.size + 1) #[.int .i64 c, .int .i64 i, .int .i64 am, .int .i64 t] 44) := Blk.new1 w _ _ _
  have HR0 : Hid (RowP ((w.alloc (.cells #[.slice a n cap] 25)).alloc (.cells #[.int .i64 c, .int .i64 i, .int .i64 am, .int .i64 t] 44)) a n l) := hr.below hb0
  have HB0 : Hid (Below w.heap.size w ((w.alloc (.cells #[.slice a n cap] 25)).alloc (.cells #[.int .i64 c, .int .i64 i, .int .i64 am, .int .i64 t] 44))) := hb0
  have HGL : Hid (g < w.heap.size) := Blk.lt hw
  clear ht hw hr hb hm hl hb0
  obtain ⟨me, rev, cr, h, b, bad, lock⟩ := m
  go_enter Tryz.func29, Tryz.ntmps29
  go_wp2_with (first | (refine wp_whole rfl 44 _ rfl (w.heap.size + 1) rfl 44 #[.int .i64 c, .int .i64 i, .int .i64 am, .int .i64 t] _ HK0.out Tryz.underlying44 rfl (by kernel_rfl) ?_) | fail)
  refine (HBO.out _ HT0.out).mono ?_
  rintro e w1 ⟨bo, rfl, hbo, hb1⟩
  have HW1 : Hid (Blk w1 g #[.int .i64 me, .int .i64 rev, .int .i64 cr, .int .i64 h, .int .u64 (b : Int), .int .i64 bad, .int .i64 lock] 69) := HW0.out.next hb1
  have HO1 : Hid (Blk w1 (w.heap.size) #[.slice a n cap] 25) := HO0.out.next hb1
  have HK1 : Hid (Blk w1 (w.heap.size + 1) #[.int .i64 c, .int .i64 i, .int .i64 am, .int .i64 t] 44) := HK0.out.next hb1
  have HR1 : Hid (RowP w1 a n l) := HR0.out.below hb1
  have HB1 : Hid (Below w.heap.size w w1) := bel_step HB0.out hb1
  have HBE : Hid (flawT c i am t = 0 → bo = bodyI c i am) := hbo
  clear hbo hb1 HBO HT0 HW0 HO0 HK0 HR0 HB0
  by_cases hf : flawT c i am t = 0
  · have HF : Hid (flawT c i am t = 0) := hf
    have HBI : Hid (bo = bodyI c i am) := HBE.out hf
    rw [hf]
    clear hf HBE
    have q6 : w1.cell? ⟨g, 6, none⟩ = some (.int .i64 lock) := HW1.out.cell 6
    by_cases hlk : 0 < lock
    · have HL : Hid (¬ lock ≤ 0) := by show ¬ _; omega
      have hd : decide (0 < lock) = true := by simp [hlk]
      have HX : Hid (KeyW w g ⟨me, rev, cr, h, b, bad, lock⟩ l c i am t (.returned (.tuple #[.int .i64 0, .int .i64 10])) w1) := ⟨.of HB1.out, ⟨me, rev, cr, h, b, bad, lock⟩, 0, 10, rfl, HW1.out, .locked HMA.out HF.out HL.out⟩
      clear hlk HL
      go_wp2_with fail
      go_ret2
      exact HX.out
    · have HL : Hid (lock ≤ 0) := by show _ ≤ _; omega
      have hd : decide (0 < lock) = false := by simp; omega
      clear hlk
      have k0 : w1.cell? ⟨w.heap.size + 1, 0, none⟩ = some (.int .i64 c) := HK1.out.cell 0
      by_cases h3 : c = 3
      · have HC : Hid (¬ (c ≠ 3)) := fun h => h h3
        have hq : (c == 3) = true := by simp [h3]
        have HX : Hid (KeyW w g ⟨me, rev, cr, h, b, bad, lock⟩ l c i am t (.returned (.tuple #[.int .i64 0, .int .i64 0])) w1) := ⟨.of HB1.out, ⟨me, rev, cr, h, b, bad, lock⟩, 0, 0, rfl, HW1.out, .test HMA.out HF.out HL.out HC.out⟩
        clear h3 HC
        go_wp2_with fail
        go_ret2
        exact HX.out
      · have HC : Hid (c ≠ 3) := h3
        have hq : (c == 3) = false := by simp [h3]
        have k3 : w1.cell? ⟨w.heap.size + 1, 3, none⟩ = some (.int .i64 t) := HK1.out.cell 3
        have o0 : w1.cell? ⟨w.heap.size, 0, none⟩ = some (.slice a n cap) := HO1.out.cell 0
        clear h3
        go_wp2_with fail
        refine (HKN.out _ _ HW1.out HR1.out).mono ?_
        rintro e w2 ⟨hc2, ⟨hh, rfl, hw2⟩ | ⟨hh, he, rfl, hw2⟩ | ⟨hh, he, rfl, hw2⟩⟩
        · have hgl := HGL.out
          have HH : Hid (Here l me rev bo t) := hh
          have HW2 : Hid (Wk w2 g ⟨me, rev, cr, h, b, bad, lock⟩) := hw2
          have HC2 : Hid (Chg w w2 g) := (Chg.of HB1.out).trans hc2
          have HK2 : Hid (Blk w2 (w.heap.size + 1) #[.int .i64 c, .int .i64 i, .int .i64 am, .int .i64 t] 44) := hc2.keep HK1.out (by omega)
          clear hh hw2 hc2 hgl HKN q6 k0 k3 o0 HW1 HO1 HK1 HR1 HB1
          go_wp2_with (first | (refine wp_whole rfl 44 _ rfl (w.heap.size + 1) rfl 44 #[.int .i64 c, .int .i64 i, .int .i64 am, .int .i64 t] _ HK2.out Tryz.underlying44 rfl (by kernel_rfl) ?_) | fail)
          refine (HTK.out _ HF.out HC.out HW2.out).mono ?_
          rintro e w3 ⟨hc3, m', x, f, rfl, hw3, hk3⟩
          have HK3 : Hid (KeyIs ⟨me, rev, cr, h, b, bad, lock⟩ l c i am t (bodyI c i am) m' x f) := hk3 l t _ HMA.out HF.out HL.out (by rw [← HBI.out]; exact HH.out)
          have HW3 : Hid (Wk w3 g m') := hw3
          have HC3 : Hid (Chg w w3 g) := HC2.out.trans hc3
          clear hc3 hw3 hk3 HTK HW2 HC2 HK2
          go_wp2_with fail
          go_ret2
          exact ⟨HC3.out, m', x, f, rfl, HW3.out, HK3.out⟩
        · have HX : Hid (KeyW w g ⟨me, rev, cr, h, b, bad, lock⟩ l c i am t (.returned (.tuple #[.int .i64 0, .int .i64 11])) w2) := ⟨(Chg.of HB1.out).trans hc2, _, 0, 11, rfl, hw2, .old HMA.out HF.out HL.out HC.out (by rw [← HBI.out]; exact hh) (by rw [← HBI.out]; exact he)⟩
          clear hh he hw2 hc2 q6 k0 k3 o0 HKN
          go_wp2_with fail
          go_ret2
          exact HX.out
        · have HX : Hid (KeyW w g ⟨me, rev, cr, h, b, bad, lock⟩ l c i am t (.returned (.tuple #[.int .i64 0, .int .i64 12])) w2) := ⟨(Chg.of HB1.out).trans hc2, _, 0, 12, rfl, hw2, .tag HMA.out HF.out HL.out HC.out (by rw [← HBI.out]; exact hh) (by rw [← HBI.out]; exact he)⟩
          clear hh he hw2 hc2 q6 k0 k3 o0 HKN
          go_wp2_with fail
          go_ret2
          exact HX.out
  · have HF : Hid (¬ flawT c i am t = 0) := hf
    have HX : Hid (KeyIs ⟨me, rev, cr, h, b, bad, lock⟩ l c i am t (bodyI c i am) ⟨me, rev, cr, h, b, bad, lock⟩ 0 (flawT c i am t)) := .flaw HMA.out hf
    have hd : (flawT c i am t != 0) = true := by simp [hf]
    clear hf HBE HF HKN HTK HMA
    generalize flawT c i am t = fl at *
    go_wp2_with fail
    go_ret2
    exact ⟨.of HB1.out, ⟨me, rev, cr, h, b, bad, lock⟩, 0, fl, rfl, HW1.out, HX.out⟩

end Go.Proofs.YtgipkpkjoicehaaGreatDoor.met

/- The program's keying. -/
namespace Go.Proofs.YtgipkpkjoicehaaGreatDoor.met
open Go.RowKit Go.Proofs.YtgipkpkjoicehaaGreatDoor.ora Go.Proofs.YtgipkpkjoicehaaGreatDoor.token
set_option maxRecDepth 100000
set_option linter.unusedVariables false
set_option linter.unusedSimpArgs false

set_option maxHeartbeats 4000000 in
theorem pkey (m : Mt) (a : Option Addr) (n cap : Nat) (l : List Pr) (c i am t : Int) (w : World) (ht : TTab w) (hb : m.b < 18446744073709551616) (hr : RowP w a n l) :
    Calls Tryz.prog 13 #[m.v, .agg #[.slice a n cap], .agg #[.int .i64 c, .int .i64 i, .int .i64 am, .int .i64 t]] w fun e w' => KeyPost w m l c i am t e w' := by
  have HM : Hid (∀ W, Calls Tryz.prog 27 #[m.v] W fun e w' => Told W m.may e w') := fun W => pmay_any m W hb
  have HOM : Hid (∀ W, RowP W a n l → Calls Tryz.prog 28 #[.agg #[.slice a n cap]] W fun e w' => ora.Told W (May l) e w') := fun W h => pom a n cap l W h
  have HKW : Hid (∀ W g, TTab W → Wk W g m → RowP W a n l → m.may → May l → Calls Tryz.prog 29 #[.pointer (some ⟨g, 0, none⟩), .agg #[.slice a n cap], .agg #[.int .i64 c, .int .i64 i, .int .i64 am, .int .i64 t]] W fun e w' => KeyW W g m l c i am t e w') := fun W g h1 h2 h3 h4 h5 => pkeyw g m a n cap l c i am t W h1 h2 h3 hb h4 h5
  clear hb
  obtain ⟨me, rev, cr, h, b, bad, lock⟩ := m
  unfold Mt.v Mt.cells at *
  simp only [] at HM ⊢
  have HM0 : Hid (Blk ((((w.alloc (.cells #[.int .i64 me, .int .i64 rev, .int .i64 cr, .int .i64 h, .int .u64 (b : Int), .int .i64 bad, .int .i64 lock] 40)).alloc (.cells #[.slice a n cap] 25)).alloc (.cells #[.int .i64 c, .int .i64 i, .int .i64 am, .int .i64 t] 44)).alloc (.cells #[.int .i64 0, .int .i64 0, .int .i64 0, .int .i64 0, .int .u64 0, .int .i64 0, .int .i64 0] 40)) (w.heap.size) #[.int .i64 me, .int .i64 rev, .int .i64 cr, .int .i64 h, .int .u64 (b : Int), .int .i64 bad, .int .i64 lock] 40) := (((Blk.new _ _ _).alloc _).alloc _).alloc _
  have HO0 : Hid (Blk ((((w.alloc (.cells #[.int .i64 me, .int .i64 rev, .int .i64 cr, .int .i64 h, .int .u64 (b : Int), .int .i64 bad, .int .i64 lock] 40)).alloc (.cells #[.slice a n cap] 25)).alloc (.cells #[.int .i64 c, .int .i64 i, .int .i64 am, .int .i64 t] 44)).alloc (.cells #[.int .i64 0, .int .i64 0, .int .i64 0, .int .i64 0, .int .u64 0, .int .i64 0, .int .i64 0] 40)) (w.heap.size + 1) #[.slice a n cap] 25) := ((Blk.new1 w _ _ _).alloc _).alloc _
  have HK0 : Hid (Blk ((((w.alloc (.cells #[.int .i64 me, .int .i64 rev, .int .i64 cr, .int .i64 h, .int .u64 (b : Int), .int .i64 bad, .int .i64 lock] 40)).alloc (.cells #[.slice a n cap] 25)).alloc (.cells #[.int .i64 c, .int .i64 i, .int .i64 am, .int .i64 t] 44)).alloc (.cells #[.int .i64 0, .int .i64 0, .int .i64 0, .int .i64 0, .int .u64 0, .int .i64 0, .int .i64 0] 40)) (w.heap.size + 1 + 1) #[.int .i64 c, .int .i64 i, .int .i64 am, .int .i64 t] 44) := (Blk.new2 w _ _ _ _).alloc _
  have HR0 : Hid (Blk ((((w.alloc (.cells #[.int .i64 me, .int .i64 rev, .int .i64 cr, .int .i64 h, .int .u64 (b : Int), .int .i64 bad, .int .i64 lock] 40)).alloc (.cells #[.slice a n cap] 25)).alloc (.cells #[.int .i64 c, .int .i64 i, .int .i64 am, .int .i64 t] 44)).alloc (.cells #[.int .i64 0, .int .i64 0, .int .i64 0, .int .i64 0, .int .u64 0, .int .i64 0, .int .i64 0] 40)) (w.heap.size + 1 + 1 + 1) #[.int .i64 0, .int .i64 0, .int .i64 0, .int .i64 0, .int .u64 0, .int .i64 0, .int .i64 0] 40) := Blk.new3 w _ _ _ _ _
  have HB0 : Hid (Below w.heap.size w ((((w.alloc (.cells #[.int .i64 me, .int .i64 rev, .int .i64 cr, .int .i64 h, .int .u64 (b : Int), .int .i64 bad, .int .i64 lock] 40)).alloc (.cells #[.slice a n cap] 25)).alloc (.cells #[.int .i64 c, .int .i64 i, .int .i64 am, .int .i64 t] 44)).alloc (.cells #[.int .i64 0, .int .i64 0, .int .i64 0, .int .i64 0, .int .u64 0, .int .i64 0, .int .i64 0] 40))) := ((((Below.refl _ _).alloc (Nat.le_refl _) _).alloc (by simp) _).alloc (by simp; omega) _).alloc (by simp; omega) _
  have HT : Hid (∀ W, Below w.heap.size w W → TTab W) := fun W h => ht.below h
  have HRW : Hid (∀ W, Below w.heap.size w W → RowP W a n l) := fun W h => hr.below h
  clear ht hr
  go_enter Tryz.func13, Tryz.ntmps13
  go_wp2_with (first | (refine wp_whole rfl 40 _ rfl (w.heap.size) rfl 40 #[.int .i64 me, .int .i64 rev, .int .i64 cr, .int .i64 h, .int .u64 (b : Int), .int .i64 bad, .int .i64 lock] _ HM0.out Tryz.underlying40 rfl (by kernel_rfl) ?_) | fail)
  refine (HM.out _).mono ?_
  rintro e w1 ⟨r, rfl, hr1, hb1⟩
  have HM1 : Hid (Blk w1 (w.heap.size) #[.int .i64 me, .int .i64 rev, .int .i64 cr, .int .i64 h, .int .u64 (b : Int), .int .i64 bad, .int .i64 lock] 40) := HM0.out.next hb1
  have HO1 : Hid (Blk w1 (w.heap.size + 1) #[.slice a n cap] 25) := HO0.out.next hb1
  have HK1 : Hid (Blk w1 (w.heap.size + 1 + 1) #[.int .i64 c, .int .i64 i, .int .i64 am, .int .i64 t] 44) := HK0.out.next hb1
  have HR1 : Hid (Blk w1 (w.heap.size + 1 + 1 + 1) #[.int .i64 0, .int .i64 0, .int .i64 0, .int .i64 0, .int .u64 0, .int .i64 0, .int .i64 0] 40) := HR0.out.next hb1
  have HB1 : Hid (Below w.heap.size w w1) := bel_step HB0.out hb1
  clear hb1 HM0 HO0 HK0 HR0 HB0 HM
  cases r with
  | false =>
    have HN : Hid (¬ (Mt.may ⟨me, rev, cr, h, b, bad, lock⟩ ∧ May l)) := fun h => by have := hr1.2 h.1; cases this
    clear hr1
    go_wp2_with (first | (refine wp_letAll rfl 40 _ _ rfl (w.heap.size + 1 + 1 + 1) rfl #[.int .i64 0, .int .i64 0, .int .i64 0, .int .i64 0, .int .u64 0, .int .i64 0, .int .i64 0] rfl (by kernel_rfl) (by simp [Value.oneCell']) #[.int .i64 0, .int .i64 0, .int .i64 0, .int .i64 0, .int .u64 0, .int .i64 0, .int .i64 0] 40 HR1.out rfl ?_) | fail)
    intro WF hUF
    have HBF : Hid (Below w.heap.size w WF) := hUF.bel _ _ (by omega) HB1.out
    have R0 : Hid (WF.cell? ⟨w.heap.size + 1 + 1 + 1, 0, none⟩ = some (.int .i64 0)) := hUF.blk.cell 0
    have R1 : Hid (WF.cell? ⟨w.heap.size + 1 + 1 + 1, 1, none⟩ = some (.int .i64 0)) := hUF.blk.cell 1
    have R2 : Hid (WF.cell? ⟨w.heap.size + 1 + 1 + 1, 2, none⟩ = some (.int .i64 0)) := hUF.blk.cell 2
    have R3 : Hid (WF.cell? ⟨w.heap.size + 1 + 1 + 1, 3, none⟩ = some (.int .i64 0)) := hUF.blk.cell 3
    have R4 : Hid (WF.cell? ⟨w.heap.size + 1 + 1 + 1, 4, none⟩ = some (.int .u64 0)) := hUF.blk.cell 4
    have R5 : Hid (WF.cell? ⟨w.heap.size + 1 + 1 + 1, 5, none⟩ = some (.int .i64 0)) := hUF.blk.cell 5
    have R6 : Hid (WF.cell? ⟨w.heap.size + 1 + 1 + 1, 6, none⟩ = some (.int .i64 0)) := hUF.blk.cell 6
    clear hUF
    go_wp2_with fail
    exact bodyPost_ret (v := .tuple #[.agg #[.int .i64 0, .int .i64 0, .int .i64 0, .int .i64 0, .int .u64 0, .int .i64 0, .int .i64 0], .int .i64 0, .int .i64 5]) (by simp [results, Tryz.results13, R0.out, R1.out, R2.out, R3.out, R4.out, R5.out, R6.out, go_sem]) rfl ⟨mt0, 0, 5, rfl, .state HN.out, HBF.out⟩
  | true =>
    have HY : Hid (Mt.may ⟨me, rev, cr, h, b, bad, lock⟩) := hr1.1 rfl
    clear hr1
    have o1 : w1.cell? ⟨w.heap.size + 1, 0, none⟩ = some (.slice a n cap) := HO1.out.cell 0
    go_wp2_with fail
    refine (HOM.out _ (HRW.out _ HB1.out)).mono ?_
    rintro e w2 ⟨r, rfl, hr2, hb2⟩
    have HM2 : Hid (Blk w2 (w.heap.size) #[.int .i64 me, .int .i64 rev, .int .i64 cr, .int .i64 h, .int .u64 (b : Int), .int .i64 bad, .int .i64 lock] 40) := HM1.out.next hb2
    have HO2 : Hid (Blk w2 (w.heap.size + 1) #[.slice a n cap] 25) := HO1.out.next hb2
    have HK2 : Hid (Blk w2 (w.heap.size + 1 + 1) #[.int .i64 c, .int .i64 i, .int .i64 am, .int .i64 t] 44) := HK1.out.next hb2
    have HR2 : Hid (Blk w2 (w.heap.size + 1 + 1 + 1) #[.int .i64 0, .int .i64 0, .int .i64 0, .int .i64 0, .int .u64 0, .int .i64 0, .int .i64 0] 40) := HR1.out.next hb2
    have HB2 : Hid (Below w.heap.size w w2) := bel_step HB1.out hb2
    clear hb2 o1 HM1 HO1 HK1 HR1 HB1 HOM
    cases r with
    | false =>
      have HN : Hid (¬ (Mt.may ⟨me, rev, cr, h, b, bad, lock⟩ ∧ May l)) := fun h => by have := hr2.2 h.2; cases this
      clear hr2
      go_wp2_with (first | (refine wp_letAll rfl 40 _ _ rfl (w.heap.size + 1 + 1 + 1) rfl #[.int .i64 0, .int .i64 0, .int .i64 0, .int .i64 0, .int .u64 0, .int .i64 0, .int .i64 0] rfl (by kernel_rfl) (by simp [Value.oneCell']) #[.int .i64 0, .int .i64 0, .int .i64 0, .int .i64 0, .int .u64 0, .int .i64 0, .int .i64 0] 40 HR2.out rfl ?_) | fail)
      intro WF hUF
      have HBF : Hid (Below w.heap.size w WF) := hUF.bel _ _ (by omega) HB2.out
      have R0 : Hid (WF.cell? ⟨w.heap.size + 1 + 1 + 1, 0, none⟩ = some (.int .i64 0)) := hUF.blk.cell 0
      have R1 : Hid (WF.cell? ⟨w.heap.size + 1 + 1 + 1, 1, none⟩ = some (.int .i64 0)) := hUF.blk.cell 1
      have R2 : Hid (WF.cell? ⟨w.heap.size + 1 + 1 + 1, 2, none⟩ = some (.int .i64 0)) := hUF.blk.cell 2
      have R3 : Hid (WF.cell? ⟨w.heap.size + 1 + 1 + 1, 3, none⟩ = some (.int .i64 0)) := hUF.blk.cell 3
      have R4 : Hid (WF.cell? ⟨w.heap.size + 1 + 1 + 1, 4, none⟩ = some (.int .u64 0)) := hUF.blk.cell 4
      have R5 : Hid (WF.cell? ⟨w.heap.size + 1 + 1 + 1, 5, none⟩ = some (.int .i64 0)) := hUF.blk.cell 5
      have R6 : Hid (WF.cell? ⟨w.heap.size + 1 + 1 + 1, 6, none⟩ = some (.int .i64 0)) := hUF.blk.cell 6
      clear hUF
      go_wp2_with fail
      exact bodyPost_ret (v := .tuple #[.agg #[.int .i64 0, .int .i64 0, .int .i64 0, .int .i64 0, .int .u64 0, .int .i64 0, .int .i64 0], .int .i64 0, .int .i64 5]) (by simp [results, Tryz.results13, R0.out, R1.out, R2.out, R3.out, R4.out, R5.out, R6.out, go_sem]) rfl ⟨mt0, 0, 5, rfl, .state HN.out, HBF.out⟩
    | true =>
      have HYL : Hid (May l) := hr2.1 rfl
      clear hr2
      have HM3 : Hid (Blk (w2.alloc (.cells #[.int .i64 0, .int .i64 0, .int .i64 0, .int .i64 0, .int .u64 0, .int .i64 0, .int .i64 0] 69)) (w.heap.size) #[.int .i64 me, .int .i64 rev, .int .i64 cr, .int .i64 h, .int .u64 (b : Int), .int .i64 bad, .int .i64 lock] 40) := HM2.out.alloc _
      have HO3 : Hid (Blk (w2.alloc (.cells #[.int .i64 0, .int .i64 0, .int .i64 0, .int .i64 0, .int .u64 0, .int .i64 0, .int .i64 0] 69)) (w.heap.size + 1) #[.slice a n cap] 25) := HO2.out.alloc _
      have HK3 : Hid (Blk (w2.alloc (.cells #[.int .i64 0, .int .i64 0, .int .i64 0, .int .i64 0, .int .u64 0, .int .i64 0, .int .i64 0] 69)) (w.heap.size + 1 + 1) #[.int .i64 c, .int .i64 i, .int .i64 am, .int .i64 t] 44) := HK2.out.alloc _
      have HR3 : Hid (Blk (w2.alloc (.cells #[.int .i64 0, .int .i64 0, .int .i64 0, .int .i64 0, .int .u64 0, .int .i64 0, .int .i64 0] 69)) (w.heap.size + 1 + 1 + 1) #[.int .i64 0, .int .i64 0, .int .i64 0, .int .i64 0, .int .u64 0, .int .i64 0, .int .i64 0] 40) := HR2.out.alloc _
      have HB3 : Hid (Below w.heap.size w (w2.alloc (.cells #[.int .i64 0, .int .i64 0, .int .i64 0, .int .i64 0, .int .u64 0, .int .i64 0, .int .i64 0] 69))) := HB2.out.alloc HB2.out.size _
      have HG3 : Hid (Blk (w2.alloc (.cells #[.int .i64 0, .int .i64 0, .int .i64 0, .int .i64 0, .int .u64 0, .int .i64 0, .int .i64 0] 69)) w2.heap.size #[.int .i64 0, .int .i64 0, .int .i64 0, .int .i64 0, .int .u64 0, .int .i64 0, .int .i64 0] 69) := Blk.new _ _ _
      have HL : Hid (w.heap.size ≤ w2.heap.size ∧ w.heap.size + 1 + 1 + 1 < w2.heap.size) := ⟨HB2.out.size, HR2.out.lt⟩
      go_wp2_with (first | (refine wp_whole rfl 40 _ rfl (w.heap.size) rfl 40 #[.int .i64 me, .int .i64 rev, .int .i64 cr, .int .i64 h, .int .u64 (b : Int), .int .i64 bad, .int .i64 lock] _ HM2.out Tryz.underlying40 rfl (by kernel_rfl) ?_) | (refine wp_letAll rfl 69 _ _ rfl (w2.heap.size) rfl #[.int .i64 me, .int .i64 rev, .int .i64 cr, .int .i64 h, .int .u64 (b : Int), .int .i64 bad, .int .i64 lock] rfl (by kernel_rfl) (by simp [Value.oneCell']) #[.int .i64 0, .int .i64 0, .int .i64 0, .int .i64 0, .int .u64 0, .int .i64 0, .int .i64 0] 69 HG3.out rfl ?_) | fail)
      intro W4 hU4
      have hl := HL.out
      have HM4 : Hid (Blk W4 (w.heap.size) #[.int .i64 me, .int .i64 rev, .int .i64 cr, .int .i64 h, .int .u64 (b : Int), .int .i64 bad, .int .i64 lock] 40) := hU4.keep HM3.out (by omega)
      have HO4 : Hid (Blk W4 (w.heap.size + 1) #[.slice a n cap] 25) := hU4.keep HO3.out (by omega)
      have HK4 : Hid (Blk W4 (w.heap.size + 1 + 1) #[.int .i64 c, .int .i64 i, .int .i64 am, .int .i64 t] 44) := hU4.keep HK3.out (by omega)
      have HR4 : Hid (Blk W4 (w.heap.size + 1 + 1 + 1) #[.int .i64 0, .int .i64 0, .int .i64 0, .int .i64 0, .int .u64 0, .int .i64 0, .int .i64 0] 40) := hU4.keep HR3.out (by omega)
      have HB4 : Hid (Below w.heap.size w W4) := hU4.bel _ _ (by omega) HB3.out
      have HG4 : Hid (Wk W4 w2.heap.size ⟨me, rev, cr, h, b, bad, lock⟩) := hU4.blk
      clear hU4 hl HM2 HO2 HK2 HR2 HB2 HM3 HO3 HK3 HR3 HB3 HG3
      generalize w2.heap.size = g at *
      have o4 : W4.cell? ⟨w.heap.size + 1, 0, none⟩ = some (.slice a n cap) := HO4.out.cell 0
      go_wp2_with (first | (refine wp_whole rfl 44 _ rfl (w.heap.size + 1 + 1) rfl 44 #[.int .i64 c, .int .i64 i, .int .i64 am, .int .i64 t] _ HK4.out Tryz.underlying44 rfl (by kernel_rfl) ?_) | fail)
      refine (HKW.out _ _ (HT.out _ HB4.out) HG4.out (HRW.out _ HB4.out) HY.out HYL.out).mono ?_
      rintro e w5 ⟨hc5, m5, x5, f5, rfl, hw5, hk5⟩
      have hl := HL.out
      have HR5 : Hid (Blk w5 (w.heap.size + 1 + 1 + 1) #[.int .i64 0, .int .i64 0, .int .i64 0, .int .i64 0, .int .u64 0, .int .i64 0, .int .i64 0] 40) := hc5.keep HR4.out (by omega)
      have HB5 : Hid (Below w.heap.size w w5) := hc5.bel HB4.out (by omega) HB4.out.size
      have HI5 : Hid (KeyIs ⟨me, rev, cr, h, b, bad, lock⟩ l c i am t (bodyI c i am) m5 x5 f5) := hk5
      obtain ⟨me5, rev5, cr5, h5, b5, bad5, lock5⟩ := m5
      have HG5 : Hid (Blk w5 g #[.int .i64 me5, .int .i64 rev5, .int .i64 cr5, .int .i64 h5, .int .u64 (b5 : Int), .int .i64 bad5, .int .i64 lock5] 69) := hw5
      clear hc5 hw5 hk5 hl o4 HM4 HO4 HK4 HR4 HB4 HG4 HKW HT HRW
      go_wp2_with (first | (refine wp_whole rfl 40 _ rfl (g) rfl 69 #[.int .i64 me5, .int .i64 rev5, .int .i64 cr5, .int .i64 h5, .int .u64 (b5 : Int), .int .i64 bad5, .int .i64 lock5] _ HG5.out Tryz.underlying40 rfl (by kernel_rfl) ?_) | (refine wp_letAll rfl 40 _ _ rfl (w.heap.size + 1 + 1 + 1) rfl #[.int .i64 me5, .int .i64 rev5, .int .i64 cr5, .int .i64 h5, .int .u64 (b5 : Int), .int .i64 bad5, .int .i64 lock5] rfl (by kernel_rfl) (by simp [Value.oneCell']) #[.int .i64 0, .int .i64 0, .int .i64 0, .int .i64 0, .int .u64 0, .int .i64 0, .int .i64 0] 40 HR5.out rfl ?_) | fail)
      intro WF hUF
      have HBF : Hid (Below w.heap.size w WF) := hUF.bel _ _ (by omega) HB5.out
      have R0 : Hid (WF.cell? ⟨w.heap.size + 1 + 1 + 1, 0, none⟩ = some (.int .i64 me5)) := hUF.blk.cell 0
      have R1 : Hid (WF.cell? ⟨w.heap.size + 1 + 1 + 1, 1, none⟩ = some (.int .i64 rev5)) := hUF.blk.cell 1
      have R2 : Hid (WF.cell? ⟨w.heap.size + 1 + 1 + 1, 2, none⟩ = some (.int .i64 cr5)) := hUF.blk.cell 2
      have R3 : Hid (WF.cell? ⟨w.heap.size + 1 + 1 + 1, 3, none⟩ = some (.int .i64 h5)) := hUF.blk.cell 3
      have R4 : Hid (WF.cell? ⟨w.heap.size + 1 + 1 + 1, 4, none⟩ = some (.int .u64 (b5 : Int))) := hUF.blk.cell 4
      have R5 : Hid (WF.cell? ⟨w.heap.size + 1 + 1 + 1, 5, none⟩ = some (.int .i64 bad5)) := hUF.blk.cell 5
      have R6 : Hid (WF.cell? ⟨w.heap.size + 1 + 1 + 1, 6, none⟩ = some (.int .i64 lock5)) := hUF.blk.cell 6
      clear hUF
      go_wp2_with fail
      exact bodyPost_ret (v := .tuple #[.agg #[.int .i64 me5, .int .i64 rev5, .int .i64 cr5, .int .i64 h5, .int .u64 (b5 : Int), .int .i64 bad5, .int .i64 lock5], .int .i64 x5, .int .i64 f5]) (by simp [results, Tryz.results13, R0.out, R1.out, R2.out, R3.out, R4.out, R5.out, R6.out, go_sem]) rfl ⟨⟨me5, rev5, cr5, h5, b5, bad5, lock5⟩, x5, f5, rfl, HI5.out, HBF.out⟩
theorem kkey : KKey TTab := fun W m a n cap l c i am t ht hb hr _ _ => pkey m a n cap l c i am t W ht hb hr

end Go.Proofs.YtgipkpkjoicehaaGreatDoor.met

/- A pocket's slots: plain facts. -/
namespace Go.Proofs.YtgipkpkjoicehaaGreatDoor.pkt
open Go.Proofs.YtgipkpkjoicehaaGreatDoor.met Go.Proofs.YtgipkpkjoicehaaGreatDoor.slot Go.Proofs.YtgipkpkjoicehaaGreatDoor.cell

/-- What booting gives. -/
def BootIs (xs : List Int) (m : Mt) (e : Int) : Prop :=
  (xs.length ≠ 12 ∧ m = mt0 ∧ e = 1) ∨ (xs.length = 12 ∧ which xs 5 = 2 ∧ m = mt0 ∧ e = 17) ∨ (xs.length = 12 ∧ which xs 5 ≤ 1 ∧ ReadIs (rcd xs 5 (which xs 5)) m e)
theorem BootIs.one {xs : List Int} {m m' : Mt} {e e' : Int} (h : BootIs xs m e) (h' : BootIs xs m' e') : m = m' ∧ e = e' := by
  rcases h with ⟨a0, rfl, rfl⟩ | ⟨a0, a1, rfl, rfl⟩ | ⟨a0, a1, a2⟩ <;> rcases h' with ⟨b0, rfl, rfl⟩ | ⟨b0, b1, rfl, rfl⟩ | ⟨b0, b1, b2⟩ <;>
    first | exact ⟨rfl, rfl⟩ | exact absurd a0 b0 | exact absurd b0 a0 | exact a2.one b2 | omega
theorem which_le (xs : List Int) (n : Nat) : which xs n ≤ 2 := cnt_le _ _
theorem rcd_word {xs : List Int} (h : ∀ x ∈ xs, 0 ≤ x ∧ x < 4294967296) (n s : Nat) : ∀ x ∈ rcd xs n s, 0 ≤ x ∧ x < 4294967296 := by
  intro x hx
  obtain ⟨i, _, rfl⟩ := List.mem_map.1 hx
  by_cases hi : beg n s + 1 + i < xs.length
  · rw [show xs.getD (beg n s + 1 + i) 0 = xs[beg n s + 1 + i] by simp [List.getD, List.getElem?_eq_getElem hi]]; exact h _ (List.getElem_mem hi)
  · rw [show xs.getD (beg n s + 1 + i) 0 = 0 by simp [List.getD, List.getElem?_eq_none (Nat.le_of_not_lt hi)]]; decide
/-- A meter that may be, and whose bits are a word of 64. -/
structure Mw (m : Mt) : Prop where
  may : m.may
  b : m.b < 18446744073709551616
theorem rdL_b {l : List Int} (h5 : l.length = 5) (h : ∀ x ∈ l, 0 ≤ x ∧ x < 4294967296) : (rdL l).b < 18446744073709551616 := by
  have e := list5 h5
  have h3 : 0 ≤ l.getD 3 0 ∧ l.getD 3 0 < 4294967296 := h _ (by rw [e]; simp)
  have h4 : 0 ≤ l.getD 4 0 ∧ l.getD 4 0 < 4294967296 := h _ (by rw [e]; simp)
  show ((l.getD 4 0) * 4294967296 + l.getD 3 0).toNat < _
  omega
theorem wds_len (m : Mt) : (wds m).length = 5 := rfl
theorem wds_words {m : Mt} (h : Mw m) : ∀ x ∈ wds m, 0 ≤ x ∧ x < 4294967296 := by
  have h1 := h.may.cr; have h2 := four_bd h.may; have h3 := may_high h.may; have h4 := h.b
  intro x hx
  simp only [wds, List.mem_cons, List.not_mem_nil, or_false] at hx
  rcases hx with rfl | rfl | rfl | rfl | rfl <;> omega
theorem wds_inj {m m' : Mt} (h : m.may) (h' : m'.may) (e : wds m = wds m') : m = m' := by rw [← rdL_wds h, ← rdL_wds h', e]
/-- Slots that boot hold the words of what they boot to. -/
theorem BootIs.sure {xs : List Int} {m : Mt} (hw : ∀ x ∈ rcd xs 5 (which xs 5), 0 ≤ x ∧ x < 4294967296) (h : BootIs xs m 0) : Holds xs 5 (wds m) ∧ Mw m := by
  rcases h with ⟨_, _, e⟩ | ⟨_, _, _, e⟩ | ⟨a0, a1, h⟩
  · exact absurd e (by decide)
  · exact absurd e (by decide)
  · rcases h with ⟨h, _⟩ | ⟨_, _, _, e⟩ | ⟨h5, hm, rfl, _⟩
    · exact absurd (rcd_len _ _ _) h
    · exact absurd e (by decide)
    · have hl := rcd_len xs 5 (which xs 5)
      exact ⟨⟨a0, a1, (wds_rdL hl hw).symm⟩, hm, rdL_b hl hw⟩
theorem boot_holds {xs : List Int} {m : Mt} (h : Holds xs 5 (wds m)) (hm : m.may) : BootIs xs m 0 := by
  refine .inr (.inr ⟨h.len, h.one, ?_⟩)
  rw [h.is]
  have := ReadIs.ok (l := wds m) (fun hx => hx rfl) (by rw [rdL_wds hm]; exact hm)
  rwa [rdL_wds hm] at this
theorem holds_word {xs : List Int} {m : Mt} (h : Holds xs 5 (wds m)) (hm : Mw m) : ∀ x ∈ rcd xs 5 (which xs 5), 0 ≤ x ∧ x < 4294967296 := by rw [h.is]; exact wds_words hm
/-- The writes of a step. -/
def WrIs (xs : List Int) (m m' : Mt) (ls : List Wr) : Prop := (m' = m ∧ ls = []) ∨ (m' ≠ m ∧ ls = sto xs (wds m') 5)
theorem WrIs.one {xs : List Int} {m m' : Mt} {ls ls' : List Wr} (h : WrIs xs m m' ls) (h' : WrIs xs m m' ls') : ls = ls' := by
  rcases h with ⟨a, rfl⟩ | ⟨a, rfl⟩ <;> rcases h' with ⟨b, rfl⟩ | ⟨b, rfl⟩ <;> first | rfl | exact absurd a b | exact absurd b a
theorem WrIs.len {xs : List Int} {m m' : Mt} {ls : List Wr} (h : WrIs xs m m' ls) : (m' = m ∧ ls.length = 0) ∨ (m' ≠ m ∧ ls.length = 7) := by
  rcases h with ⟨a, rfl⟩ | ⟨a, rfl⟩
  · exact .inl ⟨a, rfl⟩
  · exact .inr ⟨a, sto_len _ _ _⟩
/-- What a new pocket is. -/
def mk (me : Int) : List Int := [1, 0, me, 0, 0, 0, 0, 0, 0, 0, 0, 0]
def MakeIs (me : Int) (xs : List Int) (e : Int) : Prop := ((0 ≤ me ∧ me ≤ 49) ∧ xs = mk me ∧ e = 0) ∨ (¬ (0 ≤ me ∧ me ≤ 49) ∧ xs = [] ∧ e = 2)
theorem MakeIs.one {me : Int} {xs xs' : List Int} {e e' : Int} (h : MakeIs me xs e) (h' : MakeIs me xs' e') : xs = xs' ∧ e = e' := by
  rcases h with ⟨a0, rfl, rfl⟩ | ⟨a0, rfl, rfl⟩ <;> rcases h' with ⟨b0, rfl, rfl⟩ | ⟨b0, rfl, rfl⟩ <;> first | exact ⟨rfl, rfl⟩ | contradiction
theorem new_mw {me : Int} (h : 0 ≤ me ∧ me ≤ 49) : Mw (mtNew me) := ⟨⟨h, ⟨by show (0 : Int) ≤ 0; decide, by show (0 : Int) ≤ 15; decide⟩, ⟨by show (0 : Int) ≤ 0; decide, by show (0 : Int) ≤ 99999999; decide⟩, ⟨by show (0 : Int) ≤ 0; decide, by show (0 : Int) ≤ 4; decide⟩, ⟨by show (0 : Int) ≤ 0; decide, by show (0 : Int) ≤ 30; decide⟩, fun hx => hx.1 rfl, .inl ⟨rfl, rfl⟩⟩, by show (0 : Nat) < _; decide⟩
theorem wds_new (me : Int) : wds (mtNew me) = [0, me, 0, 0, 0] := by
  show [0, me + 256 * (0 + 256 * (0 + 256 * 0)), 0, ((0 % 4294967296 : Nat) : Int), ((0 / 4294967296 : Nat) : Int)] = _
  simp
theorem mk_holds (me : Int) : Holds (mk me) 5 (wds (mtNew me)) := by
  rw [wds_new]
  exact ⟨rfl, by show cnt 1 0 ≤ 1; decide, rfl⟩
theorem tick_mw {m m' : Mt} {ld x : Int} (h : Mw m) (ht : TickIs m ld m' x 0) : Mw m' := by
  rcases ht with ⟨_, _, _, e⟩ | ⟨_, _, _, _, e⟩ | ⟨h1, h2, rfl, _, _⟩
  · exact absurd e (by decide)
  · exact absurd e (by decide)
  · exact ⟨ticked_may h1 h2, h.b⟩
/-- What a tick of a pocket gives. -/
def TickedIs (xs : List Int) (ld : Int) (ls : List Wr) (x e : Int) : Prop :=
  (∃ m, BootIs xs m e ∧ e ≠ 0 ∧ ls = [] ∧ x = 0) ∨ (∃ m m' y, BootIs xs m 0 ∧ TickIs m ld m' y e ∧ e ≠ 0 ∧ ls = [] ∧ x = 0) ∨ (∃ m m', BootIs xs m 0 ∧ TickIs m ld m' x 0 ∧ e = 0 ∧ WrIs xs m m' ls)
theorem TickedIs.one {xs : List Int} {ld : Int} {ls ls' : List Wr} {x x' e e' : Int} (h : TickedIs xs ld ls x e) (h' : TickedIs xs ld ls' x' e') : ls = ls' ∧ x = x' ∧ e = e' := by
  rcases h with ⟨m, a0, a1, rfl, rfl⟩ | ⟨m, m1, y, a0, a2, a1, rfl, rfl⟩ | ⟨m, m1, a0, a2, rfl, a3⟩ <;> rcases h' with ⟨n, b0, b1, rfl, rfl⟩ | ⟨n, n1, z, b0, b2, b1, rfl, rfl⟩ | ⟨n, n1, b0, b2, rfl, b3⟩
  · exact ⟨rfl, rfl, (a0.one b0).2⟩
  · exact absurd (a0.one b0).2 a1
  · exact absurd (a0.one b0).2 a1
  · exact absurd (b0.one a0).2 b1
  · obtain ⟨rfl, _⟩ := a0.one b0; exact ⟨rfl, rfl, (a2.one b2).2.2⟩
  · obtain ⟨rfl, _⟩ := a0.one b0; exact absurd (a2.one b2).2.2 a1
  · exact absurd (b0.one a0).2 b1
  · obtain ⟨rfl, _⟩ := a0.one b0; exact absurd (b2.one a2).2.2 b1
  · obtain ⟨rfl, _⟩ := a0.one b0
    obtain ⟨rfl, rfl, _⟩ := a2.one b2
    exact ⟨a3.one b3, rfl, rfl⟩

end Go.Proofs.YtgipkpkjoicehaaGreatDoor.pkt

/- A pocket's answers. -/
namespace Go.Proofs.YtgipkpkjoicehaaGreatDoor.pkt
open Go.RowKit Go.Proofs.YtgipkpkjoicehaaGreatDoor.met Go.Proofs.YtgipkpkjoicehaaGreatDoor.slot Go.Proofs.YtgipkpkjoicehaaGreatDoor.cell
set_option maxRecDepth 100000
set_option linter.unusedVariables false

/-- A meter and an answer were given back. -/
def BootPost (w : World) (xs : List Int) (e : Ending) (w' : World) : Prop := ∃ m f, e = .returned (.tuple #[Mt.v m, .int .i64 f]) ∧ BootIs xs m f ∧ Below w.heap.size w w'
/-- Writes that a step gave back. -/
structure Wg (w : World) (a : Option Addr) (n cap : Nat) (ls : List Wr) : Prop where
  row : RowW w a n ls
  nil : a = none → cap = 0
  le : n ≤ cap
  few : n ≤ 7
theorem Wg.below {w w' : World} {a : Option Addr} {n cap : Nat} {ls : List Wr} (h : Wg w a n cap ls) (hb : Below w.heap.size w w') : Wg w' a n cap ls := ⟨h.row.below hb, h.nil, h.le, h.few⟩
theorem Wg.none (w : World) : Wg w none 0 0 [] := ⟨RowW.nil _ _, fun _ => rfl, Nat.le_refl _, by decide⟩
def WritesPost (w : World) (xs : List Int) (m m' : Mt) (e : Ending) (w' : World) : Prop := ∃ a n cap ls, e = .returned (.slice a n cap) ∧ Wg w' a n cap ls ∧ WrIs xs m m' ls ∧ Below w.heap.size w w'
def TickedPost (w : World) (xs : List Int) (ld : Int) (e : Ending) (w' : World) : Prop := ∃ a n cap ls x f, e = .returned (.tuple #[.slice a n cap, .int .i64 x, .int .i64 f]) ∧ Wg w' a n cap ls ∧ TickedIs xs ld ls x f ∧ Below w.heap.size w w'
/-- Slots that came, or were made. -/
structure Sg (w : World) (a : Option Addr) (n cap : Nat) (xs : List Int) : Prop where
  row : RowU w a n xs
  nil : a = none → cap = 0
  le : n ≤ cap
theorem Sg.below {w w' : World} {a : Option Addr} {n cap : Nat} {xs : List Int} (h : Sg w a n cap xs) (hb : Below w.heap.size w w') : Sg w' a n cap xs := ⟨h.row.below hb, h.nil, h.le⟩
def MakePost (w : World) (me : Int) (e : Ending) (w' : World) : Prop := ∃ a n cap xs f, e = .returned (.tuple #[.slice a n cap, .int .i64 f]) ∧ Sg w' a n cap xs ∧ MakeIs me xs f ∧ Below w.heap.size w w'

end Go.Proofs.YtgipkpkjoicehaaGreatDoor.pkt

/- Tokens that were sold, keyed: plain facts. -/
namespace Go.Proofs.YtgipkpkjoicehaaGreatDoor.met
open Go.Proofs.YtgipkpkjoicehaaGreatDoor.ora Go.Proofs.YtgipkpkjoicehaaGreatDoor.token

theorem body_bd {k : Tok} (h : k.ok) : 0 ≤ (k.body : Int) ∧ (k.body : Int) ≤ 8796093022207 := by
  have h1 := h.c3; have h2 := h.i2; have h3 := h.a2
  unfold Tok.body; omega
theorem pr_may {m : Mt} (hm : m.may) {k : Tok} (hk : k.ok) : (Pr.mk m.me m.rev (k.body : Int) (k.t : Int)).may := ⟨hm.me, hm.rev, body_bd hk, by show 0 ≤ (k.t : Int); omega, by show (k.t : Int) ≤ 65535; have := hk.t2; omega⟩
/-- The first that is sold. -/
theorem first_sold {m : Mt} (hm : m.may) {k : Tok} (hk : k.ok) {ls : List Pr} {tg f : Int} (h : IssueIs [] m.me m.rev (k.body : Int) (k.t : Int) ls tg f) : ls = [⟨m.me, m.rev, (k.body : Int), (k.t : Int)⟩] ∧ tg = (k.t : Int) ∧ f = 0 := by
  have h2 : IssueIs [] m.me m.rev (k.body : Int) (k.t : Int) ([] ++ [⟨m.me, m.rev, (k.body : Int), (k.t : Int)⟩]) (k.t : Int) 0 := .inr (.inr (.inr (.inr ⟨May.nil, pr_may hm hk, fun j hj => by simp at hj, by decide, rfl, rfl, rfl⟩)))
  exact h.one h2
theorem one_may {p : Pr} (h : p.may) : May [p] := by
  have := May.app (l := []) (m := p.m) (r := p.r) (b := p.b) (d := p.t) May.nil h (fun j hj => by simp at hj) (by decide)
  exact this
theorem one_here (me rev bo t : Int) : Here [⟨me, rev, bo, t⟩] me rev bo t := ⟨0, Nat.zero_lt_one, rfl, rfl, rfl, rfl⟩
/-- Nothing was taken yet: each number may be. -/
theorem judge_new {i : Int} (h1 : 1 ≤ i) (h2 : i ≤ 1048575) : win.JudgeIs 0 0 i 0 := by
  refine .inr (.inr (.inr (.inr ⟨.inl ⟨rfl, rfl⟩, ⟨h1, h2⟩, by omega, fun hm => ?_, rfl⟩)))
  have := ((win.mem_all 0 0 i).1 hm).2.1
  omega
theorem judge_taken {h : Int} {b : Nat} {i : Int} (hj : win.JudgeIs h b i 0) : win.JudgeIs (max h i) (win.took h b i) i 14 := by
  rcases hj with ⟨_, e⟩ | ⟨_, _, e⟩ | ⟨_, _, _, e⟩ | ⟨_, _, _, _, e⟩ | ⟨hm, hr, ho, hn, _⟩
  · exact absurd e (by decide)
  · exact absurd e (by decide)
  · exact absurd e (by decide)
  · exact absurd e (by decide)
  · have hb : win.took h b i < 2 ^ 64 := win.took_lt hn
    have hbit := fun t ht => win.took_bit hn t ht
    have hh : 0 ≤ h ∧ h ≤ 1048575 := by rcases hm with ⟨a, _⟩ | ⟨a, c, _⟩ <;> omega
    have him : i ∈ win.mem (max h i) (win.took h b i) 64 := (win.mem_all _ _ _).2 ⟨by omega, by omega, by
      rw [hbit _ (by omega)]
      exact decide_eq_true (.inr (by omega))⟩
    have hmay : win.May (max h i) (win.took h b i) := by
      refine .inr ⟨by omega, by omega, ?_, fun t ht htb => ?_⟩
      · rw [hbit 0 (by decide)]
        refine decide_eq_true ?_
        by_cases hc : i ≤ h
        · left
          rw [show max h i = h by omega]
          rcases hm with ⟨a, c⟩ | ⟨a, c, d, _⟩
          · omega
          · exact (win.mem_all _ _ _).2 ⟨by omega, by omega, by rw [show (h - (h - ((0 : Nat) : Int))).toNat = 0 by omega]; exact d⟩
        · right; omega
      · rw [hbit t ht] at htb
        rcases of_decide_eq_true htb with hx | hx
        · obtain ⟨a1, a2, a3⟩ := (win.mem_all _ _ _).1 hx
          rcases hm with ⟨a, c⟩ | ⟨a, c, _, d⟩
          · rw [c] at a3; simp at a3
          · have := d _ (by omega) a3
            omega
        · omega
    exact .inr (.inr (.inr (.inl ⟨hmay, hr, by omega, him, rfl⟩)))
/-- What keying gives of a token that was sold here, under this key. -/
theorem key_sold {m : Mt} {l : List Pr} {c i a t bo : Int} {m' : Mt} {x e : Int} (h : KeyIs m l c i a t bo m' x e) (hm : m.may) (hl : May l) (hf : flawT c i a t = 0) (hk : m.lock ≤ 0) (hc : c ≠ 3) (hh : Here l m.me m.rev bo t) (hj : win.JudgeIs m.h m.b i 0) :
    (c = 0 ∧ 99999999 - m.cr < a ∧ m' = m ∧ x = 0 ∧ e = 15) ∨ (c = 2 ∧ a ≤ m.rev ∧ m' = m ∧ x = 0 ∧ e = 24) ∨ (¬ (c = 0 ∧ 99999999 - m.cr < a) ∧ ¬ (c = 2 ∧ a ≤ m.rev) ∧ m' = taken m c i a ∧ x = (if c = 0 then a else 0) ∧ e = 0) := by
  by_cases h1 : c = 0 ∧ 99999999 - m.cr < a
  · obtain ⟨r1, r2, r3⟩ := h.one (KeyIs.full ⟨hm, hl⟩ hf hk hc hh hj (fun hn => hn h1))
    exact .inl ⟨h1.1, h1.2, r1, r2, r3⟩
  · by_cases h2 : c = 2 ∧ a ≤ m.rev
    · obtain ⟨r1, r2, r3⟩ := h.one (KeyIs.key ⟨hm, hl⟩ hf hk hc hh hj h1 (fun hn => hn h2))
      exact .inr (.inl ⟨h2.1, h2.2, r1, r2, r3⟩)
    · obtain ⟨r1, r2, r3⟩ := h.one (KeyIs.take ⟨hm, hl⟩ hf hk hc hh hj h1 h2)
      exact .inr (.inr ⟨h1, h2, r1, r2, r3⟩)
/-- Keyed again. -/
theorem taken_may {m : Mt} (hm : m.may) {c i a : Int} (hj : win.JudgeIs m.h m.b i 0) (ha : 0 ≤ a) (h1 : ¬ (c = 0 ∧ 99999999 - m.cr < a)) (h2 : c = 2 → a ≤ 15) : (taken m c i a).may := by
  have e1 := hm.me; have e2 := hm.rev; have e3 := hm.cr; have e4 := hm.bad; have e5 := hm.lock
  refine ⟨e1, ?_, ?_, ⟨Int.le_refl _, show (0 : Int) ≤ 4 by decide⟩, e5, fun hx => hx.1 rfl, ?_⟩
  · unfold taken; simp only []; split
    · rename_i hc; have := h2 hc; omega
    · exact e2
  · unfold taken; simp only []; split
    · omega
    · split <;> omega
  · rcases judge_taken hj with ⟨_, e⟩ | ⟨_, _, e⟩ | ⟨_, _, _, e⟩ | ⟨hmm, _, _, _, _⟩ | ⟨_, _, _, _, e⟩
    · exact absurd e (by decide)
    · exact absurd e (by decide)
    · exact absurd e (by decide)
    · exact hmm
    · exact absurd e (by decide)
theorem key_again {m : Mt} {l : List Pr} {c i a t bo : Int} {m' : Mt} {x e : Int} (hm : m.may) (hl : May l) (hf : flawT c i a t = 0) (hk : m.lock ≤ 0) (hc : c ≠ 3) (hc2 : c ≠ 2) (hh : Here l m.me m.rev bo t) (hj : win.JudgeIs m.h m.b i 0) (ha : 0 ≤ a) (h1 : ¬ (c = 0 ∧ 99999999 - m.cr < a))
    (h : KeyIs (taken m c i a) l c i a t bo m' x e) : m' = taken m c i a ∧ x = 0 ∧ e = 14 := by
  have hr : (taken m c i a).rev = m.rev := by unfold taken; simp only []; rw [if_neg hc2]
  have hh2 : Here l (taken m c i a).me (taken m c i a).rev bo t := by rw [hr]; exact hh
  obtain ⟨r1, r2, r3⟩ := h.one (KeyIs.judge 14 ⟨taken_may hm hj ha h1 (fun hx => absurd hx hc2), hl⟩ hf hk hc hh2 (judge_taken hj) (by decide))
  exact ⟨r1, r2, r3⟩
/-- Nobody sold this here. -/
theorem key_none {m : Mt} {l : List Pr} {c i a t bo : Int} {m' : Mt} {x e : Int} (h : KeyIs m l c i a t bo m' x e) (hm : m.may) (hl : May l) (hf : flawT c i a t = 0) (hk : m.lock ≤ 0) (hc : c ≠ 3) (h1 : ¬ Here l m.me m.rev bo t) (h2 : ¬ Early l m.me m.rev bo t) : m' = badTry m ∧ x = 0 ∧ e = 12 :=
  h.one (KeyIs.tag ⟨hm, hl⟩ hf hk hc h1 h2)

end Go.Proofs.YtgipkpkjoicehaaGreatDoor.met

/- A pocket that is keyed: plain facts. -/
namespace Go.Proofs.YtgipkpkjoicehaaGreatDoor.pkt
open Go.Proofs.YtgipkpkjoicehaaGreatDoor.met Go.Proofs.YtgipkpkjoicehaaGreatDoor.slot Go.Proofs.YtgipkpkjoicehaaGreatDoor.cell Go.Proofs.YtgipkpkjoicehaaGreatDoor.ora Go.Proofs.YtgipkpkjoicehaaGreatDoor.token

/-- The token that a text tells. -/
def tk (s : List UInt8) : Tok := tokOf (dv s / 97)
theorem tk_of {s : List UInt8} (h : parseE s = 0) : parseV s = (tk s).v ∧ (tk s).ok := by
  have e : parseV s = (tk s).v := by unfold parseV; rw [if_pos h]; rfl
  refine ⟨e, ?_⟩
  obtain ⟨k, hk, _, hf⟩ := fmt_parse h
  have : tk s = k := by
    rw [← hf]; unfold tk; rw [fmt_dv, show 97 * k.num / 97 = k.num by omega, tokOf_num hk]
  rw [this]; exact hk
theorem tk_fmt {k : Tok} (hk : k.ok) : tk (fmtL (97 * k.num)) = k := by
  unfold tk; rw [fmt_dv, show 97 * k.num / 97 = k.num by omega, tokOf_num hk]
/-- What is refused, but for what nobody sold, leaves the meter as it was. -/
theorem key_keep {m : Mt} {l : List Pr} {c i a t bo : Int} {m' : Mt} {x e : Int} (h : KeyIs m l c i a t bo m' x e) (hm : m.may) (hl : May l) (h0 : e ≠ 0) (h12 : e ≠ 12) : m' = m ∧ x = 0 := by
  rcases h with ⟨a0, _⟩ | ⟨_, _, r1, r2, _⟩ | ⟨_, _, _, r1, r2, _⟩ | ⟨_, _, _, _, _, _, r3⟩ | ⟨_, _, _, _, _, _, r1, r2, _⟩ | ⟨_, _, _, _, _, _, _, _, r3⟩ | ⟨_, _, _, _, _, _, _, r1, r2⟩ | ⟨_, _, _, _, _, _, _, r1, r2, _⟩ | ⟨_, _, _, _, _, _, _, _, r1, r2, _⟩ | ⟨_, _, _, _, _, _, _, _, _, _, r3⟩
  · exact absurd ⟨hm, hl⟩ a0
  · exact ⟨r1, r2⟩
  · exact ⟨r1, r2⟩
  · exact absurd r3 h0
  · exact ⟨r1, r2⟩
  · exact absurd r3 h12
  · exact ⟨r1, r2⟩
  · exact ⟨r1, r2⟩
  · exact ⟨r1, r2⟩
  · exact absurd r3 h0
theorem bad_mw {m : Mt} (h : Mw m) (hk : m.lock ≤ 0) : Mw (badTry m) := by
  have h1 := h.may
  have h4 := h1.bad; have h5 := h1.lock
  unfold badTry
  split
  · exact ⟨⟨h1.me, h1.rev, h1.cr, ⟨by show (0 : Int) ≤ 0; decide, by show (0 : Int) ≤ 4; decide⟩, ⟨by show (0 : Int) ≤ 30; decide, by show (30 : Int) ≤ 30; decide⟩, fun hx => hx.1 rfl, h1.win⟩, h.b⟩
  · exact ⟨⟨h1.me, h1.rev, h1.cr, ⟨by show 0 ≤ m.bad + 1; omega, by show m.bad + 1 ≤ 4; omega⟩, h5, fun hx => by have h2 : m.lock ≠ 0 := hx.2; omega, h1.win⟩, h.b⟩
/-- What comes of keying may be. -/
theorem key_mw {m : Mt} {l : List Pr} {k : Tok} {bo : Int} {m' : Mt} {x e : Int} (h : KeyIs m l k.c k.i k.a k.t bo m' x e) (hm : Mw m) (hl : May l) (hk : k.ok) : Mw m' := by
  by_cases h0 : e = 0 ∨ e = 12
  · rcases h with ⟨a0, _⟩ | ⟨_, _, rfl, _⟩ | ⟨_, _, _, rfl, _⟩ | ⟨_, _, _, _, rfl, _⟩ | ⟨_, _, _, _, _, _, rfl, _⟩ | ⟨_, _, hlk, _, _, _, rfl, _⟩ | ⟨_, _, _, _, _, _, _, rfl, _⟩ | ⟨_, _, _, _, _, _, _, rfl, _⟩ | ⟨_, _, _, _, _, _, _, _, rfl, _⟩ | ⟨_, _, _, _, _, hj, h1, h2, rfl, _⟩
    · exact absurd ⟨hm.may, hl⟩ a0
    · exact hm
    · exact hm
    · exact hm
    · exact hm
    · exact bad_mw hm hlk
    · exact hm
    · exact hm
    · exact hm
    · refine ⟨taken_may hm.may hj (by omega) h1 (fun hc => ?_), ?_⟩
      · have hc2 : k.c = 2 := by omega
        have := hk.ac hc2
        omega
      · show win.took m.h m.b k.i < _
        rcases hj with ⟨_, e⟩ | ⟨_, _, e⟩ | ⟨_, _, _, e⟩ | ⟨_, _, _, _, e⟩ | ⟨_, _, _, hn, _⟩
        · exact absurd e (by decide)
        · exact absurd e (by decide)
        · exact absurd e (by decide)
        · exact absurd e (by decide)
        · have := win.took_lt hn
          omega
  · rw [(key_keep h hm.may hl (fun hx => h0 (.inl hx)) (fun hx => h0 (.inr hx))).1]; exact hm
theorem key_mw2 {m : Mt} {l : List Pr} {k : Tok} {bo : Int} {m' : Mt} {x e : Int} (h : KeyIs m l k.c k.i k.a k.t bo m' x e) (hm : Mw m) (hk : k.ok) (he : ¬ (e ≠ 0 ∧ e ≠ 12)) : Mw m' := by
  by_cases hl : May l
  · exact key_mw h hm hl hk
  · obtain ⟨_, _, r3⟩ := h.one (KeyIs.state (fun hx => hl hx.2))
    rw [r3] at he
    exact absurd ⟨by decide, by decide⟩ he
theorem key_me {m : Mt} {l : List Pr} {c i a t bo : Int} {m' : Mt} {x e : Int} (h : KeyIs m l c i a t bo m' x e) (hm : m.may) (hl : May l) : m'.me = m.me := by
  rcases h with ⟨a0, _⟩ | ⟨_, _, rfl, _⟩ | ⟨_, _, _, rfl, _⟩ | ⟨_, _, _, _, rfl, _⟩ | ⟨_, _, _, _, _, _, rfl, _⟩ | ⟨_, _, _, _, _, _, rfl, _⟩ | ⟨_, _, _, _, _, _, _, rfl, _⟩ | ⟨_, _, _, _, _, _, _, rfl, _⟩ | ⟨_, _, _, _, _, _, _, _, rfl, _⟩ | ⟨_, _, _, _, _, _, _, _, rfl, _⟩
  · exact absurd ⟨hm, hl⟩ a0
  all_goals first | rfl | (unfold badTry; split <;> rfl)

/-- What keying digits into a pocket gives. -/
def KeyedIs (xs : List Int) (l : List Pr) (s : List UInt8) (ls : List Wr) (x e : Int) : Prop :=
  (∃ m, BootIs xs m e ∧ e ≠ 0 ∧ ls = [] ∧ x = 0) ∨ (∃ m, BootIs xs m 0 ∧ parseE s = e ∧ e ≠ 0 ∧ ls = [] ∧ x = 0) ∨
    (∃ m m' y, BootIs xs m 0 ∧ parseE s = 0 ∧ KeyIs m l (tk s).c (tk s).i (tk s).a (tk s).t (bodyI (tk s).c (tk s).i (tk s).a) m' y e ∧ (e ≠ 0 ∧ e ≠ 12) ∧ ls = [] ∧ x = 0) ∨
    (∃ m m', BootIs xs m 0 ∧ parseE s = 0 ∧ KeyIs m l (tk s).c (tk s).i (tk s).a (tk s).t (bodyI (tk s).c (tk s).i (tk s).a) m' x e ∧ ¬ (e ≠ 0 ∧ e ≠ 12) ∧ WrIs xs m m' ls)
theorem KeyedIs.one {xs : List Int} {l : List Pr} {s : List UInt8} {ls ls' : List Wr} {x x' e e' : Int} (h : KeyedIs xs l s ls x e) (h' : KeyedIs xs l s ls' x' e') : ls = ls' ∧ x = x' ∧ e = e' := by
  rcases h with ⟨m, a0, a1, rfl, rfl⟩ | ⟨m, a0, a2, a1, rfl, rfl⟩ | ⟨m, m1, y, a0, a2, a3, a1, rfl, rfl⟩ | ⟨m, m1, a0, a2, a3, a1, a4⟩ <;>
    rcases h' with ⟨n, b0, b1, rfl, rfl⟩ | ⟨n, b0, b2, b1, rfl, rfl⟩ | ⟨n, n1, z, b0, b2, b3, b1, rfl, rfl⟩ | ⟨n, n1, b0, b2, b3, b1, b4⟩
  · exact ⟨rfl, rfl, (a0.one b0).2⟩
  · exact absurd (a0.one b0).2 a1
  · exact absurd (a0.one b0).2 a1
  · exact absurd (a0.one b0).2 a1
  · exact absurd (b0.one a0).2 b1
  · exact ⟨rfl, rfl, a2.symm.trans b2⟩
  · exact absurd (a2.symm.trans b2) a1
  · exact absurd (a2.symm.trans b2) a1
  · exact absurd (b0.one a0).2 b1
  · exact absurd (b2.symm.trans a2) b1
  · obtain ⟨rfl, _⟩ := a0.one b0; exact ⟨rfl, rfl, (a3.one b3).2.2⟩
  · obtain ⟨rfl, _⟩ := a0.one b0; rw [(a3.one b3).2.2] at a1; exact absurd a1 b1
  · exact absurd (b0.one a0).2 b1
  · exact absurd (b2.symm.trans a2) b1
  · obtain ⟨rfl, _⟩ := a0.one b0; rw [(a3.one b3).2.2] at a1; exact absurd b1 a1
  · obtain ⟨rfl, _⟩ := a0.one b0
    obtain ⟨rfl, rfl, rfl⟩ := a3.one b3
    exact ⟨a4.one b4, rfl, rfl⟩
/-- Digits that tell a token, keyed into a pocket that boots, at an oracle that may be. -/
theorem KeyedIs.held {xs : List Int} {l : List Pr} {s : List UInt8} {ls : List Wr} {x e : Int} (h : KeyedIs xs l s ls x e) {m : Mt} (hb : BootIs xs m 0) (hp : parseE s = 0) (hm : m.may) (hl : May l) :
    ∃ m', KeyIs m l (tk s).c (tk s).i (tk s).a (tk s).t (bodyI (tk s).c (tk s).i (tk s).a) m' x e ∧ WrIs xs m m' ls := by
  rcases h with ⟨n, a0, a1, rfl, rfl⟩ | ⟨n, a0, a2, a1, rfl, rfl⟩ | ⟨n, n1, y, a0, a2, a3, a1, rfl, rfl⟩ | ⟨n, n1, a0, a2, a3, a1, a4⟩
  · exact absurd (a0.one hb).2 a1
  · exact absurd (a2.symm.trans hp) a1
  · obtain ⟨rfl, _⟩ := a0.one hb
    obtain ⟨rfl, rfl⟩ := key_keep a3 hm hl a1.1 a1.2
    exact ⟨_, a3, .inl ⟨rfl, rfl⟩⟩
  · obtain ⟨rfl, _⟩ := a0.one hb
    exact ⟨n1, a3, a4⟩
/-- The same of a token's own digits. -/
theorem KeyedIs.sold {xs : List Int} {l : List Pr} {k : Tok} (hk : k.ok) {ls : List Wr} {x e : Int} (h : KeyedIs xs l (fmtL (97 * k.num)) ls x e) {m : Mt} (hb : BootIs xs m 0) (hm : m.may) (hl : May l) :
    ∃ m', KeyIs m l k.c k.i k.a k.t (bodyI k.c k.i k.a) m' x e ∧ WrIs xs m m' ls := by
  have := h.held hb (parse_fmt hk).1 hm hl
  rwa [tk_fmt hk] at this
/-- Slots behind all the writes of a step hold the meter behind it; behind fewer, the one ahead of it. -/
theorem wr_all {xs : List Int} {m m' : Mt} {ls : List Wr} (h : WrIs xs m m' ls) (hh : Holds xs 5 (wds m)) : Holds (wrt xs ls) 5 (wds m') := by
  rcases h with ⟨rfl, rfl⟩ | ⟨_, rfl⟩
  · exact hh
  · exact store_all hh rfl
theorem wr_cut {xs : List Int} {m m' : Mt} {ls : List Wr} (h : WrIs xs m m' ls) (hh : Holds xs 5 (wds m)) {k : Nat} (hk : k < ls.length) : Holds (wrt xs (ls.take k)) 5 (wds m) := by
  rcases h with ⟨rfl, rfl⟩ | ⟨_, rfl⟩
  · exact absurd hk (Nat.not_lt_zero _)
  · exact store_cut hh (by rw [sto_len] at hk; exact hk)
theorem wr_in {xs : List Int} {m m' : Mt} {ls : List Wr} (h : WrIs xs m m' ls) : allN 12 ls = true := by
  rcases h with ⟨_, rfl⟩ | ⟨_, rfl⟩
  · rfl
  · exact sto_in xs _ 5
/-- A token that was sold here just now. -/
theorem issue_tok {l ls : List Pr} {m : Mt} (hm : m.may) {k : Tok} (hk : k.ok) {tg f : Int} (h : IssueIs l m.me m.rev (k.body : Int) (k.t : Int) ls tg f) (hl : May l) (hn : l.length < 500) :
    f = 0 ∧ May ls ∧ ls.length ≤ l.length + 1 ∧ ∃ t : Nat, tg = (t : Int) ∧ (⟨k.c, k.i, k.a, t⟩ : Tok).ok ∧ Here ls m.me m.rev (bodyI k.c k.i k.a) (t : Int) := by
  obtain ⟨r1, r2, r3, _, r5, r6, ⟨j, hj, ht⟩, _⟩ := h.ok hl (pr_may hm hk) hn
  obtain ⟨t, rfl⟩ := Int.eq_ofNat_of_zero_le r5
  refine ⟨r1, r2, r3, t, rfl, ⟨hk.c3, hk.i1, hk.i2, by show t ≤ 65535; omega, hk.a2, hk.a0, hk.ac, hk.az⟩, j, hj.lt, hj.is.1, ?_, ht, hj.is.2.1⟩
  rw [body_tok]; exact hj.is.2.2
/-- One step of many: a token is sold and keyed. -/
def Step (m : Mt) (l : List Pr) (k : Tok) (m' : Mt) (l' : List Pr) : Prop :=
  ∃ t x e, IssueIs l m.me m.rev (k.body : Int) (k.t : Int) l' t 0 ∧ KeyIs m l' k.c k.i k.a t (bodyI k.c k.i k.a) m' x e
/-- The first k of many. -/
def Run (me : Int) (ks : Nat → Tok) : Nat → Mt → List Pr → Prop
  | 0, m, l => m = mtNew me ∧ l = []
  | n + 1, m', l' => ∃ m l, Run me ks n m l ∧ Step m l (ks n) m' l'

end Go.Proofs.YtgipkpkjoicehaaGreatDoor.pkt

/- A pocket's answers to what is keyed. -/
namespace Go.Proofs.YtgipkpkjoicehaaGreatDoor.pkt
open Go.RowKit Go.Proofs.YtgipkpkjoicehaaGreatDoor.met Go.Proofs.YtgipkpkjoicehaaGreatDoor.slot Go.Proofs.YtgipkpkjoicehaaGreatDoor.cell Go.Proofs.YtgipkpkjoicehaaGreatDoor.ora

def KeyedPost (w : World) (xs : List Int) (l : List Pr) (s : ByteArray) (e : Ending) (w' : World) : Prop := ∃ a n cap ls x f, e = .returned (.tuple #[.slice a n cap, .int .i64 x, .int .i64 f]) ∧ Wg w' a n cap ls ∧ KeyedIs xs l s.data.toList ls x f ∧ Below w.heap.size w w'

end Go.Proofs.YtgipkpkjoicehaaGreatDoor.pkt

/- The program boots a pocket. -/
namespace Go.Proofs.YtgipkpkjoicehaaGreatDoor.pkt
open Go.RowKit Go.Proofs.YtgipkpkjoicehaaGreatDoor.met Go.Proofs.YtgipkpkjoicehaaGreatDoor.slot Go.Proofs.YtgipkpkjoicehaaGreatDoor.cell
set_option maxRecDepth 100000
set_option linter.unusedVariables false
set_option linter.unusedSimpArgs false

set_option maxHeartbeats 1000000 in
theorem pboot_no (a : Option Addr) (n cap : Nat) (f : Int) (w : World) (hf : f ≠ 0) (hL : ∀ W, Below w.heap.size w W → Calls Tryz.prog 20 #[.slice a n cap, .int .i64 5] W fun e w' => GaveR W [] f e w') :
    Calls Tryz.prog 11 #[.slice a n cap] w fun e w' => e = .returned (.tuple #[.agg #[.int .i64 0, .int .i64 0, .int .i64 0, .int .i64 0, .int .u64 0, .int .i64 0, .int .i64 0], .int .i64 f]) ∧ Below w.heap.size w w' := by
  have HL : Hid (∀ W, Below w.heap.size w W → Calls Tryz.prog 20 #[.slice a n cap, .int .i64 5] W fun e w' => GaveR W [] f e w') := hL
  have hd : (f != 0) = true := by simpa using hf
  clear hL hf
  have H0r : Hid (Blk (w.alloc (.cells #[.int .i64 0, .int .i64 0, .int .i64 0, .int .i64 0, .int .u64 0, .int .i64 0, .int .i64 0] 40)) (w.heap.size) #[.int .i64 0, .int .i64 0, .int .i64 0, .int .i64 0, .int .u64 0, .int .i64 0, .int .i64 0] 40) := Blk.new w _ _
  have H0B : Hid (Below w.heap.size w (w.alloc (.cells #[.int .i64 0, .int .i64 0, .int .i64 0, .int .i64 0, .int .u64 0, .int .i64 0, .int .i64 0] 40))) := (Below.refl w.heap.size w).alloc (by simp) _
  go_enter Tryz.func11, Tryz.ntmps11
  go_wp2_with fail
  refine (HL.out _ H0B.out).mono ?_
  rintro e w1 ⟨x1, c1, rfl, hr1, _, hb1⟩
  have H1r : Hid (Blk w1 (w.heap.size) #[.int .i64 0, .int .i64 0, .int .i64 0, .int .i64 0, .int .u64 0, .int .i64 0, .int .i64 0] 40) := H0r.out.next hb1
  have H1B : Hid (Below w.heap.size w w1) := bel_step H0B.out hb1
  clear H0r H0B hb1 HL
  go_wp2_with (first | (refine wp_letAll rfl 40 _ _ rfl (w.heap.size) rfl #[.int .i64 0, .int .i64 0, .int .i64 0, .int .i64 0, .int .u64 0, .int .i64 0, .int .i64 0] rfl (by kernel_rfl) (by simp [Value.oneCell']) #[.int .i64 0, .int .i64 0, .int .i64 0, .int .i64 0, .int .u64 0, .int .i64 0, .int .i64 0] 40 H1r.out rfl ?_) | fail)
  intro WF hU
  have H2r : Hid (Blk WF (w.heap.size) #[.int .i64 0, .int .i64 0, .int .i64 0, .int .i64 0, .int .u64 0, .int .i64 0, .int .i64 0] 40) := hU.blk
  have H2B : Hid (Below w.heap.size w WF) := hU.bel _ _ (by omega) H1B.out
  clear hU H1r H1B  
  have HBF : Hid (Below w.heap.size w WF) := H2B.out
  have Rr0 : Hid (WF.cell? ⟨w.heap.size, 0, none⟩ = some (.int .i64 0)) := H2r.out.cell 0
  have Rr1 : Hid (WF.cell? ⟨w.heap.size, 1, none⟩ = some (.int .i64 0)) := H2r.out.cell 1
  have Rr2 : Hid (WF.cell? ⟨w.heap.size, 2, none⟩ = some (.int .i64 0)) := H2r.out.cell 2
  have Rr3 : Hid (WF.cell? ⟨w.heap.size, 3, none⟩ = some (.int .i64 0)) := H2r.out.cell 3
  have Rr4 : Hid (WF.cell? ⟨w.heap.size, 4, none⟩ = some (.int .u64 0)) := H2r.out.cell 4
  have Rr5 : Hid (WF.cell? ⟨w.heap.size, 5, none⟩ = some (.int .i64 0)) := H2r.out.cell 5
  have Rr6 : Hid (WF.cell? ⟨w.heap.size, 6, none⟩ = some (.int .i64 0)) := H2r.out.cell 6
  go_wp2_with fail
  exact bodyPost_ret (v := .tuple #[.agg #[.int .i64 0, .int .i64 0, .int .i64 0, .int .i64 0, .int .u64 0, .int .i64 0, .int .i64 0], .int .i64 f]) (by simp [results, Tryz.results11, Rr0.out, Rr1.out, Rr2.out, Rr3.out, Rr4.out, Rr5.out, Rr6.out, go_sem]) rfl ⟨rfl, HBF.out⟩
set_option maxHeartbeats 1000000 in
theorem pboot_yes (a : Option Addr) (n cap : Nat) (rs : List Int) (w : World) (hn : rs.length = 5) (hL : ∀ W, Below w.heap.size w W → Calls Tryz.prog 20 #[.slice a n cap, .int .i64 5] W fun e w' => GaveR W rs 0 e w') (hR : ∀ W r c, RowU W r 5 rs → Calls Tryz.prog 21 #[.slice r 5 c] W fun e w' => ReadPost W rs e w') :
    Calls Tryz.prog 11 #[.slice a n cap] w fun e w' => ReadPost w rs e w' := by
  have HL : Hid (∀ W, Below w.heap.size w W → Calls Tryz.prog 20 #[.slice a n cap, .int .i64 5] W fun e w' => GaveR W rs 0 e w') := hL
  have HR : Hid (∀ W r c, RowU W r 5 rs → Calls Tryz.prog 21 #[.slice r 5 c] W fun e w' => ReadPost W rs e w') := hR
  have HN : Hid (rs.length = 5) := hn
  clear hL hR hn
  have H0r : Hid (Blk (w.alloc (.cells #[.int .i64 0, .int .i64 0, .int .i64 0, .int .i64 0, .int .u64 0, .int .i64 0, .int .i64 0] 40)) (w.heap.size) #[.int .i64 0, .int .i64 0, .int .i64 0, .int .i64 0, .int .u64 0, .int .i64 0, .int .i64 0] 40) := Blk.new w _ _
  have H0B : Hid (Below w.heap.size w (w.alloc (.cells #[.int .i64 0, .int .i64 0, .int .i64 0, .int .i64 0, .int .u64 0, .int .i64 0, .int .i64 0] 40))) := (Below.refl w.heap.size w).alloc (by simp) _
  go_enter Tryz.func11, Tryz.ntmps11
  go_wp2_with fail
  refine (HL.out _ H0B.out).mono ?_
  rintro e w1 ⟨x1, c1, rfl, hr1, _, hb1⟩
  have H1r : Hid (Blk w1 (w.heap.size) #[.int .i64 0, .int .i64 0, .int .i64 0, .int .i64 0, .int .u64 0, .int .i64 0, .int .i64 0] 40) := H0r.out.next hb1
  have H1B : Hid (Below w.heap.size w w1) := bel_step H0B.out hb1
  have HX : Hid (RowU w1 x1 5 rs) := by have := HN.out; rw [this] at hr1; exact hr1
  have hn := HN.out
  rw [hn]
  clear H0r H0B hb1 hr1 hn HL HN
  go_wp2_with fail
  refine (HR.out _ _ _ HX.out).mono ?_
  rintro e w2 ⟨m2, f2, rfl, hi2, hb2⟩
  have H2r : Hid (Blk w2 (w.heap.size) #[.int .i64 0, .int .i64 0, .int .i64 0, .int .i64 0, .int .u64 0, .int .i64 0, .int .i64 0] 40) := H1r.out.next hb2
  have H2B : Hid (Below w.heap.size w w2) := bel_step H1B.out hb2
  have HI : Hid (ReadIs rs m2 f2) := hi2
  obtain ⟨me2, rev2, cr2, h2, b2, bad2, lock2⟩ := m2
  unfold Mt.v Mt.cells
  simp only []
  clear H1r H1B hb2 hi2 HR HX
  go_wp2_with (first | (refine wp_letAll rfl 40 _ _ rfl (w.heap.size) rfl #[.int .i64 me2, .int .i64 rev2, .int .i64 cr2, .int .i64 h2, .int .u64 (b2 : Int), .int .i64 bad2, .int .i64 lock2] rfl (by kernel_rfl) (by simp [Value.oneCell']) #[.int .i64 0, .int .i64 0, .int .i64 0, .int .i64 0, .int .u64 0, .int .i64 0, .int .i64 0] 40 H2r.out rfl ?_) | fail)
  intro WF hU
  have H3r : Hid (Blk WF (w.heap.size) #[.int .i64 me2, .int .i64 rev2, .int .i64 cr2, .int .i64 h2, .int .u64 (b2 : Int), .int .i64 bad2, .int .i64 lock2] 40) := hU.blk
  have H3B : Hid (Below w.heap.size w WF) := hU.bel _ _ (by omega) H2B.out
  clear hU H2r H2B  
  have HBF : Hid (Below w.heap.size w WF) := H3B.out
  have Rr0 : Hid (WF.cell? ⟨w.heap.size, 0, none⟩ = some (.int .i64 me2)) := H3r.out.cell 0
  have Rr1 : Hid (WF.cell? ⟨w.heap.size, 1, none⟩ = some (.int .i64 rev2)) := H3r.out.cell 1
  have Rr2 : Hid (WF.cell? ⟨w.heap.size, 2, none⟩ = some (.int .i64 cr2)) := H3r.out.cell 2
  have Rr3 : Hid (WF.cell? ⟨w.heap.size, 3, none⟩ = some (.int .i64 h2)) := H3r.out.cell 3
  have Rr4 : Hid (WF.cell? ⟨w.heap.size, 4, none⟩ = some (.int .u64 (b2 : Int))) := H3r.out.cell 4
  have Rr5 : Hid (WF.cell? ⟨w.heap.size, 5, none⟩ = some (.int .i64 bad2)) := H3r.out.cell 5
  have Rr6 : Hid (WF.cell? ⟨w.heap.size, 6, none⟩ = some (.int .i64 lock2)) := H3r.out.cell 6
  go_wp2_with fail
  exact bodyPost_ret (v := .tuple #[.agg #[.int .i64 me2, .int .i64 rev2, .int .i64 cr2, .int .i64 h2, .int .u64 (b2 : Int), .int .i64 bad2, .int .i64 lock2], .int .i64 f2]) (by simp [results, Tryz.results11, Rr0.out, Rr1.out, Rr2.out, Rr3.out, Rr4.out, Rr5.out, Rr6.out, go_sem]) rfl ⟨⟨me2, rev2, cr2, h2, b2, bad2, lock2⟩, f2, rfl, HI.out, HBF.out⟩
theorem pboot (a : Option Addr) (n cap : Nat) (xs : List Int) (w : World) (h : RowU w a n xs) (hc : n ≤ cap) (hw : ∀ x ∈ rcd xs 5 (which xs 5), 0 ≤ x ∧ x < 4294967296) :
    Calls Tryz.prog 11 #[.slice a n cap] w fun e w' => BootPost w xs e w' := by
  have hl := h.1
  by_cases h12 : n = 12
  · subst h12
    by_cases h2 : which xs 5 = 2
    · refine (pboot_no a 12 cap 17 w (by decide) (fun W hB => load_blank a 12 cap 5 xs W (h.below hB) (by decide) (by decide) rfl h2)).mono ?_
      rintro e w' ⟨rfl, hb⟩
      exact ⟨mt0, 17, rfl, .inr (.inl ⟨hl, h2, rfl, rfl⟩), hb⟩
    · have h1 : which xs 5 ≤ 1 := by have := which_le xs 5; omega
      refine (pboot_yes a 12 cap (rcd xs 5 (which xs 5)) w (rcd_len _ _ _) (fun W hB => load_yes a 12 cap 5 _ xs W (h.below hB) hc (by decide) (by decide) rfl rfl h1) (fun W r c hr => pread r 5 c _ W hr hw)).mono ?_
      rintro e w' ⟨m, f, rfl, hi, hb⟩
      exact ⟨m, f, rfl, .inr (.inr ⟨hl, h1, hi⟩), hb⟩
  · refine (pboot_no a n cap 1 w (by decide) (fun W hB => load_size a n cap 5 W (.inr (.inr (by omega))))).mono ?_
    rintro e w' ⟨rfl, hb⟩
    exact ⟨mt0, 1, rfl, .inl ⟨by omega, rfl, rfl⟩, hb⟩

end Go.Proofs.YtgipkpkjoicehaaGreatDoor.pkt

/- The load of a whole block, under a test that came out so. -/
namespace Go.Proofs.YtgipkpkjoicehaaGreatDoor
open Go.RowKit

theorem wp_wholeG {P : Program} {ops : Array Oper} {rest : List Oper} {o : Oper} {a : Act} {w : World} {Q : Exit → Act → World → Prop} (hw : Region.wanted o (yielded ops a.tmps) = true) (ty : TypeId) (x : Operand) (ho : o.op = .load ty x)
    (g : Nat) (hx : a.eval x = .pointer (some ⟨g, 0, none⟩)) (t : TypeId) (cs : Array Value) (d : TypeDesc) (hB : Blk w g cs t)
    (hu : P.underlying ty = some d) (hd : d.isRow = true) (hi : (P.info? ty).map (·.size) = some cs.size)
    (h : wpList P ops Q rest (a.put o.dst (.agg cs)) w) : wpList P ops Q (o :: rest) a w :=
  wpList_step fun K hK => by
    rw [if_pos hw]
    exact wp_load_mid (P := P) (op := o) (a := a) (w := w) (K := K) (Q := Q) ty x ho g 0 hx cs.toList d (fun j v hv => by rw [Nat.zero_add, hB.cell j]; simpa using hv) hu hd (by simpa using hi) (by simpa using hK _ _ h)

end Go.Proofs.YtgipkpkjoicehaaGreatDoor

/- Meters, compared. -/
namespace Go.Proofs.YtgipkpkjoicehaaGreatDoor.met
open Go.RowKit
set_option maxRecDepth 100000
set_option linter.unusedSimpArgs false

theorem meI (d : Nat) (a b : Int) (w : World) : (Op.equalIn (d + 1) 3 (.int .i64 a) (.int .i64 b)).run Tryz.prog w = .ok (a == b) w := run_equalIn_int w d _ _ _ a b Tryz.underlying3
theorem meU (d : Nat) (a b : Int) (w : World) : (Op.equalIn (d + 1) 36 (.int .u64 a) (.int .u64 b)).run Tryz.prog w = .ok (a == b) w := run_equalIn_int w d _ _ _ a b Tryz.underlying36
theorem mw0 (s c : Int) (w : World) : (part 3 #[.int .i64 s, .int .u64 c] 0).run Tryz.prog w = .ok (.int .i64 s) w := by kernel_rfl
theorem mw1 (s c : Int) (w : World) : (part 36 #[.int .i64 s, .int .u64 c] 1).run Tryz.prog w = .ok (.int .u64 c) w := by kernel_rfl
theorem mq0 (a b c d e f g : Int) (w : World) : (part 3 #[.int .i64 a, .int .i64 b, .int .i64 c, .int .i64 d, .int .u64 e, .int .i64 f, .int .i64 g] 0).run Tryz.prog w = .ok (.int .i64 a) w := by kernel_rfl
theorem mq1 (a b c d e f g : Int) (w : World) : (part 3 #[.int .i64 a, .int .i64 b, .int .i64 c, .int .i64 d, .int .u64 e, .int .i64 f, .int .i64 g] 1).run Tryz.prog w = .ok (.int .i64 b) w := by kernel_rfl
theorem mq2 (a b c d e f g : Int) (w : World) : (part 3 #[.int .i64 a, .int .i64 b, .int .i64 c, .int .i64 d, .int .u64 e, .int .i64 f, .int .i64 g] 2).run Tryz.prog w = .ok (.int .i64 c) w := by kernel_rfl
theorem mq3 (a b c d e f g : Int) (w : World) : (part 38 #[.int .i64 a, .int .i64 b, .int .i64 c, .int .i64 d, .int .u64 e, .int .i64 f, .int .i64 g] 3).run Tryz.prog w = .ok (.agg #[.int .i64 d, .int .u64 e]) w := by kernel_rfl
theorem mq5 (a b c d e f g : Int) (w : World) : (part 3 #[.int .i64 a, .int .i64 b, .int .i64 c, .int .i64 d, .int .u64 e, .int .i64 f, .int .i64 g] 5).run Tryz.prog w = .ok (.int .i64 f) w := by kernel_rfl
theorem mq6 (a b c d e f g : Int) (w : World) : (part 3 #[.int .i64 a, .int .i64 b, .int .i64 c, .int .i64 d, .int .u64 e, .int .i64 f, .int .i64 g] 6).run Tryz.prog w = .ok (.int .i64 g) w := by kernel_rfl
theorem eqWd (d : Nat) (s b : Int) (w : World) : (Op.equalIn (d + 1 + 1) 38 (.agg #[.int .i64 s, .int .u64 b]) (.agg #[.int .i64 s, .int .u64 b])).run Tryz.prog w = .ok true w := by
  rw [run_equalIn_agg w (d + 1) 38 _ _ (by kernel_rfl) (by kernel_rfl)]
  simp only [Program.fieldsOf, Tryz.underlying38, Op.eqFields, Sem.run_bind, Sem.run_ite]
  simp [mw0, mw1, meI, meU]
theorem eqMt (a b c d e f g : Int) (w : World) :
    (Op.equalIn 10000 40 (.agg #[.int .i64 a, .int .i64 b, .int .i64 c, .int .i64 d, .int .u64 e, .int .i64 f, .int .i64 g]) (.agg #[.int .i64 a, .int .i64 b, .int .i64 c, .int .i64 d, .int .u64 e, .int .i64 f, .int .i64 g])).run Tryz.prog w = .ok true w := by
  rw [show (10000 : Nat) = 9999 + 1 from rfl, run_equalIn_agg w 9999 40 _ _ (by kernel_rfl) (by kernel_rfl)]
  simp only [Program.fieldsOf, Tryz.underlying40, Op.eqFields, Sem.run_bind, Sem.run_ite]
  simp [mq0, mq1, mq2, mq3, mq5, mq6, show (9999 : Nat) = 9997 + 1 + 1 from rfl, meI, eqWd]

end Go.Proofs.YtgipkpkjoicehaaGreatDoor.met

/- Two meters that are not one, compared. -/
namespace Go.Proofs.YtgipkpkjoicehaaGreatDoor.met
open Go.RowKit
set_option maxRecDepth 100000
set_option linter.unusedSimpArgs false

theorem eqWd2 (d : Nat) (s b s' b' : Int) (w : World) : (Op.equalIn (d + 1 + 1) 38 (.agg #[.int .i64 s, .int .u64 b]) (.agg #[.int .i64 s', .int .u64 b'])).run Tryz.prog w = .ok (s == s' && b == b') w := by
  rw [run_equalIn_agg w (d + 1) 38 _ _ (by kernel_rfl) (by kernel_rfl)]
  simp only [Program.fieldsOf, Tryz.underlying38, Op.eqFields, Sem.run_bind, Sem.run_ite]
  by_cases h1 : s = s' <;> by_cases h2 : b = b' <;> simp [mw0, mw1, meI, meU, h1, h2]
theorem neMt (a b c d e f g a' b' c' d' e' f' g' : Int) (w : World) (h : ¬ (a = a' ∧ b = b' ∧ c = c' ∧ d = d' ∧ e = e' ∧ f = f' ∧ g = g')) :
    (Op.equalIn 10000 40 (.agg #[.int .i64 a, .int .i64 b, .int .i64 c, .int .i64 d, .int .u64 e, .int .i64 f, .int .i64 g]) (.agg #[.int .i64 a', .int .i64 b', .int .i64 c', .int .i64 d', .int .u64 e', .int .i64 f', .int .i64 g'])).run Tryz.prog w = .ok false w := by
  rw [show (10000 : Nat) = 9999 + 1 from rfl, run_equalIn_agg w 9999 40 _ _ (by kernel_rfl) (by kernel_rfl)]
  simp only [Program.fieldsOf, Tryz.underlying40, Op.eqFields, Sem.run_bind, Sem.run_ite]
  by_cases h1 : a = a'
  · by_cases h2 : b = b'
    · by_cases h3 : c = c'
      · by_cases h4 : d = d'
        · by_cases h5 : e = e'
          · by_cases h6 : f = f'
            · by_cases h7 : g = g'
              · exact absurd ⟨h1, h2, h3, h4, h5, h6, h7⟩ h
              · simp [mq0, mq1, mq2, mq3, mq5, mq6, show (9999 : Nat) = 9997 + 1 + 1 from rfl, meI, eqWd2, h1, h2, h3, h4, h5, h6, h7]
            · simp [mq0, mq1, mq2, mq3, mq5, mq6, show (9999 : Nat) = 9997 + 1 + 1 from rfl, meI, eqWd2, h1, h2, h3, h4, h5, h6]
          · simp [mq0, mq1, mq2, mq3, mq5, mq6, show (9999 : Nat) = 9997 + 1 + 1 from rfl, meI, eqWd2, h1, h2, h3, h4, h5]
        · simp [mq0, mq1, mq2, mq3, mq5, mq6, show (9999 : Nat) = 9997 + 1 + 1 from rfl, meI, eqWd2, h1, h2, h3, h4]
      · simp [mq0, mq1, mq2, mq3, mq5, mq6, show (9999 : Nat) = 9997 + 1 + 1 from rfl, meI, eqWd2, h1, h2, h3]
    · simp [mq0, mq1, mq2, mq3, mq5, mq6, show (9999 : Nat) = 9997 + 1 + 1 from rfl, meI, eqWd2, h1, h2]
  · simp [mq0, mq1, mq2, mq3, mq5, mq6, show (9999 : Nat) = 9997 + 1 + 1 from rfl, meI, eqWd2, h1]
/-- Meters compared: whatever they are. -/
theorem eqMt_one (m m' : Mt) (w : World) (h : m = m') : (Op.equalIn 10000 40 (.agg m.cells) (.agg m'.cells)).run Tryz.prog w = .ok true w := by
  subst h
  exact eqMt _ _ _ _ _ _ _ w
theorem eqMt_two (m m' : Mt) (w : World) (h : m ≠ m') : (Op.equalIn 10000 40 (.agg m.cells) (.agg m'.cells)).run Tryz.prog w = .ok false w := by
  obtain ⟨a, b, c, d, e, f, g⟩ := m
  obtain ⟨a', b', c', d', e', f', g'⟩ := m'
  refine neMt _ _ _ _ _ _ _ _ _ _ _ _ _ _ w ?_
  rintro ⟨h1, h2, h3, h4, h5, h6, h7⟩
  simp only [] at h1 h2 h3 h4 h5 h6 h7
  have h5' : e = e' := by omega
  subst h1 h2 h3 h4 h5' h6 h7
  exact h rfl

end Go.Proofs.YtgipkpkjoicehaaGreatDoor.met

/- The writes of a step. -/
namespace Go.Proofs.YtgipkpkjoicehaaGreatDoor.pkt
open Go.RowKit Go.Proofs.YtgipkpkjoicehaaGreatDoor.met Go.Proofs.YtgipkpkjoicehaaGreatDoor.slot Go.Proofs.YtgipkpkjoicehaaGreatDoor.cell
set_option maxRecDepth 100000
set_option linter.unusedVariables false
set_option linter.unusedSimpArgs false

set_option maxHeartbeats 1000000 in
theorem pwrites_one (a : Option Addr) (cap : Nat) (xs : List Int) (m m' : Mt) (w : World) (h : RowU w a 12 xs) (hwh : which xs 5 ≤ 1) (hm : Mw m') (he : m' = m) :
    Calls Tryz.prog 14 #[.slice a 12 cap, m.v, m'.v] w fun e w' => WritesPost w xs m m' e w' := by
  have HQ : Hid (∀ W : World, (Op.equalIn 10000 40 (.agg m'.cells) (.agg m.cells)).run Tryz.prog W = .ok true W) := fun W => eqMt_one m' m W he
  have HE : Hid (m' = m) := he
  clear h hwh hm he
  obtain ⟨me, rev, cr, h, b, bad, lock⟩ := m
  obtain ⟨me1, rev1, cr1, h1, b1, bad1, lock1⟩ := m'
  unfold Mt.v Mt.cells at *
  simp only [] at *
  have hq := HQ.out
  clear HQ
  have H0m : Hid (Blk ((w.alloc (.cells #[.int .i64 me, .int .i64 rev, .int .i64 cr, .int .i64 h, .int .u64 (b : Int), .int .i64 bad, .int .i64 lock] 40)).alloc (.cells #[.int .i64 me1, .int .i64 rev1, .int .i64 cr1, .int .i64 h1, .int .u64 (b1 : Int), .int .i64 bad1, .int .i64 lock1] 40)) (w.heap.size) #[.int .i64 me, .int .i64 rev, .int .i64 cr, .int .i64 h, .int .u64 (b : Int), .int .i64 bad, .int .i64 lock] 40) := (Blk.new w _ _).alloc _
  have H0n : Hid (Blk ((w.alloc (.cells #[.int .i64 me, .int .i64 rev, .int .i64 cr, .int .i64 h, .int .u64 (b : Int), .int .i64 bad, .int .i64 lock] 40)).alloc (.cells #[.int .i64 me1, .int .i64 rev1, .int .i64 cr1, .int .i64 h1, .int .u64 (b1 : Int), .int .i64 bad1, .int .i64 lock1] 40)) (w.heap.size + 1) #[.int .i64 me1, .int .i64 rev1, .int .i64 cr1, .int .i64 h1, .int .u64 (b1 : Int), .int .i64 bad1, .int .i64 lock1] 40) := Blk.new1 w _ _ _
  have H0B : Hid (Below w.heap.size w ((w.alloc (.cells #[.int .i64 me, .int .i64 rev, .int .i64 cr, .int .i64 h, .int .u64 (b : Int), .int .i64 bad, .int .i64 lock] 40)).alloc (.cells #[.int .i64 me1, .int .i64 rev1, .int .i64 cr1, .int .i64 h1, .int .u64 (b1 : Int), .int .i64 bad1, .int .i64 lock1] 40))) := ((Below.refl w.heap.size w).alloc (by simp) _).alloc (by simp) _
  go_enter Tryz.func14, Tryz.ntmps14
  go_wp2_with (first
    | (refine wp_whole rfl 40 _ rfl (w.heap.size) rfl 40 #[.int .i64 me, .int .i64 rev, .int .i64 cr, .int .i64 h, .int .u64 (b : Int), .int .i64 bad, .int .i64 lock] _ H0m.out Tryz.underlying40 rfl (by kernel_rfl) ?_)
    | (refine wp_wholeG (by rfl) 40 _ rfl (w.heap.size) rfl 40 #[.int .i64 me, .int .i64 rev, .int .i64 cr, .int .i64 h, .int .u64 (b : Int), .int .i64 bad, .int .i64 lock] _ H0m.out Tryz.underlying40 rfl (by kernel_rfl) ?_)
    | (refine wp_whole rfl 40 _ rfl (w.heap.size + 1) rfl 40 #[.int .i64 me1, .int .i64 rev1, .int .i64 cr1, .int .i64 h1, .int .u64 (b1 : Int), .int .i64 bad1, .int .i64 lock1] _ H0n.out Tryz.underlying40 rfl (by kernel_rfl) ?_)
    | (refine wp_wholeG (by rfl) 40 _ rfl (w.heap.size + 1) rfl 40 #[.int .i64 me1, .int .i64 rev1, .int .i64 cr1, .int .i64 h1, .int .u64 (b1 : Int), .int .i64 bad1, .int .i64 lock1] _ H0n.out Tryz.underlying40 rfl (by kernel_rfl) ?_)
    | fail)
  go_ret
  exact ⟨none, 0, 0, [], rfl, Wg.none _, .inl ⟨HE.out, rfl⟩, H0B.out⟩
set_option maxHeartbeats 1000000 in
theorem pwrites_two (a : Option Addr) (cap : Nat) (xs : List Int) (m m' : Mt) (w : World) (h : RowU w a 12 xs) (hwh : which xs 5 ≤ 1) (hm : Mw m') (he : m' ≠ m) :
    Calls Tryz.prog 14 #[.slice a 12 cap, m.v, m'.v] w fun e w' => WritesPost w xs m m' e w' := by
  have HQ : Hid (∀ W : World, (Op.equalIn 10000 40 (.agg m'.cells) (.agg m.cells)).run Tryz.prog W = .ok false W) := fun W => eqMt_two m' m W he
  have HE : Hid (m' ≠ m) := he
  have HWD : Hid (∀ W, Calls Tryz.prog 30 #[m'.v] W fun e w' => met.WordsPost W m' e w') := fun W => pwords m' W hm.b
  have HST : Hid (∀ W r c2, Below w.heap.size w W → RowU W r 5 (wds m') → Calls Tryz.prog 31 #[.slice a 12 cap, .slice r 5 c2] W fun e w' => GaveL W (sto xs (wds m') 5) 0 e w') := fun W r c2 hB hr => store_yes a r 12 cap 5 c2 _ xs (wds m') W (h.below hB) hr (by decide) (by decide) rfl rfl hwh
  have HOK : Hid (Mt.may m') := hm.may
  clear h hwh hm he
  obtain ⟨me, rev, cr, h, b, bad, lock⟩ := m
  obtain ⟨me1, rev1, cr1, h1, b1, bad1, lock1⟩ := m'
  unfold Mt.v Mt.cells at *
  simp only [] at *
  have hq := HQ.out
  clear HQ
  have H0m : Hid (Blk ((w.alloc (.cells #[.int .i64 me, .int .i64 rev, .int .i64 cr, .int .i64 h, .int .u64 (b : Int), .int .i64 bad, .int .i64 lock] 40)).alloc (.cells #[.int .i64 me1, .int .i64 rev1, .int .i64 cr1, .int .i64 h1, .int .u64 (b1 : Int), .int .i64 bad1, .int .i64 lock1] 40)) (w.heap.size) #[.int .i64 me, .int .i64 rev, .int .i64 cr, .int .i64 h, .int .u64 (b : Int), .int .i64 bad, .int .i64 lock] 40) := (Blk.new w _ _).alloc _
  have H0n : Hid (Blk ((w.alloc (.cells #[.int .i64 me, .int .i64 rev, .int .i64 cr, .int .i64 h, .int .u64 (b : Int), .int .i64 bad, .int .i64 lock] 40)).alloc (.cells #[.int .i64 me1, .int .i64 rev1, .int .i64 cr1, .int .i64 h1, .int .u64 (b1 : Int), .int .i64 bad1, .int .i64 lock1] 40)) (w.heap.size + 1) #[.int .i64 me1, .int .i64 rev1, .int .i64 cr1, .int .i64 h1, .int .u64 (b1 : Int), .int .i64 bad1, .int .i64 lock1] 40) := Blk.new1 w _ _ _
  have H0B : Hid (Below w.heap.size w ((w.alloc (.cells #[.int .i64 me, .int .i64 rev, .int .i64 cr, .int .i64 h, .int .u64 (b : Int), .int .i64 bad, .int .i64 lock] 40)).alloc (.cells #[.int .i64 me1, .int .i64 rev1, .int .i64 cr1, .int .i64 h1, .int .u64 (b1 : Int), .int .i64 bad1, .int .i64 lock1] 40))) := ((Below.refl w.heap.size w).alloc (by simp) _).alloc (by simp) _
  go_enter Tryz.func14, Tryz.ntmps14
  go_wp2_with (first
    | (refine wp_whole rfl 40 _ rfl (w.heap.size) rfl 40 #[.int .i64 me, .int .i64 rev, .int .i64 cr, .int .i64 h, .int .u64 (b : Int), .int .i64 bad, .int .i64 lock] _ H0m.out Tryz.underlying40 rfl (by kernel_rfl) ?_)
    | (refine wp_wholeG (by rfl) 40 _ rfl (w.heap.size) rfl 40 #[.int .i64 me, .int .i64 rev, .int .i64 cr, .int .i64 h, .int .u64 (b : Int), .int .i64 bad, .int .i64 lock] _ H0m.out Tryz.underlying40 rfl (by kernel_rfl) ?_)
    | (refine wp_whole rfl 40 _ rfl (w.heap.size + 1) rfl 40 #[.int .i64 me1, .int .i64 rev1, .int .i64 cr1, .int .i64 h1, .int .u64 (b1 : Int), .int .i64 bad1, .int .i64 lock1] _ H0n.out Tryz.underlying40 rfl (by kernel_rfl) ?_)
    | (refine wp_wholeG (by rfl) 40 _ rfl (w.heap.size + 1) rfl 40 #[.int .i64 me1, .int .i64 rev1, .int .i64 cr1, .int .i64 h1, .int .u64 (b1 : Int), .int .i64 bad1, .int .i64 lock1] _ H0n.out Tryz.underlying40 rfl (by kernel_rfl) ?_)
    | fail)
  refine (HWD.out _).mono ?_
  rintro e w1 ⟨x1, n1, c1, zs, f1, rfl, hr1, _, _, hi1, hb1⟩
  have H1m : Hid (Blk w1 (w.heap.size) #[.int .i64 me, .int .i64 rev, .int .i64 cr, .int .i64 h, .int .u64 (b : Int), .int .i64 bad, .int .i64 lock] 40) := H0m.out.next hb1
  have H1n : Hid (Blk w1 (w.heap.size + 1) #[.int .i64 me1, .int .i64 rev1, .int .i64 cr1, .int .i64 h1, .int .u64 (b1 : Int), .int .i64 bad1, .int .i64 lock1] 40) := H0n.out.next hb1
  have H1B : Hid (Below w.heap.size w w1) := bel_step H0B.out hb1
  obtain ⟨rfl, rfl⟩ := hi1.one (WordsIs.ok HOK.out)
  obtain rfl : n1 = 5 := hr1.1.symm.trans rfl
  have HX : Hid (RowU w1 x1 5 (wds ⟨me1, rev1, cr1, h1, b1, bad1, lock1⟩)) := hr1
  clear H0m H0n H0B hb1 hr1 hi1 HWD hq
  go_wp2_with fail
  refine (HST.out _ _ _ H1B.out HX.out).mono ?_
  rintro e w2 ⟨v2, rfl, hv2, hb2⟩
  have H2m : Hid (Blk w2 (w.heap.size) #[.int .i64 me, .int .i64 rev, .int .i64 cr, .int .i64 h, .int .u64 (b : Int), .int .i64 bad, .int .i64 lock] 40) := H1m.out.next hb2
  have H2n : Hid (Blk w2 (w.heap.size + 1) #[.int .i64 me1, .int .i64 rev1, .int .i64 cr1, .int .i64 h1, .int .u64 (b1 : Int), .int .i64 bad1, .int .i64 lock1] 40) := H1n.out.next hb2
  have H2B : Hid (Below w.heap.size w w2) := bel_step H1B.out hb2
  obtain ⟨x2, c2, rfl, hr2, hn2, hc2, _⟩ := hv2.row
  have HL2 : Hid ((sto xs (wds ⟨me1, rev1, cr1, h1, b1, bad1, lock1⟩) 5).length = 7) := sto_len _ _ _
  have hl2 := HL2.out
  rw [hl2] at hr2 hc2
  rw [hl2]
  have HW2 : Hid (Wg w2 x2 7 c2 (sto xs (wds ⟨me1, rev1, cr1, h1, b1, bad1, lock1⟩) 5)) := ⟨hr2, hn2, hc2, by decide⟩
  clear H1m H1n H1B hb2 hv2 hr2 hn2 hc2 hl2 HL2 HST HX
  go_wp2_with fail
  go_ret
  exact ⟨x2, 7, c2, _, rfl, HW2.out, .inr ⟨HE.out, rfl⟩, H2B.out⟩
open Classical in
theorem pwrites (a : Option Addr) (cap : Nat) (xs : List Int) (m m' : Mt) (w : World) (h : RowU w a 12 xs) (hwh : which xs 5 ≤ 1) (hm : Mw m') :
    Calls Tryz.prog 14 #[.slice a 12 cap, m.v, m'.v] w fun e w' => WritesPost w xs m m' e w' := by
  by_cases he : m' = m
  · exact pwrites_one a cap xs m m' w h hwh hm he
  · exact pwrites_two a cap xs m m' w h hwh hm he

end Go.Proofs.YtgipkpkjoicehaaGreatDoor.pkt

/- Digits are keyed into a pocket. -/
namespace Go.Proofs.YtgipkpkjoicehaaGreatDoor.pkt
open Go.RowKit Go.Proofs.YtgipkpkjoicehaaGreatDoor.met Go.Proofs.YtgipkpkjoicehaaGreatDoor.slot Go.Proofs.YtgipkpkjoicehaaGreatDoor.cell Go.Proofs.YtgipkpkjoicehaaGreatDoor.ora Go.Proofs.YtgipkpkjoicehaaGreatDoor.token
set_option maxRecDepth 100000
set_option linter.unusedVariables false
set_option linter.unusedSimpArgs false

set_option maxHeartbeats 2000000 in
theorem pkeyed (a : Option Addr) (n cap : Nat) (xs : List Int) (ao : Option Addr) (no co : Nat) (l : List Pr) (tx : ByteArray) (w : World) (ht : TTab w) (h : RowU w a n xs) (hc : n ≤ cap) (hw : ∀ x ∈ rcd xs 5 (which xs 5), 0 ≤ x ∧ x < 4294967296) (hp : RowP w ao no l) :
    Calls Tryz.prog 6 #[.slice a n cap, .agg #[.slice ao no co], .string tx] w fun e w' => KeyedPost w xs l tx e w' := by
  have HBT : Hid (∀ W, Below w.heap.size w W → Calls Tryz.prog 11 #[.slice a n cap] W fun e w' => BootPost W xs e w') := fun W hB => pboot a n cap xs W (h.below hB) hc hw
  have HPA : Hid (∀ W, Below w.heap.size w W → Calls Tryz.prog 12 #[.string tx] W fun e w' => e = .returned (.tuple #[parseV tx.data.toList, .int .i64 (parseE tx.data.toList)]) ∧ Below W.heap.size W w') := fun W hB => parse_any tx W (ht.below hB)
  have HKY : Hid (∀ W (m : Mt) c i am t, Below w.heap.size w W → Mw m → Calls Tryz.prog 13 #[m.v, .agg #[.slice ao no co], .agg #[.int .i64 c, .int .i64 i, .int .i64 am, .int .i64 t]] W fun e w' => KeyPost W m l c i am t e w') := fun W m c i am t hB hm => pkey m ao no co l c i am t W (ht.below hB) hm.b (hp.below hB)
  have HSU : Hid (∀ m, BootIs xs m 0 → Mw m ∧ n = 12 ∧ which xs 5 ≤ 1) := fun m hb => by
    obtain ⟨h1, h2⟩ := BootIs.sure hw hb
    exact ⟨h2, h.1.symm.trans h1.len, h1.one⟩
  have HRW : Hid (∀ W, Below w.heap.size w W → RowU W a n xs) := fun W hB => h.below hB
  have HTK : Hid (parseE tx.data.toList = 0 → parseV tx.data.toList = (tk tx.data.toList).v ∧ (tk tx.data.toList).ok) := tk_of
  have HNT : Hid (parseE tx.data.toList ≠ 0 → parseV tx.data.toList = noTok) := parse_else
  generalize hS : tx.data.toList = S at *
  have HS : Hid (tx.data.toList = S) := hS
  have HPE : Hid (∃ pe, parseE S = pe) := ⟨_, rfl⟩
  clear h hc hw hp ht hS
  have H0o : Hid (Blk (w.alloc (.cells #[.slice ao no co] 25)) (w.heap.size) #[.slice ao no co] 25) := Blk.new w _ _
  have H0B : Hid (Below w.heap.size w (w.alloc (.cells #[.slice ao no co] 25))) := (Below.refl w.heap.size w).alloc (by simp) _
  go_enter Tryz.func6, Tryz.ntmps6
  go_wp2_with fail
  refine (HBT.out _ H0B.out).mono ?_
  rintro e w1 ⟨m1, f1, rfl, hi1, hb1⟩
  have H1o : Hid (Blk w1 (w.heap.size) #[.slice ao no co] 25) := H0o.out.next hb1
  have H1B : Hid (Below w.heap.size w w1) := bel_step H0B.out hb1
  have HI1 : Hid (BootIs xs m1 f1) := hi1
  clear hi1 HBT
  by_cases hf : f1 = 0
  · subst hf
    obtain ⟨hmw, rfl, hwh⟩ := HSU.out _ HI1.out
    have HMW : Hid (Mw m1) := hmw
    have HK1 : Hid (∀ W c i am t, Below w.heap.size w W → Calls Tryz.prog 13 #[m1.v, .agg #[.slice ao no co], .agg #[.int .i64 c, .int .i64 i, .int .i64 am, .int .i64 t]] W fun e w' => KeyPost W m1 l c i am t e w') := fun W c i am t hB => HKY.out W m1 c i am t hB hmw
    have HWR : Hid (∀ W m2, Below w.heap.size w W → Mw m2 → Calls Tryz.prog 14 #[.slice a 12 cap, m1.v, m2.v] W fun e w' => WritesPost W xs m1 m2 e w') := fun W m2 hB hm2 => pwrites a cap xs m1 m2 W (HRW.out W hB) hwh hm2
    clear hmw hwh HSU HRW HKY
    obtain ⟨me1, rev1, cr1, h1, b1, bad1, lock1⟩ := m1
    unfold Mt.v Mt.cells at *
    simp only [] at HK1 HWR ⊢
    have H2o : Hid (Blk (w1.alloc (.cells #[.int .i64 me1, .int .i64 rev1, .int .i64 cr1, .int .i64 h1, .int .u64 (b1 : Int), .int .i64 bad1, .int .i64 lock1] 40)) (w.heap.size) #[.slice ao no co] 25) := (H1o.out).alloc _
    have H2m : Hid (Blk (w1.alloc (.cells #[.int .i64 me1, .int .i64 rev1, .int .i64 cr1, .int .i64 h1, .int .u64 (b1 : Int), .int .i64 bad1, .int .i64 lock1] 40)) (w1.heap.size) #[.int .i64 me1, .int .i64 rev1, .int .i64 cr1, .int .i64 h1, .int .u64 (b1 : Int), .int .i64 bad1, .int .i64 lock1] 40) := (Blk.new w1 _ _)
    have L2mo : Hid (w.heap.size < w1.heap.size) := Nat.lt_of_lt_of_le H1o.out.lt (by simp)
    have H2B : Hid (Below w.heap.size w (w1.alloc (.cells #[.int .i64 me1, .int .i64 rev1, .int .i64 cr1, .int .i64 h1, .int .u64 (b1 : Int), .int .i64 bad1, .int .i64 lock1] 40))) := (H1B.out).alloc (Nat.le_trans H1B.out.size (by simp)) _
    have L20 : Hid (w.heap.size ≤ w1.heap.size) := H1B.out.size
    clear H0o H0B H1o H1B hb1
    go_wp2_with (first
      | (refine wp_whole rfl 25 _ rfl (w.heap.size) rfl 25 #[.slice ao no co] _ H2o.out Tryz.underlying25 rfl (by kernel_rfl) ?_)
      | (refine wp_wholeG (by rfl) 25 _ rfl (w.heap.size) rfl 25 #[.slice ao no co] _ H2o.out Tryz.underlying25 rfl (by kernel_rfl) ?_)
      | (refine wp_whole rfl 40 _ rfl (w1.heap.size) rfl 40 #[.int .i64 me1, .int .i64 rev1, .int .i64 cr1, .int .i64 h1, .int .u64 (b1 : Int), .int .i64 bad1, .int .i64 lock1] _ H2m.out Tryz.underlying40 rfl (by kernel_rfl) ?_)
      | (refine wp_wholeG (by rfl) 40 _ rfl (w1.heap.size) rfl 40 #[.int .i64 me1, .int .i64 rev1, .int .i64 cr1, .int .i64 h1, .int .u64 (b1 : Int), .int .i64 bad1, .int .i64 lock1] _ H2m.out Tryz.underlying40 rfl (by kernel_rfl) ?_)
      | fail)
    refine (HPA.out _ H2B.out).mono ?_
    rintro e w2 ⟨rfl, hb2⟩
    have H3o : Hid (Blk w2 (w.heap.size) #[.slice ao no co] 25) := H2o.out.next hb2
    have H3m : Hid (Blk w2 (w1.heap.size) #[.int .i64 me1, .int .i64 rev1, .int .i64 cr1, .int .i64 h1, .int .u64 (b1 : Int), .int .i64 bad1, .int .i64 lock1] 40) := H2m.out.next hb2
    have H3B : Hid (Below w.heap.size w w2) := bel_step H2B.out hb2
    clear HPA
    by_cases hp : parseE S = 0
    · obtain ⟨hv, hk⟩ := HTK.out hp
      rw [hv, hp]
      have HP : Hid (parseE S = 0 ∧ (tk S).ok) := ⟨hp, hk⟩
      clear hp hv hk HTK HNT HPE
      have HKS : Hid (tk S = tk S) := rfl
      generalize hk : tk S = k at HP HKS ⊢
      have HKE : Hid (tk S = k) := hk
      clear hk HKS
      unfold Tok.v
      have H4o : Hid (Blk (w2.alloc (.cells #[.int .i64 (k.c : Int), .int .i64 (k.i : Int), .int .i64 (k.a : Int), .int .i64 (k.t : Int)] 44)) (w.heap.size) #[.slice ao no co] 25) := (H3o.out).alloc _
      have H4m : Hid (Blk (w2.alloc (.cells #[.int .i64 (k.c : Int), .int .i64 (k.i : Int), .int .i64 (k.a : Int), .int .i64 (k.t : Int)] 44)) (w1.heap.size) #[.int .i64 me1, .int .i64 rev1, .int .i64 cr1, .int .i64 h1, .int .u64 (b1 : Int), .int .i64 bad1, .int .i64 lock1] 40) := (H3m.out).alloc _
      have H4t : Hid (Blk (w2.alloc (.cells #[.int .i64 (k.c : Int), .int .i64 (k.i : Int), .int .i64 (k.a : Int), .int .i64 (k.t : Int)] 44)) (w2.heap.size) #[.int .i64 (k.c : Int), .int .i64 (k.i : Int), .int .i64 (k.a : Int), .int .i64 (k.t : Int)] 44) := (Blk.new w2 _ _)
      have L4to : Hid (w.heap.size < w2.heap.size) := Nat.lt_of_lt_of_le H3o.out.lt (by simp)
      have L4tm : Hid (w1.heap.size < w2.heap.size) := Nat.lt_of_lt_of_le H3m.out.lt (by simp)
      have H4B : Hid (Below w.heap.size w (w2.alloc (.cells #[.int .i64 (k.c : Int), .int .i64 (k.i : Int), .int .i64 (k.a : Int), .int .i64 (k.t : Int)] 44))) := (H3B.out).alloc (Nat.le_trans H3B.out.size (by simp)) _
      have L40 : Hid (w.heap.size ≤ w2.heap.size) := H3B.out.size
      clear H2o H2m H2B H3o H3m H3B hb2
      have q_o_0 : (w2.alloc (.cells #[.int .i64 (k.c : Int), .int .i64 (k.i : Int), .int .i64 (k.a : Int), .int .i64 (k.t : Int)] 44)).cell? ⟨w.heap.size, 0, none⟩ = some (.slice ao no co) := H4o.out.cell 0
      go_wp2_with (first
        | (refine wp_whole rfl 25 _ rfl (w.heap.size) rfl 25 #[.slice ao no co] _ H4o.out Tryz.underlying25 rfl (by kernel_rfl) ?_)
        | (refine wp_wholeG (by rfl) 25 _ rfl (w.heap.size) rfl 25 #[.slice ao no co] _ H4o.out Tryz.underlying25 rfl (by kernel_rfl) ?_)
        | (refine wp_whole rfl 40 _ rfl (w1.heap.size) rfl 40 #[.int .i64 me1, .int .i64 rev1, .int .i64 cr1, .int .i64 h1, .int .u64 (b1 : Int), .int .i64 bad1, .int .i64 lock1] _ H4m.out Tryz.underlying40 rfl (by kernel_rfl) ?_)
        | (refine wp_wholeG (by rfl) 40 _ rfl (w1.heap.size) rfl 40 #[.int .i64 me1, .int .i64 rev1, .int .i64 cr1, .int .i64 h1, .int .u64 (b1 : Int), .int .i64 bad1, .int .i64 lock1] _ H4m.out Tryz.underlying40 rfl (by kernel_rfl) ?_)
        | (refine wp_whole rfl 44 _ rfl (w2.heap.size) rfl 44 #[.int .i64 (k.c : Int), .int .i64 (k.i : Int), .int .i64 (k.a : Int), .int .i64 (k.t : Int)] _ H4t.out Tryz.underlying44 rfl (by kernel_rfl) ?_)
        | (refine wp_wholeG (by rfl) 44 _ rfl (w2.heap.size) rfl 44 #[.int .i64 (k.c : Int), .int .i64 (k.i : Int), .int .i64 (k.a : Int), .int .i64 (k.t : Int)] _ H4t.out Tryz.underlying44 rfl (by kernel_rfl) ?_)
        | fail)
      clear q_o_0
      refine (HK1.out _ _ _ _ _ H4B.out).mono ?_
      rintro e w3 ⟨m3, x3, f3, rfl, hi3, hb3⟩
      have H5o : Hid (Blk w3 (w.heap.size) #[.slice ao no co] 25) := H4o.out.next hb3
      have H5m : Hid (Blk w3 (w1.heap.size) #[.int .i64 me1, .int .i64 rev1, .int .i64 cr1, .int .i64 h1, .int .u64 (b1 : Int), .int .i64 bad1, .int .i64 lock1] 40) := H4m.out.next hb3
      have H5t : Hid (Blk w3 (w2.heap.size) #[.int .i64 (k.c : Int), .int .i64 (k.i : Int), .int .i64 (k.a : Int), .int .i64 (k.t : Int)] 44) := H4t.out.next hb3
      have H5B : Hid (Below w.heap.size w w3) := bel_step H4B.out hb3
      have HI3 : Hid (KeyIs ⟨me1, rev1, cr1, h1, b1, bad1, lock1⟩ l (k.c : Int) (k.i : Int) (k.a : Int) (k.t : Int) (bodyI (k.c : Int) (k.i : Int) (k.a : Int)) m3 x3 f3) := hi3
      clear hi3 HK1
      by_cases hf : f3 ≠ 0 ∧ f3 ≠ 12
      · have hd0 : (f3 != 0) = true := by simpa using hf.1
        have hd1 : (f3 != 12) = true := by simpa using hf.2
        have HF : Hid (f3 ≠ 0 ∧ f3 ≠ 12) := hf
        clear hf HWR
        obtain ⟨me3, rev3, cr3, h3, b3, bad3, lock3⟩ := m3
        unfold Mt.v Mt.cells
        simp only []
        have H6o : Hid (Blk (w3.alloc (.cells #[.int .i64 me3, .int .i64 rev3, .int .i64 cr3, .int .i64 h3, .int .u64 (b3 : Int), .int .i64 bad3, .int .i64 lock3] 40)) (w.heap.size) #[.slice ao no co] 25) := (H5o.out).alloc _
        have H6m : Hid (Blk (w3.alloc (.cells #[.int .i64 me3, .int .i64 rev3, .int .i64 cr3, .int .i64 h3, .int .u64 (b3 : Int), .int .i64 bad3, .int .i64 lock3] 40)) (w1.heap.size) #[.int .i64 me1, .int .i64 rev1, .int .i64 cr1, .int .i64 h1, .int .u64 (b1 : Int), .int .i64 bad1, .int .i64 lock1] 40) := (H5m.out).alloc _
        have H6t : Hid (Blk (w3.alloc (.cells #[.int .i64 me3, .int .i64 rev3, .int .i64 cr3, .int .i64 h3, .int .u64 (b3 : Int), .int .i64 bad3, .int .i64 lock3] 40)) (w2.heap.size) #[.int .i64 (k.c : Int), .int .i64 (k.i : Int), .int .i64 (k.a : Int), .int .i64 (k.t : Int)] 44) := (H5t.out).alloc _
        have H6n : Hid (Blk (w3.alloc (.cells #[.int .i64 me3, .int .i64 rev3, .int .i64 cr3, .int .i64 h3, .int .u64 (b3 : Int), .int .i64 bad3, .int .i64 lock3] 40)) (w3.heap.size) #[.int .i64 me3, .int .i64 rev3, .int .i64 cr3, .int .i64 h3, .int .u64 (b3 : Int), .int .i64 bad3, .int .i64 lock3] 40) := (Blk.new w3 _ _)
        have L6no : Hid (w.heap.size < w3.heap.size) := Nat.lt_of_lt_of_le H5o.out.lt (by simp)
        have L6nm : Hid (w1.heap.size < w3.heap.size) := Nat.lt_of_lt_of_le H5m.out.lt (by simp)
        have L6nt : Hid (w2.heap.size < w3.heap.size) := Nat.lt_of_lt_of_le H5t.out.lt (by simp)
        have H6B : Hid (Below w.heap.size w (w3.alloc (.cells #[.int .i64 me3, .int .i64 rev3, .int .i64 cr3, .int .i64 h3, .int .u64 (b3 : Int), .int .i64 bad3, .int .i64 lock3] 40))) := (H5B.out).alloc (Nat.le_trans H5B.out.size (by simp)) _
        have L60 : Hid (w.heap.size ≤ w3.heap.size) := H5B.out.size
        clear H4o H4m H4t H4B H5o H5m H5t H5B hb3
        go_wp2_with (first
          | (refine wp_whole rfl 25 _ rfl (w.heap.size) rfl 25 #[.slice ao no co] _ H6o.out Tryz.underlying25 rfl (by kernel_rfl) ?_)
          | (refine wp_wholeG (by rfl) 25 _ rfl (w.heap.size) rfl 25 #[.slice ao no co] _ H6o.out Tryz.underlying25 rfl (by kernel_rfl) ?_)
          | (refine wp_whole rfl 40 _ rfl (w1.heap.size) rfl 40 #[.int .i64 me1, .int .i64 rev1, .int .i64 cr1, .int .i64 h1, .int .u64 (b1 : Int), .int .i64 bad1, .int .i64 lock1] _ H6m.out Tryz.underlying40 rfl (by kernel_rfl) ?_)
          | (refine wp_wholeG (by rfl) 40 _ rfl (w1.heap.size) rfl 40 #[.int .i64 me1, .int .i64 rev1, .int .i64 cr1, .int .i64 h1, .int .u64 (b1 : Int), .int .i64 bad1, .int .i64 lock1] _ H6m.out Tryz.underlying40 rfl (by kernel_rfl) ?_)
          | (refine wp_whole rfl 44 _ rfl (w2.heap.size) rfl 44 #[.int .i64 (k.c : Int), .int .i64 (k.i : Int), .int .i64 (k.a : Int), .int .i64 (k.t : Int)] _ H6t.out Tryz.underlying44 rfl (by kernel_rfl) ?_)
          | (refine wp_wholeG (by rfl) 44 _ rfl (w2.heap.size) rfl 44 #[.int .i64 (k.c : Int), .int .i64 (k.i : Int), .int .i64 (k.a : Int), .int .i64 (k.t : Int)] _ H6t.out Tryz.underlying44 rfl (by kernel_rfl) ?_)
          | (refine wp_whole rfl 40 _ rfl (w3.heap.size) rfl 40 #[.int .i64 me3, .int .i64 rev3, .int .i64 cr3, .int .i64 h3, .int .u64 (b3 : Int), .int .i64 bad3, .int .i64 lock3] _ H6n.out Tryz.underlying40 rfl (by kernel_rfl) ?_)
          | (refine wp_wholeG (by rfl) 40 _ rfl (w3.heap.size) rfl 40 #[.int .i64 me3, .int .i64 rev3, .int .i64 cr3, .int .i64 h3, .int .u64 (b3 : Int), .int .i64 bad3, .int .i64 lock3] _ H6n.out Tryz.underlying40 rfl (by kernel_rfl) ?_)
          | fail)
        go_ret3
        exact ⟨none, 0, 0, [], 0, f3, rfl, Wg.none _, .inr (.inr (.inl ⟨_, _, _, HI1.out, by rw [HS.out]; exact HP.out.1, by rw [HS.out, HKE.out]; exact HI3.out, HF.out, rfl, rfl⟩)), H6B.out⟩
      · have HM3 : Hid (Mw m3) := (key_mw2 HI3.out HMW.out HP.out.2 hf)
        have HW3 : Hid (∀ W, Below w.heap.size w W → Calls Tryz.prog 14 #[.slice a 12 cap, .agg #[.int .i64 me1, .int .i64 rev1, .int .i64 cr1, .int .i64 h1, .int .u64 (b1 : Int), .int .i64 bad1, .int .i64 lock1], m3.v] W fun e w' => WritesPost W xs ⟨me1, rev1, cr1, h1, b1, bad1, lock1⟩ m3 e w') := fun W hB => HWR.out W m3 hB HM3.out
        have HF : Hid (¬ (f3 ≠ 0 ∧ f3 ≠ 12)) := hf
        have hor : f3 = 0 ∨ f3 = 12 := by omega
        clear hf HWR
        obtain ⟨me3, rev3, cr3, h3, b3, bad3, lock3⟩ := m3
        unfold Mt.v Mt.cells at *
        simp only [] at HW3 ⊢
        have H6o : Hid (Blk (w3.alloc (.cells #[.int .i64 me3, .int .i64 rev3, .int .i64 cr3, .int .i64 h3, .int .u64 (b3 : Int), .int .i64 bad3, .int .i64 lock3] 40)) (w.heap.size) #[.slice ao no co] 25) := (H5o.out).alloc _
        have H6m : Hid (Blk (w3.alloc (.cells #[.int .i64 me3, .int .i64 rev3, .int .i64 cr3, .int .i64 h3, .int .u64 (b3 : Int), .int .i64 bad3, .int .i64 lock3] 40)) (w1.heap.size) #[.int .i64 me1, .int .i64 rev1, .int .i64 cr1, .int .i64 h1, .int .u64 (b1 : Int), .int .i64 bad1, .int .i64 lock1] 40) := (H5m.out).alloc _
        have H6t : Hid (Blk (w3.alloc (.cells #[.int .i64 me3, .int .i64 rev3, .int .i64 cr3, .int .i64 h3, .int .u64 (b3 : Int), .int .i64 bad3, .int .i64 lock3] 40)) (w2.heap.size) #[.int .i64 (k.c : Int), .int .i64 (k.i : Int), .int .i64 (k.a : Int), .int .i64 (k.t : Int)] 44) := (H5t.out).alloc _
        have H6n : Hid (Blk (w3.alloc (.cells #[.int .i64 me3, .int .i64 rev3, .int .i64 cr3, .int .i64 h3, .int .u64 (b3 : Int), .int .i64 bad3, .int .i64 lock3] 40)) (w3.heap.size) #[.int .i64 me3, .int .i64 rev3, .int .i64 cr3, .int .i64 h3, .int .u64 (b3 : Int), .int .i64 bad3, .int .i64 lock3] 40) := (Blk.new w3 _ _)
        have L6no : Hid (w.heap.size < w3.heap.size) := Nat.lt_of_lt_of_le H5o.out.lt (by simp)
        have L6nm : Hid (w1.heap.size < w3.heap.size) := Nat.lt_of_lt_of_le H5m.out.lt (by simp)
        have L6nt : Hid (w2.heap.size < w3.heap.size) := Nat.lt_of_lt_of_le H5t.out.lt (by simp)
        have H6B : Hid (Below w.heap.size w (w3.alloc (.cells #[.int .i64 me3, .int .i64 rev3, .int .i64 cr3, .int .i64 h3, .int .u64 (b3 : Int), .int .i64 bad3, .int .i64 lock3] 40))) := (H5B.out).alloc (Nat.le_trans H5B.out.size (by simp)) _
        have L60 : Hid (w.heap.size ≤ w3.heap.size) := H5B.out.size
        clear H4o H4m H4t H4B H5o H5m H5t H5B hb3
        rcases hor with rfl | rfl
        · go_wp2_with (first
            | (refine wp_whole rfl 25 _ rfl (w.heap.size) rfl 25 #[.slice ao no co] _ H6o.out Tryz.underlying25 rfl (by kernel_rfl) ?_)
            | (refine wp_wholeG (by rfl) 25 _ rfl (w.heap.size) rfl 25 #[.slice ao no co] _ H6o.out Tryz.underlying25 rfl (by kernel_rfl) ?_)
            | (refine wp_whole rfl 40 _ rfl (w1.heap.size) rfl 40 #[.int .i64 me1, .int .i64 rev1, .int .i64 cr1, .int .i64 h1, .int .u64 (b1 : Int), .int .i64 bad1, .int .i64 lock1] _ H6m.out Tryz.underlying40 rfl (by kernel_rfl) ?_)
            | (refine wp_wholeG (by rfl) 40 _ rfl (w1.heap.size) rfl 40 #[.int .i64 me1, .int .i64 rev1, .int .i64 cr1, .int .i64 h1, .int .u64 (b1 : Int), .int .i64 bad1, .int .i64 lock1] _ H6m.out Tryz.underlying40 rfl (by kernel_rfl) ?_)
            | (refine wp_whole rfl 44 _ rfl (w2.heap.size) rfl 44 #[.int .i64 (k.c : Int), .int .i64 (k.i : Int), .int .i64 (k.a : Int), .int .i64 (k.t : Int)] _ H6t.out Tryz.underlying44 rfl (by kernel_rfl) ?_)
            | (refine wp_wholeG (by rfl) 44 _ rfl (w2.heap.size) rfl 44 #[.int .i64 (k.c : Int), .int .i64 (k.i : Int), .int .i64 (k.a : Int), .int .i64 (k.t : Int)] _ H6t.out Tryz.underlying44 rfl (by kernel_rfl) ?_)
            | (refine wp_whole rfl 40 _ rfl (w3.heap.size) rfl 40 #[.int .i64 me3, .int .i64 rev3, .int .i64 cr3, .int .i64 h3, .int .u64 (b3 : Int), .int .i64 bad3, .int .i64 lock3] _ H6n.out Tryz.underlying40 rfl (by kernel_rfl) ?_)
            | (refine wp_wholeG (by rfl) 40 _ rfl (w3.heap.size) rfl 40 #[.int .i64 me3, .int .i64 rev3, .int .i64 cr3, .int .i64 h3, .int .u64 (b3 : Int), .int .i64 bad3, .int .i64 lock3] _ H6n.out Tryz.underlying40 rfl (by kernel_rfl) ?_)
            | fail)
          refine (HW3.out _ H6B.out).mono ?_
          rintro e w4 ⟨a4, n4, c4, ls, rfl, hg4, hi4, hb4⟩
          have H7o : Hid (Blk w4 (w.heap.size) #[.slice ao no co] 25) := H6o.out.next hb4
          have H7m : Hid (Blk w4 (w1.heap.size) #[.int .i64 me1, .int .i64 rev1, .int .i64 cr1, .int .i64 h1, .int .u64 (b1 : Int), .int .i64 bad1, .int .i64 lock1] 40) := H6m.out.next hb4
          have H7t : Hid (Blk w4 (w2.heap.size) #[.int .i64 (k.c : Int), .int .i64 (k.i : Int), .int .i64 (k.a : Int), .int .i64 (k.t : Int)] 44) := H6t.out.next hb4
          have H7n : Hid (Blk w4 (w3.heap.size) #[.int .i64 me3, .int .i64 rev3, .int .i64 cr3, .int .i64 h3, .int .u64 (b3 : Int), .int .i64 bad3, .int .i64 lock3] 40) := H6n.out.next hb4
          have H7B : Hid (Below w.heap.size w w4) := bel_step H6B.out hb4
          have HFF : Hid (Wg w4 a4 n4 c4 ls ∧ WrIs xs ⟨me1, rev1, cr1, h1, b1, bad1, lock1⟩ ⟨me3, rev3, cr3, h3, b3, bad3, lock3⟩ ls) := ⟨hg4, hi4⟩
          clear H6o H6m H6t H6n H6B hb4 hg4 hi4 HW3
          go_wp2_with fail
          go_ret3
          exact ⟨a4, n4, c4, ls, x3, _, rfl, HFF.out.1, .inr (.inr (.inr ⟨_, _, HI1.out, by rw [HS.out]; exact HP.out.1, by rw [HS.out, HKE.out]; exact HI3.out, HF.out, HFF.out.2⟩)), H7B.out⟩
        · go_wp2_with (first
            | (refine wp_whole rfl 25 _ rfl (w.heap.size) rfl 25 #[.slice ao no co] _ H6o.out Tryz.underlying25 rfl (by kernel_rfl) ?_)
            | (refine wp_wholeG (by rfl) 25 _ rfl (w.heap.size) rfl 25 #[.slice ao no co] _ H6o.out Tryz.underlying25 rfl (by kernel_rfl) ?_)
            | (refine wp_whole rfl 40 _ rfl (w1.heap.size) rfl 40 #[.int .i64 me1, .int .i64 rev1, .int .i64 cr1, .int .i64 h1, .int .u64 (b1 : Int), .int .i64 bad1, .int .i64 lock1] _ H6m.out Tryz.underlying40 rfl (by kernel_rfl) ?_)
            | (refine wp_wholeG (by rfl) 40 _ rfl (w1.heap.size) rfl 40 #[.int .i64 me1, .int .i64 rev1, .int .i64 cr1, .int .i64 h1, .int .u64 (b1 : Int), .int .i64 bad1, .int .i64 lock1] _ H6m.out Tryz.underlying40 rfl (by kernel_rfl) ?_)
            | (refine wp_whole rfl 44 _ rfl (w2.heap.size) rfl 44 #[.int .i64 (k.c : Int), .int .i64 (k.i : Int), .int .i64 (k.a : Int), .int .i64 (k.t : Int)] _ H6t.out Tryz.underlying44 rfl (by kernel_rfl) ?_)
            | (refine wp_wholeG (by rfl) 44 _ rfl (w2.heap.size) rfl 44 #[.int .i64 (k.c : Int), .int .i64 (k.i : Int), .int .i64 (k.a : Int), .int .i64 (k.t : Int)] _ H6t.out Tryz.underlying44 rfl (by kernel_rfl) ?_)
            | (refine wp_whole rfl 40 _ rfl (w3.heap.size) rfl 40 #[.int .i64 me3, .int .i64 rev3, .int .i64 cr3, .int .i64 h3, .int .u64 (b3 : Int), .int .i64 bad3, .int .i64 lock3] _ H6n.out Tryz.underlying40 rfl (by kernel_rfl) ?_)
            | (refine wp_wholeG (by rfl) 40 _ rfl (w3.heap.size) rfl 40 #[.int .i64 me3, .int .i64 rev3, .int .i64 cr3, .int .i64 h3, .int .u64 (b3 : Int), .int .i64 bad3, .int .i64 lock3] _ H6n.out Tryz.underlying40 rfl (by kernel_rfl) ?_)
            | fail)
          refine (HW3.out _ H6B.out).mono ?_
          rintro e w4 ⟨a4, n4, c4, ls, rfl, hg4, hi4, hb4⟩
          have H7o : Hid (Blk w4 (w.heap.size) #[.slice ao no co] 25) := H6o.out.next hb4
          have H7m : Hid (Blk w4 (w1.heap.size) #[.int .i64 me1, .int .i64 rev1, .int .i64 cr1, .int .i64 h1, .int .u64 (b1 : Int), .int .i64 bad1, .int .i64 lock1] 40) := H6m.out.next hb4
          have H7t : Hid (Blk w4 (w2.heap.size) #[.int .i64 (k.c : Int), .int .i64 (k.i : Int), .int .i64 (k.a : Int), .int .i64 (k.t : Int)] 44) := H6t.out.next hb4
          have H7n : Hid (Blk w4 (w3.heap.size) #[.int .i64 me3, .int .i64 rev3, .int .i64 cr3, .int .i64 h3, .int .u64 (b3 : Int), .int .i64 bad3, .int .i64 lock3] 40) := H6n.out.next hb4
          have H7B : Hid (Below w.heap.size w w4) := bel_step H6B.out hb4
          have HFF : Hid (Wg w4 a4 n4 c4 ls ∧ WrIs xs ⟨me1, rev1, cr1, h1, b1, bad1, lock1⟩ ⟨me3, rev3, cr3, h3, b3, bad3, lock3⟩ ls) := ⟨hg4, hi4⟩
          clear H6o H6m H6t H6n H6B hb4 hg4 hi4 HW3
          go_wp2_with fail
          go_ret3
          exact ⟨a4, n4, c4, ls, x3, _, rfl, HFF.out.1, .inr (.inr (.inr ⟨_, _, HI1.out, by rw [HS.out]; exact HP.out.1, by rw [HS.out, HKE.out]; exact HI3.out, HF.out, HFF.out.2⟩)), H7B.out⟩
    · have hv := HNT.out hp
      rw [hv]
      have hd : (parseE S != 0) = true := by simpa using hp
      have HF : Hid (parseE S ≠ 0) := hp
      have HPQ : Hid (parseE tx.data.toList = parseE S) := by show _ = _; rw [HS.out]
      clear hp hv HTK HNT HK1 HWR
      generalize parseE S = pe at *
      unfold noTok
      have H4o : Hid (Blk (w2.alloc (.cells #[.int .i64 0, .int .i64 0, .int .i64 0, .int .i64 0] 44)) (w.heap.size) #[.slice ao no co] 25) := (H3o.out).alloc _
      have H4m : Hid (Blk (w2.alloc (.cells #[.int .i64 0, .int .i64 0, .int .i64 0, .int .i64 0] 44)) (w1.heap.size) #[.int .i64 me1, .int .i64 rev1, .int .i64 cr1, .int .i64 h1, .int .u64 (b1 : Int), .int .i64 bad1, .int .i64 lock1] 40) := (H3m.out).alloc _
      have H4t : Hid (Blk (w2.alloc (.cells #[.int .i64 0, .int .i64 0, .int .i64 0, .int .i64 0] 44)) (w2.heap.size) #[.int .i64 0, .int .i64 0, .int .i64 0, .int .i64 0] 44) := (Blk.new w2 _ _)
      have L4to : Hid (w.heap.size < w2.heap.size) := Nat.lt_of_lt_of_le H3o.out.lt (by simp)
      have L4tm : Hid (w1.heap.size < w2.heap.size) := Nat.lt_of_lt_of_le H3m.out.lt (by simp)
      have H4B : Hid (Below w.heap.size w (w2.alloc (.cells #[.int .i64 0, .int .i64 0, .int .i64 0, .int .i64 0] 44))) := (H3B.out).alloc (Nat.le_trans H3B.out.size (by simp)) _
      have L40 : Hid (w.heap.size ≤ w2.heap.size) := H3B.out.size
      clear H2o H2m H2B H3o H3m H3B hb2
      go_wp2_with (first
        | (refine wp_whole rfl 25 _ rfl (w.heap.size) rfl 25 #[.slice ao no co] _ H4o.out Tryz.underlying25 rfl (by kernel_rfl) ?_)
        | (refine wp_wholeG (by rfl) 25 _ rfl (w.heap.size) rfl 25 #[.slice ao no co] _ H4o.out Tryz.underlying25 rfl (by kernel_rfl) ?_)
        | (refine wp_whole rfl 40 _ rfl (w1.heap.size) rfl 40 #[.int .i64 me1, .int .i64 rev1, .int .i64 cr1, .int .i64 h1, .int .u64 (b1 : Int), .int .i64 bad1, .int .i64 lock1] _ H4m.out Tryz.underlying40 rfl (by kernel_rfl) ?_)
        | (refine wp_wholeG (by rfl) 40 _ rfl (w1.heap.size) rfl 40 #[.int .i64 me1, .int .i64 rev1, .int .i64 cr1, .int .i64 h1, .int .u64 (b1 : Int), .int .i64 bad1, .int .i64 lock1] _ H4m.out Tryz.underlying40 rfl (by kernel_rfl) ?_)
        | (refine wp_whole rfl 44 _ rfl (w2.heap.size) rfl 44 #[.int .i64 0, .int .i64 0, .int .i64 0, .int .i64 0] _ H4t.out Tryz.underlying44 rfl (by kernel_rfl) ?_)
        | (refine wp_wholeG (by rfl) 44 _ rfl (w2.heap.size) rfl 44 #[.int .i64 0, .int .i64 0, .int .i64 0, .int .i64 0] _ H4t.out Tryz.underlying44 rfl (by kernel_rfl) ?_)
        | fail)
      go_ret3
      exact ⟨none, 0, 0, [], 0, _, rfl, Wg.none _, .inr (.inl ⟨_, HI1.out, HPQ.out, HF.out, rfl, rfl⟩), H4B.out⟩
  · have hd : (f1 != 0) = true := by simpa using hf
    have HF : Hid (f1 ≠ 0) := hf
    clear hf HPA HKY HSU HRW HTK HNT
    obtain ⟨me1, rev1, cr1, h1, b1, bad1, lock1⟩ := m1
    unfold Mt.v Mt.cells
    simp only []
    have H2o : Hid (Blk (w1.alloc (.cells #[.int .i64 me1, .int .i64 rev1, .int .i64 cr1, .int .i64 h1, .int .u64 (b1 : Int), .int .i64 bad1, .int .i64 lock1] 40)) (w.heap.size) #[.slice ao no co] 25) := (H1o.out).alloc _
    have H2m : Hid (Blk (w1.alloc (.cells #[.int .i64 me1, .int .i64 rev1, .int .i64 cr1, .int .i64 h1, .int .u64 (b1 : Int), .int .i64 bad1, .int .i64 lock1] 40)) (w1.heap.size) #[.int .i64 me1, .int .i64 rev1, .int .i64 cr1, .int .i64 h1, .int .u64 (b1 : Int), .int .i64 bad1, .int .i64 lock1] 40) := (Blk.new w1 _ _)
    have L2mo : Hid (w.heap.size < w1.heap.size) := Nat.lt_of_lt_of_le H1o.out.lt (by simp)
    have H2B : Hid (Below w.heap.size w (w1.alloc (.cells #[.int .i64 me1, .int .i64 rev1, .int .i64 cr1, .int .i64 h1, .int .u64 (b1 : Int), .int .i64 bad1, .int .i64 lock1] 40))) := (H1B.out).alloc (Nat.le_trans H1B.out.size (by simp)) _
    have L20 : Hid (w.heap.size ≤ w1.heap.size) := H1B.out.size
    clear H0o H0B H1o H1B hb1
    go_wp2_with (first
      | (refine wp_whole rfl 25 _ rfl (w.heap.size) rfl 25 #[.slice ao no co] _ H2o.out Tryz.underlying25 rfl (by kernel_rfl) ?_)
      | (refine wp_wholeG (by rfl) 25 _ rfl (w.heap.size) rfl 25 #[.slice ao no co] _ H2o.out Tryz.underlying25 rfl (by kernel_rfl) ?_)
      | (refine wp_whole rfl 40 _ rfl (w1.heap.size) rfl 40 #[.int .i64 me1, .int .i64 rev1, .int .i64 cr1, .int .i64 h1, .int .u64 (b1 : Int), .int .i64 bad1, .int .i64 lock1] _ H2m.out Tryz.underlying40 rfl (by kernel_rfl) ?_)
      | (refine wp_wholeG (by rfl) 40 _ rfl (w1.heap.size) rfl 40 #[.int .i64 me1, .int .i64 rev1, .int .i64 cr1, .int .i64 h1, .int .u64 (b1 : Int), .int .i64 bad1, .int .i64 lock1] _ H2m.out Tryz.underlying40 rfl (by kernel_rfl) ?_)
      | fail)
    go_ret3
    exact ⟨none, 0, 0, [], 0, f1, rfl, Wg.none _, .inl ⟨_, HI1.out, HF.out, rfl, rfl⟩, H2B.out⟩

end Go.Proofs.YtgipkpkjoicehaaGreatDoor.pkt

/- Division by 2^32; the number as a uint64. -/
namespace Go.Proofs.YtgipkpkjoicehaaGreatDoor.words
open Go.RowKit
set_option maxRecDepth 100000

theorem dig_base : (dig 4294967296).length = 2 := by
  rw [dig_pos (by decide), List.length_cons]
  have e : 4294967296 / 4294967296 = 1 := by decide
  rw [e, dig_pos (by decide), List.length_cons]
  have e2 : 1 / 4294967296 = 0 := by decide
  rw [e2, dig_zero]
  rfl

theorem div_base (a b : Option Addr) (n ca cb M : Nat) (w : World) (ha : Ru w a n ca (dig M)) (hb : Ru w b 2 cb (dig 4294967296)) (hn : n ≤ 60) :
    Calls Tryz.prog 75 #[.slice a n ca, .slice b 2 cb] w fun e w' => DivGives w (M / 4294967296) (M % 4294967296) e w' := by
  by_cases h : M < 4294967296
  · have := div_less a b n 2 ca cb M 4294967296 w ha hb (by omega) (by omega) h
    rw [Nat.div_eq_of_lt h, Nat.mod_eq_of_lt h]
    exact this
  · by_cases h2 : n ≤ 2
    · exact div_two a b n 2 ca cb M 4294967296 w ha hb h2 (by decide) (by omega)
    · exact div_long a b n 2 ca cb M 4294967296 31 33 w ha hb hn (by omega) (Nat.le_refl _) (by omega) (by decide) (by decide) (by omega) ⟨by decide, by decide, by decide⟩ (by decide)

set_option maxHeartbeats 1000000 in
theorem uint64_any (z m : Nat) (w : World) (hg : Bg w z m) (hm : m < 18446744073709551616) :
    Calls Tryz.prog 76 #[.pointer (some ⟨z, 0, none⟩)] w fun e w' => e = .returned (.int .u64 (m : Int)) ∧ w' = w := by
  obtain ⟨a, n, c, hcz, ha⟩ := hg
  have c1 := (ob_cells hcz).2.1
  have hn : n ≤ 2 := by
    rw [← ha.len]
    exact dig_len 2 (by omega)
  have el := ha.len
  have hp := plain_val (m := m) (by omega)
  have hx := ha.word 0
  have hy := ha.word 1
  have h1 : n < 2 → (dig m).getD 1 0 = 0 := fun h => by simp [List.getD, List.getElem?_eq_none (show (dig m).length ≤ 1 by omega)]
  have h0 : n < 1 → (dig m).getD 0 0 = 0 := fun h => by simp [List.getD, List.getElem?_eq_none (show (dig m).length ≤ 0 by omega)]
  rcases (by omega : n = 0 ∨ n = 1 ∨ n = 2) with rfl | rfl | rfl
  · have hm0 : m = 0 := by rw [h0 (by omega), h1 (by omega)] at hp; omega
    subst hm0
    clear ha el hp hx hy h0 h1 hcz
    go_enter Tryz.func76, Tryz.ntmps76
    go_wp2_with fail
    go_ret
    exact ⟨rfl, rfl⟩
  · obtain ⟨ba, oa, rfl, hca⟩ := ha.at (i := 0) (by omega)
    rw [h1 (by omega)] at hp
    have hp' : (dig m).getD 0 0 = m := by omega
    rw [hp', Nat.add_zero] at hca
    rw [hp'] at hx
    clear ha el hp hy h0 h1 hp' hcz
    go_enter Tryz.func76, Tryz.ntmps76
    go_wp2_with fail
    go_ret
    exact ⟨rfl, rfl⟩
  · obtain ⟨ba, oa, rfl, hca⟩ := ha.at (i := 0) (by omega)
    obtain ⟨bb, ob, hab, hcb⟩ := ha.at (i := 1) (by omega)
    simp only [Option.some.injEq, Addr.mk.injEq, and_true] at hab
    obtain ⟨rfl, rfl⟩ := hab
    obtain ⟨x, hxx⟩ : ∃ x, (dig m).getD 0 0 = x := ⟨_, rfl⟩
    obtain ⟨y, hyy⟩ : ∃ y, (dig m).getD 1 0 = y := ⟨_, rfl⟩
    rw [hxx, Nat.add_zero] at hca
    rw [hxx] at hx hp
    rw [hyy] at hcb hy hp
    have hor := or_words' y x (by omega) (by omega) (by omega) (by omega)
    have ev : (y : Int) * 4294967296 + (x : Int) = (m : Int) := by omega
    rw [ev] at hor
    clear ha el hp h0 h1 hxx hyy ev hcz
    go_enter Tryz.func76, Tryz.ntmps76
    go_wp2_with fail
    go_ret
    exact ⟨rfl, rfl⟩

end Go.Proofs.YtgipkpkjoicehaaGreatDoor.words

/- (*Int).QuoRem, whatever way the division goes. -/
namespace Go.Proofs.YtgipkpkjoicehaaGreatDoor.words
open Go.RowKit
set_option maxRecDepth 100000

/-- Every block that was there, but z and r, is as it was. -/
structure Ex2 (w w' : World) (z r : Nat) : Prop where
  os : w'.os = w.os
  tape : w'.tape = w.tape
  output : w'.output = w.output
  size : w.heap.size ≤ w'.heap.size
  block : ∀ k, k < w.heap.size → k ≠ z → k ≠ r → w'.heap[k]? = w.heap[k]?
theorem Ex2.of {w w1 w2 : World} {z r : Nat} (h : Ex w w1 z) (h' : Ex w1 w2 r) : Ex2 w w2 z r :=
  ⟨h'.os.trans h.os, h'.tape.trans h.tape, h'.output.trans h.output, Nat.le_trans h.size h'.size, fun k hk hz hr => (h'.block k (Nat.lt_of_lt_of_le hk h.size) hr).trans (h.block k hk hz)⟩
theorem Ob.ex {w w' : World} {z r : Nat} (h : Ob w r) (he : Ex w w' z) (hne : r ≠ z) : Ob w' r := by
  have hl := h.lt
  obtain ⟨s, a, n, c, h1⟩ := h
  exact ⟨s, a, n, c, by rw [he.block r hl hne]; exact h1⟩

/-- A quotient behind z and a rest behind r were given back. -/
def QuoPost (w : World) (z r q t : Nat) (e : Ending) (w' : World) : Prop := e = .returned (.tuple #[.pointer (some ⟨z, 0, none⟩), .pointer (some ⟨r, 0, none⟩)]) ∧ Bg w' z q ∧ Bg w' r t ∧ Ex2 w w' z r

set_option maxHeartbeats 2000000 in
theorem quo_of (z x y r q t : Nat) (xa ya : Option Addr) (xn xc yn yc : Nat) (w : World) (x0 : w.cell? ⟨x, 0, none⟩ = some (.bool false)) (x1 : w.cell? ⟨x, 1, none⟩ = some (.slice xa xn xc)) (y0 : w.cell? ⟨y, 0, none⟩ = some (.bool false)) (y1 : w.cell? ⟨y, 1, none⟩ = some (.slice ya yn yc))
    (hz : Ob w z) (hr : Ob w r) (hzr : r ≠ z) (hd : ∀ w', Below w.heap.size w w' → Calls Tryz.prog 75 #[.slice xa xn xc, .slice ya yn yc] w' fun e w'' => DivGives w' q t e w'') :
    Calls Tryz.prog 39 #[.pointer (some ⟨z, 0, none⟩), .pointer (some ⟨x, 0, none⟩), .pointer (some ⟨y, 0, none⟩), .pointer (some ⟨r, 0, none⟩)] w fun e w' => QuoPost w z r q t e w' := by
  have HD : Hid (∀ w', Below w.heap.size w w' → Calls Tryz.prog 75 #[.slice xa xn xc, .slice ya yn yc] w' fun e w'' => DivGives w' q t e w'') := hd
  have HZ : Hid (Ob w z ∧ Ob w r) := ⟨hz, hr⟩
  have hne : (false != false) = false := rfl
  have KW : Hid (∀ q, Below w.heap.size w (w.drewN q).drew) := fun q => (below_drewN (Below.refl _ w) q).drew
  have KS : Hid (∀ q, (w.drewN q).drew.cell? ⟨x, 1, none⟩ = some (.slice xa xn xc) ∧ (w.drewN q).drew.cell? ⟨y, 1, none⟩ = some (.slice ya yn yc)) := fun q => ⟨x1, y1⟩
  clear hz hr hd
  go_enter Tryz.func39, Tryz.ntmps39
  go_wp2_with fail
  go_quiet (fail)
  go_wp2_with fail
  go_region_held (fun v => v.cell? ⟨x, 1, none⟩ = some (.slice xa xn xc) ∧ v.cell? ⟨y, 1, none⟩ = some (.slice ya yn yc))
    (first | exact K1.out | exact KS.out _)
    (first
      | (go_at_call 75; refine (HD.out _ (KW.out _)).mono ?_; rintro e w1 ⟨qa, qn, qc, ta, tn, tc, rfl, hq, ht, hb⟩
         have B1 : Hid (Below w.heap.size w w1) := (KW.out _).trans (hb.mono (KW.out _).size)
         have K1 : Hid (w1.cell? ⟨x, 1, none⟩ = some (.slice xa xn xc) ∧ w1.cell? ⟨y, 1, none⟩ = some (.slice ya yn yc)) := ⟨cell_bel hb (KS.out _).1, cell_bel hb (KS.out _).2⟩
         have R1 : Hid (Ru w1 qa qn qc (dig q) ∧ Ru w1 ta tn tc (dig t)) := ⟨hq, ht⟩
         clear hb hq ht))
  all_goals
    go_wp2_with fail
    refine (give_any z _ _ _ _ (HZ.out.1.below B1.out)).mono ?_
    rintro e w2 ⟨rfl, h2, hex⟩
    have G2 : Hid (Bg w2 z q) := ⟨_, _, _, h2, R1.out.1.ex (HZ.out.1.below B1.out) hex⟩
    have T2 : Hid (Ru w2 ta tn tc (dig t)) := R1.out.2.ex (HZ.out.1.below B1.out) hex
    have O2 : Hid (Ob w2 r) := (HZ.out.2.below B1.out).ex hex hzr
    have E2 : Hid (Ex w w2 z) := Ex.of B1.out hex
    clear h2 hex
    go_wp2_with fail
    refine (give_any r _ _ _ _ O2.out).mono ?_
    rintro e w3 ⟨rfl, h3, hex3⟩
    have F3 : Hid (Bg w3 z q ∧ Bg w3 r t ∧ Ex2 w w3 z r) := ⟨G2.out.ex O2.out hex3 (Ne.symm hzr), ⟨_, _, _, h3, T2.out.ex O2.out hex3⟩, Ex2.of E2.out hex3⟩
    clear h3 hex3
    go_wp2_with fail
    refine bodyPost_ret (v := .tuple #[.pointer (some ⟨z, 0, none⟩), .pointer (some ⟨r, 0, none⟩)]) (by simp [results, Tryz.results39, go_sem]) rfl ⟨rfl, F3.out.1, F3.out.2.1, F3.out.2.2⟩

end Go.Proofs.YtgipkpkjoicehaaGreatDoor.words

/- Meters: the document's words of a meter. -/
namespace Go.Proofs.YtgipkpkjoicehaaGreatDoor.met
open Go.RowKit Go.Proofs.YtgipkpkjoicehaaGreatDoor.cell
set_option maxRecDepth 100000
set_option linter.unusedVariables false

set_option maxHeartbeats 2000000 in
theorem worded_any (m : Mt) (w : World) (hb : m.b < 18446744073709551616) : Calls Tryz.prog 49 #[m.v] w fun e w' => WordsPost w m e w' := by
  have HMM : Hid (∀ W, Calls Tryz.prog 45 #[m.v] W fun e w' => Told W m.may e w') := fun W => mmay_any m W hb
  have hN := Blk.new w m.cells 40
  have HB0 : Hid (Below w.heap.size w (w.alloc (.cells m.cells 40))) := (Below.refl _ _).alloc (Nat.le_refl _) _
  obtain ⟨me, rev, cr, h, b, bad, lock⟩ := m
  unfold Mt.v at *
  unfold Mt.cells at *
  simp only [] at HMM HB0 hN hb ⊢
  have c0 := hN.cell 0
  have c1 := hN.cell 1
  have c2 := hN.cell 2
  have c3 := hN.cell 3
  have c4 := hN.cell 4
  have c5 := hN.cell 5
  have c6 := hN.cell 6
  have HN : Hid (Blk (w.alloc (.cells #[.int .i64 me, .int .i64 rev, .int .i64 cr, .int .i64 h, .int .u64 (b : Int), .int .i64 bad, .int .i64 lock] 40)) w.heap.size #[.int .i64 me, .int .i64 rev, .int .i64 cr, .int .i64 h, .int .u64 (b : Int), .int .i64 bad, .int .i64 lock] 40) := hN
  clear hN
  go_enter Tryz.func49, Tryz.ntmps49
  go_wp2_with fail
  refine (HMM.out _).mono ?_
  rintro e w1 ⟨r, rfl, hr, hb1⟩
  have hM := HN.out.next hb1
  have HB1 : Hid (Below w.heap.size w w1) := bel_step HB0.out hb1
  clear c0 c1 c2 c3 c4 c5 c6 HN hb1 HB0 HMM
  have c0 := hM.cell 0
  have c1 := hM.cell 1
  have c2 := hM.cell 2
  have c3 := hM.cell 3
  have c4 := hM.cell 4
  have c5 := hM.cell 5
  have c6 := hM.cell 6
  clear hM
  cases r with
  | false =>
    have HM : Hid (¬ Mt.may ⟨me, rev, cr, h, b, bad, lock⟩) := fun hm => by have := hr.2 hm; cases this
    clear hr
    go_wp2_with fail
    go_ret2
    exact ⟨none, 0, 0, [], 5, rfl, RowU.nil _ _, fun _ => rfl, Nat.le_refl _, WordsIs.state HM.out, HB1.out⟩
  | true =>
    have hm := hr.1 rfl
    have HM : Hid (Mt.may ⟨me, rev, cr, h, b, bad, lock⟩) := hm
    obtain ⟨m0, m1⟩ := hm.me
    obtain ⟨r0, r1⟩ := hm.rev
    obtain ⟨k0, k1⟩ := hm.cr
    obtain ⟨b0, b1⟩ := hm.bad
    obtain ⟨l0, l1⟩ := hm.lock
    obtain ⟨g0, g1⟩ := may_high hm
    simp only [] at m0 m1 r0 r1 k0 k1 b0 b1 l0 l1 g0 g1
    have HW : Hid (WordsIs ⟨me, rev, cr, h, b, bad, lock⟩ [cr, me + 256 * (rev + 256 * (bad + 256 * lock)), h, (b : Int) % 4294967296, (b : Int) / 4294967296] 0) := by
      have := WordsIs.ok hm
      exact this
    clear hr hm
    go_wp2_with fail
    go_ret2
    exact ⟨_, 5, 5, _, 0, rfl, row5 w1 _ _ _ _ _ _, (fun h => by cases h), Nat.le_refl _, HW.out, HB1.out.alloc HB1.out.size _⟩

end Go.Proofs.YtgipkpkjoicehaaGreatDoor.met

/- Meters: the document's reading of a meter from its words. -/
namespace Go.Proofs.YtgipkpkjoicehaaGreatDoor.met
open Go.RowKit Go.Proofs.YtgipkpkjoicehaaGreatDoor.cell
set_option maxRecDepth 100000
set_option linter.unusedVariables false

set_option maxHeartbeats 2000000 in
theorem mread_any (a : Option Addr) (n cap : Nat) (l : List Int) (w : World) (hr : RowU w a n l) (hw : ∀ x ∈ l, 0 ≤ x ∧ x < 4294967296) : Calls Tryz.prog 33 #[.slice a n cap] w fun e w' => ReadPost w l e w' := by
  have HO0 : Hid (Blk (w.alloc (.cells #[.int .i64 0, .int .i64 0, .int .i64 0, .int .i64 0, .int .u64 0, .int .i64 0, .int .i64 0] 40)) w.heap.size #[.int .i64 0, .int .i64 0, .int .i64 0, .int .i64 0, .int .u64 0, .int .i64 0, .int .i64 0] 40) := Blk.new w _ _
  have HB0 : Hid (Below w.heap.size w (w.alloc (.cells #[.int .i64 0, .int .i64 0, .int .i64 0, .int .i64 0, .int .u64 0, .int .i64 0, .int .i64 0] 40))) := (Below.refl _ _).alloc (Nat.le_refl _) _
  by_cases hn : n = 5
  · subst hn
    have hl := hr.1
    have HL5 : Hid (¬ (l.length ≠ 5)) := fun h => h hl
    have hl5 := list5 hl
    obtain ⟨bl, off, rfl, hbl, hc⟩ := hr.at (by decide)
    have x0 := hw (l.getD 0 0) (by rw [hl5]; simp)
    have x1 := hw (l.getD 1 0) (by rw [hl5]; simp)
    have x2 := hw (l.getD 2 0) (by rw [hl5]; simp)
    have x3 := hw (l.getD 3 0) (by rw [hl5]; simp)
    have x4 := hw (l.getD 4 0) (by rw [hl5]; simp)
    have f0 : w.cell? ⟨bl, off, none⟩ = some (.int .u32 (l.getD 0 0)) := hc 0 (by decide)
    have f1 : w.cell? ⟨bl, off + 1, none⟩ = some (.int .u32 (l.getD 1 0)) := hc 1 (by decide)
    have f2 : w.cell? ⟨bl, off + 2, none⟩ = some (.int .u32 (l.getD 2 0)) := hc 2 (by decide)
    have f3 : w.cell? ⟨bl, off + 3, none⟩ = some (.int .u32 (l.getD 3 0)) := hc 3 (by decide)
    have f4 : w.cell? ⟨bl, off + 4, none⟩ = some (.int .u32 (l.getD 4 0)) := hc 4 (by decide)
    have HRD : Hid (rdL l = rd (l.getD 0 0) (l.getD 1 0) (l.getD 2 0) (l.getD 3 0) (l.getD 4 0)) := rfl
    have HOK : Hid ((rdL l).may → ReadIs l (rdL l) 0) := fun h => ReadIs.ok HL5.out h
    have HNO : Hid (¬ (rdL l).may → ReadIs l mt0 5) := fun h => ReadIs.state HL5.out h
    clear hc hr hw hl hl5 HL5
    generalize l.getD 0 0 = y0 at *
    generalize l.getD 1 0 = y1 at *
    generalize l.getD 2 0 = y2 at *
    generalize l.getD 3 0 = y3 at *
    generalize l.getD 4 0 = y4 at *
    obtain ⟨x00, x01⟩ := x0
    obtain ⟨x10, x11⟩ := x1
    obtain ⟨x20, x21⟩ := x2
    obtain ⟨x30, x31⟩ := x3
    obtain ⟨x40, x41⟩ := x4
    have HMM : Hid (∀ W, Calls Tryz.prog 45 #[.agg #[.int .i64 (y1 % 256), .int .i64 (y1 / 256 % 256), .int .i64 y0, .int .i64 y2, .int .u64 (y4 * 4294967296 + y3), .int .i64 (y1 / 65536 % 256), .int .i64 (y1 / 16777216)]] W fun e w' => Told W (rd y0 y1 y2 y3 y4).may e w') := fun W => by
      have := mmay_any (rd y0 y1 y2 y3 y4) W (by unfold rd; simp only []; omega)
      unfold Mt.v Mt.cells rd at this
      simp only [] at this
      rw [show (((y4 * 4294967296 + y3).toNat : Nat) : Int) = y4 * 4294967296 + y3 by omega] at this
      exact this
    have HV : Hid (Mt.v (rd y0 y1 y2 y3 y4) = .agg #[.int .i64 (y1 % 256), .int .i64 (y1 / 256 % 256), .int .i64 y0, .int .i64 y2, .int .u64 (y4 * 4294967296 + y3), .int .i64 (y1 / 65536 % 256), .int .i64 (y1 / 16777216)]) := by
      show Mt.v _ = _
      unfold Mt.v Mt.cells rd
      simp only []
      rw [show (((y4 * 4294967296 + y3).toNat : Nat) : Int) = y4 * 4294967296 + y3 by omega]
    have e0 : (w.alloc (.cells #[.int .i64 0, .int .i64 0, .int .i64 0, .int .i64 0, .int .u64 0, .int .i64 0, .int .i64 0] 40)).cell? ⟨bl, off, none⟩ = some (.int .u32 y0) := by rw [World.cell?_alloc_lt w _ _ hbl]; exact f0
    have e1 : (w.alloc (.cells #[.int .i64 0, .int .i64 0, .int .i64 0, .int .i64 0, .int .u64 0, .int .i64 0, .int .i64 0] 40)).cell? ⟨bl, off + 1, none⟩ = some (.int .u32 y1) := by rw [World.cell?_alloc_lt w _ _ hbl]; exact f1
    have HRO : Hid (∀ W, Below w.heap.size w W → W.cell? ⟨bl, off + 2, none⟩ = some (.int .u32 y2) ∧ W.cell? ⟨bl, off + 3, none⟩ = some (.int .u32 y3) ∧ W.cell? ⟨bl, off + 4, none⟩ = some (.int .u32 y4)) := fun W hB => ⟨(hB.cell (p := ⟨bl, off + 2, none⟩) hbl).trans f2, (hB.cell (p := ⟨bl, off + 3, none⟩) hbl).trans f3, (hB.cell (p := ⟨bl, off + 4, none⟩) hbl).trans f4⟩
    clear f0 f1 f2 f3 f4
    go_enter Tryz.func33, Tryz.ntmps33
    go_wp2_with fail
    have HQ : Hid (Blk ((w.alloc (.cells #[.int .i64 0, .int .i64 0, .int .i64 0, .int .i64 0, .int .u64 0, .int .i64 0, .int .i64 0] 40)).alloc (.cells #[.int .i64 (y1 % 256), .int .i64 (y1 / 256 % 256), .int .i64 y0, .int .i64 0, .int .u64 0, .int .i64 (y1 / 65536 % 256), .int .i64 (y1 / 16777216)] 40)) (w.heap.size + 1) #[.int .i64 (y1 % 256), .int .i64 (y1 / 256 % 256), .int .i64 y0, .int .i64 0, .int .u64 0, .int .i64 (y1 / 65536 % 256), .int .i64 (y1 / 16777216)] 40 ∧ Blk ((w.alloc (.cells #[.int .i64 0, .int .i64 0, .int .i64 0, .int .i64 0, .int .u64 0, .int .i64 0, .int .i64 0] 40)).alloc (.cells #[.int .i64 (y1 % 256), .int .i64 (y1 / 256 % 256), .int .i64 y0, .int .i64 0, .int .u64 0, .int .i64 (y1 / 65536 % 256), .int .i64 (y1 / 16777216)] 40)) w.heap.size #[.int .i64 0, .int .i64 0, .int .i64 0, .int .i64 0, .int .u64 0, .int .i64 0, .int .i64 0] 40 ∧ Below w.heap.size w ((w.alloc (.cells #[.int .i64 0, .int .i64 0, .int .i64 0, .int .i64 0, .int .u64 0, .int .i64 0, .int .i64 0] 40)).alloc (.cells #[.int .i64 (y1 % 256), .int .i64 (y1 / 256 % 256), .int .i64 y0, .int .i64 0, .int .u64 0, .int .i64 (y1 / 65536 % 256), .int .i64 (y1 / 16777216)] 40))) := ⟨Blk.new1 w _ _ _, HO0.out.alloc _, HB0.out.alloc (by simp) _⟩
    clear e0 e1 HO0 HB0
    generalize ((w.alloc (.cells #[.int .i64 0, .int .i64 0, .int .i64 0, .int .i64 0, .int .u64 0, .int .i64 0, .int .i64 0] 40)).alloc (.cells #[.int .i64 (y1 % 256), .int .i64 (y1 / 256 % 256), .int .i64 y0, .int .i64 0, .int .u64 0, .int .i64 (y1 / 65536 % 256), .int .i64 (y1 / 16777216)] 40)) = W2 at *
    obtain ⟨e2, e3, e4⟩ := HRO.out W2 HQ.out.2.2
    have z3 := HQ.out.1.cell 3
    have z4 := HQ.out.1.cell 4
    have q3 := HQ.out.1.free 3
    have q4 := HQ.out.1.free 4
    go_region
    have H3 : Hid (Blk ((W2.setCell ⟨w.heap.size + 1, 3, none⟩ (.int .i64 y2)).setCell ⟨w.heap.size + 1, 4, none⟩ (.int .u64 (y4 * 4294967296 + y3))).drew (w.heap.size + 1) #[.int .i64 (y1 % 256), .int .i64 (y1 / 256 % 256), .int .i64 y0, .int .i64 y2, .int .u64 (y4 * 4294967296 + y3), .int .i64 (y1 / 65536 % 256), .int .i64 (y1 / 16777216)] 40 ∧ Blk ((W2.setCell ⟨w.heap.size + 1, 3, none⟩ (.int .i64 y2)).setCell ⟨w.heap.size + 1, 4, none⟩ (.int .u64 (y4 * 4294967296 + y3))).drew w.heap.size #[.int .i64 0, .int .i64 0, .int .i64 0, .int .i64 0, .int .u64 0, .int .i64 0, .int .i64 0] 40 ∧ Below w.heap.size w ((W2.setCell ⟨w.heap.size + 1, 3, none⟩ (.int .i64 y2)).setCell ⟨w.heap.size + 1, 4, none⟩ (.int .u64 (y4 * 4294967296 + y3))).drew) :=
      ⟨(HQ.out.1.set 3 (.int .i64 y2)).set 4 (.int .u64 (y4 * 4294967296 + y3)), (HQ.out.2.1.other 3 _ (by omega)).other 4 _ (by omega), (bel_set (bel_set HQ.out.2.2 _ _ _ (Nat.le_succ _)) _ _ _ (Nat.le_succ _)).drew⟩
    clear HQ e2 e3 e4 z3 z4 q3 q4 HRO
    generalize ((W2.setCell ⟨w.heap.size + 1, 3, none⟩ (.int .i64 y2)).setCell ⟨w.heap.size + 1, 4, none⟩ (.int .u64 (y4 * 4294967296 + y3))).drew = W3 at *
    have HG3 : Hid (Blk W3 (w.heap.size + 1) #[.int .i64 (y1 % 256), .int .i64 (y1 / 256 % 256), .int .i64 y0, .int .i64 y2, .int .u64 (y4 * 4294967296 + y3), .int .i64 (y1 / 65536 % 256), .int .i64 (y1 / 16777216)] 40) := H3.out.1
    go_wp2_with (first
      | (refine wp_whole rfl 40 _ rfl (w.heap.size + 1) rfl 40 #[.int .i64 (y1 % 256), .int .i64 (y1 / 256 % 256), .int .i64 y0, .int .i64 y2, .int .u64 (y4 * 4294967296 + y3), .int .i64 (y1 / 65536 % 256), .int .i64 (y1 / 16777216)] _ HG3.out Tryz.underlying40 rfl (by kernel_rfl) ?_)
      | fail)
    refine (HMM.out _).mono ?_
    rintro e w4 ⟨r, rfl, hr, hb4⟩
    have hlt := HG3.out.lt
    have HO4 : Hid (Blk w4 w.heap.size #[.int .i64 0, .int .i64 0, .int .i64 0, .int .i64 0, .int .u64 0, .int .i64 0, .int .i64 0] 40) := H3.out.2.1.next hb4
    have HG4 : Hid (Blk w4 (w.heap.size + 1) #[.int .i64 (y1 % 256), .int .i64 (y1 / 256 % 256), .int .i64 y0, .int .i64 y2, .int .u64 (y4 * 4294967296 + y3), .int .i64 (y1 / 65536 % 256), .int .i64 (y1 / 16777216)] 40) := H3.out.1.next hb4
    have HB4 : Hid (Below w.heap.size w w4) := bel_step H3.out.2.2 hb4
    clear hb4 H3 HG3 HMM hlt
    cases r with
    | false =>
      have HF : Hid (ReadIs l ⟨0, 0, 0, 0, 0, 0, 0⟩ 5) := HNO.out fun hm => by rw [HRD.out] at hm; have := hr.2 hm; cases this
      clear hr HNO HOK
      go_wp2_with (first
        | (refine wp_letAll rfl 40 _ _ rfl w.heap.size rfl #[.int .i64 0, .int .i64 0, .int .i64 0, .int .i64 0, .int .u64 0, .int .i64 0, .int .i64 0] rfl (by kernel_rfl) (by simp [Value.oneCell']) #[.int .i64 0, .int .i64 0, .int .i64 0, .int .i64 0, .int .u64 0, .int .i64 0, .int .i64 0] 40 HO4.out rfl ?_)
        | fail)
      intro WF hUF
      have R0 : Hid (_ = _) := hUF.blk.cell 0
      have R1 : Hid (_ = _) := hUF.blk.cell 1
      have R2 : Hid (_ = _) := hUF.blk.cell 2
      have R3 : Hid (_ = _) := hUF.blk.cell 3
      have R4 : Hid (_ = _) := hUF.blk.cell 4
      have R5 : Hid (_ = _) := hUF.blk.cell 5
      have R6 : Hid (_ = _) := hUF.blk.cell 6
      have HB : Hid (Below w.heap.size w WF) := hUF.bel _ _ (Nat.le_refl _) HB4.out
      clear hUF HO4 HB4 HG4
      go_wp2_with fail
      exact bodyPost_ret (v := .tuple #[.agg #[.int .i64 0, .int .i64 0, .int .i64 0, .int .i64 0, .int .u64 0, .int .i64 0, .int .i64 0], .int .i64 5]) (by simp [results, Tryz.results33, R0.out, R1.out, R2.out, R3.out, R4.out, R5.out, R6.out, go_sem]) rfl ⟨⟨0, 0, 0, 0, 0, 0, 0⟩, 5, rfl, HF.out, HB.out⟩
    | true =>
      have HF : Hid (ReadIs l (rd y0 y1 y2 y3 y4) 0) := by
        have := HOK.out (by rw [HRD.out]; exact hr.1 rfl)
        rw [HRD.out] at this
        exact this
      clear hr HNO HOK
      go_wp2_with (first
        | (refine wp_whole rfl 40 _ rfl (w.heap.size + 1) rfl 40 #[.int .i64 (y1 % 256), .int .i64 (y1 / 256 % 256), .int .i64 y0, .int .i64 y2, .int .u64 (y4 * 4294967296 + y3), .int .i64 (y1 / 65536 % 256), .int .i64 (y1 / 16777216)] _ HG4.out Tryz.underlying40 rfl (by kernel_rfl) ?_)
        | (refine wp_letAll rfl 40 _ _ rfl w.heap.size rfl #[.int .i64 (y1 % 256), .int .i64 (y1 / 256 % 256), .int .i64 y0, .int .i64 y2, .int .u64 (y4 * 4294967296 + y3), .int .i64 (y1 / 65536 % 256), .int .i64 (y1 / 16777216)] rfl (by kernel_rfl) (by simp [Value.oneCell']) #[.int .i64 0, .int .i64 0, .int .i64 0, .int .i64 0, .int .u64 0, .int .i64 0, .int .i64 0] 40 HO4.out rfl ?_)
        | fail)
      intro WF hUF
      have R0 : Hid (_ = _) := hUF.blk.cell 0
      have R1 : Hid (_ = _) := hUF.blk.cell 1
      have R2 : Hid (_ = _) := hUF.blk.cell 2
      have R3 : Hid (_ = _) := hUF.blk.cell 3
      have R4 : Hid (_ = _) := hUF.blk.cell 4
      have R5 : Hid (_ = _) := hUF.blk.cell 5
      have R6 : Hid (_ = _) := hUF.blk.cell 6
      have HB : Hid (Below w.heap.size w WF) := hUF.bel _ _ (Nat.le_refl _) HB4.out
      clear hUF HO4 HB4 HG4
      go_wp2_with fail
      exact bodyPost_ret (v := .tuple #[.agg #[.int .i64 (y1 % 256), .int .i64 (y1 / 256 % 256), .int .i64 y0, .int .i64 y2, .int .u64 (y4 * 4294967296 + y3), .int .i64 (y1 / 65536 % 256), .int .i64 (y1 / 16777216)], .int .i64 0]) (by simp [results, Tryz.results33, R0.out, R1.out, R2.out, R3.out, R4.out, R5.out, R6.out, go_sem]) rfl ⟨rd y0 y1 y2 y3 y4, 0, by rw [HV.out], HF.out, HB.out⟩
  · have hd : ((n : Int) != 5) = true := by simp; omega
    have HF : Hid (ReadIs l ⟨0, 0, 0, 0, 0, 0, 0⟩ 1) := ReadIs.size (by rw [hr.1]; exact hn)
    clear hn hr hw
    go_enter Tryz.func33, Tryz.ntmps33
    go_wp2_with (first
      | (refine wp_letAll rfl 40 _ _ rfl w.heap.size rfl #[.int .i64 0, .int .i64 0, .int .i64 0, .int .i64 0, .int .u64 0, .int .i64 0, .int .i64 0] rfl (by kernel_rfl) (by simp [Value.oneCell']) #[.int .i64 0, .int .i64 0, .int .i64 0, .int .i64 0, .int .u64 0, .int .i64 0, .int .i64 0] 40 HO0.out rfl ?_)
      | fail)
    intro WF hUF
    have R0 : Hid (_ = _) := hUF.blk.cell 0
    have R1 : Hid (_ = _) := hUF.blk.cell 1
    have R2 : Hid (_ = _) := hUF.blk.cell 2
    have R3 : Hid (_ = _) := hUF.blk.cell 3
    have R4 : Hid (_ = _) := hUF.blk.cell 4
    have R5 : Hid (_ = _) := hUF.blk.cell 5
    have R6 : Hid (_ = _) := hUF.blk.cell 6
    have HB : Hid (Below w.heap.size w WF) := hUF.bel _ _ (Nat.le_refl _) HB0.out
    clear hUF HO0 HB0
    go_wp2_with fail
    exact bodyPost_ret (v := .tuple #[.agg #[.int .i64 0, .int .i64 0, .int .i64 0, .int .i64 0, .int .u64 0, .int .i64 0, .int .i64 0], .int .i64 1]) (by simp [results, Tryz.results33, R0.out, R1.out, R2.out, R3.out, R4.out, R5.out, R6.out, go_sem]) rfl ⟨⟨0, 0, 0, 0, 0, 0, 0⟩, 1, rfl, HF.out, HB.out⟩

end Go.Proofs.YtgipkpkjoicehaaGreatDoor.met

/- Copies of words. -/
namespace Go.Proofs.YtgipkpkjoicehaaGreatDoor.cell
open Go.RowKit
set_option maxRecDepth 100000

set_option maxHeartbeats 400000 in
theorem words_any (a : Option Addr) (len cap : Nat) (zs : List Int) (w : World) (hr : RowU w a len zs) (hn : a = none → cap = 0) (hl : len * 4 ≤ 140737488351232) :
    Calls Tryz.prog 4 #[.slice a len cap] w fun e w' => GaveU w zs e w' := by
  obtain ⟨i0, hi, hz0, hz1, hz2⟩ := info_parts info_u32
  obtain ⟨hz, hr⟩ := hr
  cases a with
  | none =>
    have hc := hn rfl
    have h0 : len = 0 := by rcases hr with h | ⟨b, off, h, _⟩; exact h; cases h
    subst hc h0
    obtain rfl : zs = [] := List.eq_nil_of_length_eq_zero hz
    have happ : ∀ w : World, (Builtin.append_ #[22, 22] 22 #[.slice none 0 0, .slice none 0 0]).run Tryz.prog w = .ok (.slice none 0 0) w := fun w => by kernel_rfl
    go_enter Tryz.func4, Tryz.ntmps4
    go_wp2
    go_ret
    exact GaveU.mk (Ws.zero _ _) (Below.refl _ _)
  | some x =>
    go_enter Tryz.func4, Tryz.ntmps4
    go_wp2_with (first
      | (at_builtin; refine wpList_append_own _ rfl _ _ 22 rfl w.heap.size 51 i0 (.int .u32 0) 1 4 Tryz.underlying22 hi hz0 hz1 hz2 rfl (by decide) _ _ _ rfl (World.ownsRow_nil _ _ _ _) x len cap (zs.map (.int .u32)) rfl ?c0 ?c1 ?c2 ?c3 ?c4 ?c5 ?_)
      | go_in)
    case c0 => simp [hz]
    case c5 => exact Nat.le_refl _
    case c1 =>
      intro j u hu
      rcases hr with h | ⟨b, off, h, hc⟩
      · rw [List.getElem?_eq_none (by simp; omega)] at hu; cases hu
      · obtain rfl := Option.some.inj h
        by_cases hj : j < zs.length
        · simp [List.getElem?_eq_getElem hj] at hu
          subst hu
          have := hc j (by omega)
          simpa [Addr.add_lit, List.getD, List.getElem?_eq_getElem hj] using this
        · rw [List.getElem?_eq_none (by simp; omega)] at hu; cases hu
    case c2 => intro u hu; obtain ⟨z, _, rfl⟩ := List.mem_map.1 hu; rfl
    case c3 => unfold maxLen; omega
    case c4 => omega
    intro v' w' hown hg _
    have HW : Hid (Ws w' w.heap.size v' zs) := by show w'.ownsRow _ _ _ _ _ _; rw [hz]; simpa using hown
    have HG : Hid (Below w.heap.size w w') := (Below.refl _ _).grown hg (Nat.le_refl _) (fun k hk => by simp [Value.ownBlock] at hk)
    clear hown hg
    go_wp2
    go_ret
    exact GaveU.mk HW.out HG.out

end Go.Proofs.YtgipkpkjoicehaaGreatDoor.cell

/- Rows of words, compared. -/
namespace Go.Proofs.YtgipkpkjoicehaaGreatDoor.cell
open Go.RowKit
set_option linter.unusedSimpArgs false
set_option maxRecDepth 100000

set_option maxHeartbeats 1000000 in
theorem words_law (a b : Option Addr) (n c1 c2 : Nat) (zs : List Int) (w : World) (h1 : RowU w a n zs) (h2 : RowU w b n zs) (hn : n ≤ maxLen) :
    Calls Tryz.prog 9 #[.slice a n c1, .slice b n c2] w fun e w' => e = .returned (.bool true) ∧ Below w.heap.size w w' := by
  have hne : ((n : Int) != (n : Int)) = false := by simp
  unfold maxLen at hn
  go_enter Tryz.func9, Tryz.ntmps9
  go_wp2_with fail
  go_loopw [5] (fun i wr => ∃ k : Nat, k ≤ n ∧ i = .int .i64 k ∧ Below w.heap.size w wr) (fun i _ => n - (intOf i).toNat)
  case atStart => exact ⟨0, Nat.zero_le _, rfl, Below.refl _ _⟩
  case round =>
    obtain ⟨k, hk, rfl, hb⟩ := hrel
    by_cases hlt : k < n
    · obtain ⟨b1, o1, rfl, l1, hc1⟩ := h1.at (by omega)
      obtain ⟨b2, o2, rfl, l2, hc2⟩ := h2.at (by omega)
      have f1 : wr.cell? ⟨b1, o1 + k, none⟩ = some (.int .u32 (zs.getD k 0)) := (hb.cell (p := ⟨b1, o1 + k, none⟩) l1).trans (hc1 k hlt)
      have f2 : wr.cell? ⟨b2, o2 + k, none⟩ = some (.int .u32 (zs.getD k 0)) := (hb.cell (p := ⟨b2, o2 + k, none⟩) l2).trans (hc2 k hlt)
      clear hc1 hc2 h1 h2 l1 l2
      generalize zs.getD k 0 = z at f1 f2
      have hz : (z != z) = false := by simp
      go_wp2_with fail
      go_region
      all_goals go_wp2_with fail
      go_roundw
      case rel => exact ⟨k + 1, by omega, by go_num, hb.drew⟩
      case measure => simp [intOf]; omega
    · go_wp2_with fail
      go_ret
      exact ⟨rfl, hb⟩

end Go.Proofs.YtgipkpkjoicehaaGreatDoor.cell

/- Rows of words and of writes, compared. -/
namespace Go.Proofs.YtgipkpkjoicehaaGreatDoor.cell
open Go.RowKit
set_option linter.unusedSimpArgs false
set_option maxRecDepth 100000

theorem eqI (d : Nat) (a b : Int) (w : World) : (Op.equalIn (d + 1) 3 (.int .i64 a) (.int .i64 b)).run Tryz.prog w = .ok (a == b) w := run_equalIn_int w d _ _ _ a b Tryz.underlying3
theorem eqU (d : Nat) (a b : Int) (w : World) : (Op.equalIn (d + 1) 51 (.int .u32 a) (.int .u32 b)).run Tryz.prog w = .ok (a == b) w := run_equalIn_int w d _ _ _ a b Tryz.underlying51
theorem wt0 (s c : Int) (w : World) : (part 3 #[.int .i64 s, .int .u32 c] 0).run Tryz.prog w = .ok (.int .i64 s) w := by kernel_rfl
theorem wt1 (s c : Int) (w : World) : (part 51 #[.int .i64 s, .int .u32 c] 1).run Tryz.prog w = .ok (.int .u32 c) w := by kernel_rfl
theorem eqW (s t b c : Int) (w : World) :
    (Op.equalIn 10000 53 (.agg #[.int .i64 s, .int .u32 b]) (.agg #[.int .i64 t, .int .u32 c])).run Tryz.prog w = .ok (s == t && b == c) w := by
  rw [show (10000 : Nat) = 9999 + 1 from rfl, run_equalIn_agg w 9999 53 _ _ (by kernel_rfl) (by kernel_rfl)]
  simp only [Program.fieldsOf, Tryz.underlying53, Op.eqFields, Sem.run_bind, Sem.run_ite]
  by_cases h1 : (s == t) = true <;> by_cases h2 : (b == c) = true <;> simp [wt0, wt1, show (9999 : Nat) = 9998 + 1 from rfl, eqI, eqU, h1, h2]

set_option maxHeartbeats 1000000 in
theorem writes_law (a b : Option Addr) (n c1 c2 : Nat) (zs : List Wr) (w : World) (h1 : RowW w a n zs) (h2 : RowW w b n zs) (hn : n ≤ maxLen) :
    Calls Tryz.prog 8 #[.slice a n c1, .slice b n c2] w fun e w' => e = .returned (.bool true) ∧ Below w.heap.size w w' := by
  have hne : ((n : Int) != (n : Int)) = false := by simp
  unfold maxLen at hn
  go_enter Tryz.func8, Tryz.ntmps8
  go_wp2_with fail
  go_loopw [5] (fun i wr => ∃ k : Nat, k ≤ n ∧ i = .int .i64 k ∧ Below w.heap.size w wr) (fun i _ => n - (intOf i).toNat)
  case atStart => exact ⟨0, Nat.zero_le _, rfl, Below.refl _ _⟩
  case round =>
    obtain ⟨k, hk, rfl, hb⟩ := hrel
    by_cases hlt : k < n
    · obtain ⟨b1, o1, rfl, l1, hc1⟩ := h1.at (by omega)
      obtain ⟨b2, o2, rfl, l2, hc2⟩ := h2.at (by omega)
      have f1 : wr.cell? ⟨b1, o1 + k * 2, none⟩ = some (.int .i64 (zs.getD k wr0).p) := (hb.cell (p := ⟨b1, o1 + k * 2, none⟩) l1).trans (hc1 k hlt).1
      have f2 : wr.cell? ⟨b1, o1 + k * 2 + 1, none⟩ = some (.int .u32 (zs.getD k wr0).d) := (hb.cell (p := ⟨b1, o1 + k * 2 + 1, none⟩) l1).trans (hc1 k hlt).2
      have f3 : wr.cell? ⟨b2, o2 + k * 2, none⟩ = some (.int .i64 (zs.getD k wr0).p) := (hb.cell (p := ⟨b2, o2 + k * 2, none⟩) l2).trans (hc2 k hlt).1
      have f4 : wr.cell? ⟨b2, o2 + k * 2 + 1, none⟩ = some (.int .u32 (zs.getD k wr0).d) := (hb.cell (p := ⟨b2, o2 + k * 2 + 1, none⟩) l2).trans (hc2 k hlt).2
      have hq : ∀ wz : World, (Op.equalIn 10000 53 (.agg #[.int .i64 (zs.getD k wr0).p, .int .u32 (zs.getD k wr0).d]) (.agg #[.int .i64 (zs.getD k wr0).p, .int .u32 (zs.getD k wr0).d])).run Tryz.prog wz = .ok true wz := fun wz => by rw [eqW]; simp
      have HB : Hid (Below w.heap.size w wr) := hb
      clear hc1 hc2 h1 h2 l1 l2 hb
      generalize (zs.getD k wr0).p = p at *
      generalize (zs.getD k wr0).d = d at *
      go_wp2_with fail
      go_region
      all_goals go_wp2_with fail
      go_roundw
      case rel => exact ⟨k + 1, by omega, by go_num, HB.out.drew⟩
      case measure => simp [intOf]; omega
    · go_wp2_with fail
      go_ret
      exact ⟨rfl, hb⟩

end Go.Proofs.YtgipkpkjoicehaaGreatDoor.cell

/- Oracles, copied and compared. -/
namespace Go.Proofs.YtgipkpkjoicehaaGreatDoor.ora
open Go.RowKit
set_option maxRecDepth 100000
set_option linter.unusedVariables false
set_option linter.unusedSimpArgs false

set_option maxHeartbeats 1000000 in
theorem oracles_any (a : Option Addr) (len cap : Nat) (l : List Pr) (w : World) (hr : RowP w a len l) (hn : a = none → cap = 0) (hl : len * 32 ≤ 140737488351232) :
    Calls Tryz.prog 5 #[.agg #[.slice a len cap]] w fun e w' => GaveO w l e w' := by
  obtain ⟨i0, hi, hz0, hz1, hz2⟩ := info_parts info_pr
  have HX : Hid (Bi w ((w.alloc (.cells #[.slice a len cap] 25)).alloc (.cells #[.slice none 0 0] 25)) a len cap l) := ⟨(Bo.new hr).alloc _, Blk.new1 w _ _ _⟩
  have HZ : Hid (l.length = len) := hr.1
  have c0 := HX.out.bo.box.cell 0
  cases a with
  | none =>
    have hc := hn rfl
    have h0 : len = 0 := by rcases hr.2 with h | ⟨b, off, h, _⟩; exact h; cases h
    subst hc h0
    obtain rfl : l = [] := List.eq_nil_of_length_eq_zero HZ.out
    have happ : ∀ w : World, (Builtin.append_ #[23, 23] 23 #[.slice none 0 0, .slice none 0 0]).run Tryz.prog w = .ok (.slice none 0 0) w := fun w => by kernel_rfl
    have R0 : Hid (_ = _) := HX.out.out.cell 0
    clear hr
    go_enter Tryz.func5, Tryz.ntmps5
    go_wp2_with fail
    exact bodyPost_ret (v := .agg #[.slice none 0 0]) (by simp [results, Tryz.results5, R0.out, go_sem]) rfl ⟨_, rfl, Pw.zero _ _, HX.out.bo.bel⟩
  | some x =>
    have HR : Hid (RowP ((w.alloc (.cells #[.slice (some x) len cap] 25)).alloc (.cells #[.slice none 0 0] 25)) (some x) len l) := HX.out.bo.row
    have HSZ : Hid (w.heap.size + 2 ≤ ((w.alloc (.cells #[.slice (some x) len cap] 25)).alloc (.cells #[.slice none 0 0] 25)).heap.size) := HX.out.out.lt
    clear hr
    go_enter Tryz.func5, Tryz.ntmps5
    go_wp2_with (first
      | (at_builtin; refine wpList_append_own _ rfl _ _ 23 rfl (w.heap.size + 2) 55 i0 (.agg #[.int .i64 0, .int .i64 0, .int .i64 0, .int .i64 0]) 4 32 Tryz.underlying23 hi hz0 hz1 hz2 rfl (by decide) _ _ _ rfl (World.ownsRow_nil _ _ _ _) x len cap (cellsP l) rfl ?c0 ?c1 (oneP l) ?c3 ?c4 HSZ.out ?_)
      | go_in)
    case c0 => rw [cellsP_len, HZ.out]
    case c1 =>
      intro j u hu
      rcases HR.out.2 with h | ⟨b, off, h, hc⟩
      · rw [List.getElem?_eq_none (by rw [cellsP_len, HZ.out]; omega)] at hu; cases hu
      · obtain rfl := Option.some.inj h
        rw [Addr.add_lit]
        exact cellsP_get HZ.out hc j u hu
    case c3 => unfold maxLen; omega
    case c4 => omega
    intro v' w' hown hg _
    have HW : Hid (Pw w' (w.heap.size + 2) v' l) := by show w'.ownsRow _ _ _ _ _ _; rw [HZ.out]; simpa using hown
    have hb' : Below w.heap.size w w' := HX.out.bo.bel.grown hg (by have := HSZ.out; omega) (fun k hk => by simp [Value.ownBlock] at hk)
    have hout := Blk.pgrown HX.out.out hg (by simp [Value.ownBlock])
    have z0 := hout.cell 0
    have y0 := hout.free 0
    have HXX := hout.set 0 v'
    have R0 : Hid (_ = _) := HXX.cell 0
    have HF : Hid (Pw (w'.setCell ⟨w.heap.size + 1, 0, none⟩ v') w.heap.size v' l ∧ Below w.heap.size w (w'.setCell ⟨w.heap.size + 1, 0, none⟩ v')) := ⟨(HW.out.put _ _ _ (by omega)).low (by omega), bel_set hb' _ _ _ (by omega)⟩
    obtain ⟨av, cv, hV, _, _, _⟩ := HW.out.row
    clear hown hg hb' hout HXX HW HX HR HSZ c0
    subst hV
    go_wp2_with fail
    exact bodyPost_ret (v := .agg #[.slice av l.length cv]) (by simp [results, Tryz.results5, R0.out, go_sem]) rfl ⟨_, rfl, HF.out.1, HF.out.2⟩
theorem peq (d : Nat) (a b : Int) (w : World) : (Op.equalIn (d + 1) 3 (.int .i64 a) (.int .i64 b)).run Tryz.prog w = .ok (a == b) w := run_equalIn_int w d _ _ _ a b Tryz.underlying3
theorem pt0 (a b c e : Int) (w : World) : (part 3 #[.int .i64 a, .int .i64 b, .int .i64 c, .int .i64 e] 0).run Tryz.prog w = .ok (.int .i64 a) w := by kernel_rfl
theorem pt1 (a b c e : Int) (w : World) : (part 3 #[.int .i64 a, .int .i64 b, .int .i64 c, .int .i64 e] 1).run Tryz.prog w = .ok (.int .i64 b) w := by kernel_rfl
theorem pt2 (a b c e : Int) (w : World) : (part 3 #[.int .i64 a, .int .i64 b, .int .i64 c, .int .i64 e] 2).run Tryz.prog w = .ok (.int .i64 c) w := by kernel_rfl
theorem pt3 (a b c e : Int) (w : World) : (part 3 #[.int .i64 a, .int .i64 b, .int .i64 c, .int .i64 e] 3).run Tryz.prog w = .ok (.int .i64 e) w := by kernel_rfl
theorem eqPr (a b c e : Int) (w : World) :
    (Op.equalIn 10000 55 (.agg #[.int .i64 a, .int .i64 b, .int .i64 c, .int .i64 e]) (.agg #[.int .i64 a, .int .i64 b, .int .i64 c, .int .i64 e])).run Tryz.prog w = .ok true w := by
  rw [show (10000 : Nat) = 9999 + 1 from rfl, run_equalIn_agg w 9999 55 _ _ (by kernel_rfl) (by kernel_rfl)]
  simp only [Program.fieldsOf, Tryz.underlying55, Op.eqFields, Sem.run_bind, Sem.run_ite]
  simp [pt0, pt1, pt2, pt3, show (9999 : Nat) = 9998 + 1 from rfl, peq]
set_option maxHeartbeats 2000000 in
theorem same_any (a b : Option Addr) (n c1 c2 : Nat) (l : List Pr) (w : World) (h1 : RowP w a n l) (h2 : RowP w b n l) (hn : n * 32 ≤ 140737488351232) :
    Calls Tryz.prog 10 #[.agg #[.slice a n c1], .agg #[.slice b n c2]] w fun e w' => e = .returned (.bool true) ∧ Below w.heap.size w w' := by
  have hne : ((n : Int) != (n : Int)) = false := by simp
  have hn' : n ≤ 140737488351232 := by omega
  clear hn
  have HB0 : Hid (Blk ((w.alloc (.cells #[.slice a n c1] 25)).alloc (.cells #[.slice b n c2] 25)) w.heap.size #[.slice a n c1] 25 ∧ Blk ((w.alloc (.cells #[.slice a n c1] 25)).alloc (.cells #[.slice b n c2] 25)) (w.heap.size + 1) #[.slice b n c2] 25 ∧ Below w.heap.size w ((w.alloc (.cells #[.slice a n c1] 25)).alloc (.cells #[.slice b n c2] 25))) :=
    ⟨(Blk.new w _ _).alloc _, Blk.new1 w _ _ _, ((Below.refl _ _).alloc (Nat.le_refl _) _).alloc (palloc_le (Nat.le_refl _) _) _⟩
  have HR : Hid (RowP w a n l ∧ RowP w b n l) := ⟨h1, h2⟩
  clear h1 h2
  have c0 := HB0.out.1.cell 0
  have e0 := HB0.out.2.1.cell 0
  go_enter Tryz.func10, Tryz.ntmps10
  go_wp2_with fail
  clear c0 e0
  generalize (w.alloc (.cells #[.slice a n c1] 25)).alloc (.cells #[.slice b n c2] 25) = W0 at *
  go_loopw [5] (fun j wr => ∃ k : Nat, k ≤ n ∧ j = .int .i64 (k : Int) ∧ Blk wr w.heap.size #[.slice a n c1] 25 ∧ Blk wr (w.heap.size + 1) #[.slice b n c2] 25 ∧ Below w.heap.size w wr) (fun j _ => n - (intOf j).toNat)
  case atStart => exact ⟨0, Nat.zero_le _, rfl, HB0.out⟩
  case round =>
    obtain ⟨k, hk, rfl, hx⟩ := hrel
    have HI : Hid (Blk wr w.heap.size #[.slice a n c1] 25 ∧ Blk wr (w.heap.size + 1) #[.slice b n c2] 25 ∧ Below w.heap.size w wr) := hx
    clear hx HB0
    have c0 := HI.out.1.cell 0
    have e0 := HI.out.2.1.cell 0
    by_cases hlt : k < n
    · obtain ⟨b1, o1, rfl, _, hc1⟩ := (HR.out.1.below HI.out.2.2).at (by omega)
      obtain ⟨b2, o2, rfl, _, hc2⟩ := (HR.out.2.below HI.out.2.2).at (by omega)
      obtain ⟨f0, f1, f2, f3⟩ := hc1 k hlt
      obtain ⟨g0, g1, g2, g3⟩ := hc2 k hlt
      have hq := eqPr (l.getD k pr0).m (l.getD k pr0).r (l.getD k pr0).b (l.getD k pr0).t
      clear hc1 hc2
      generalize (l.getD k pr0).m = pm at *
      generalize (l.getD k pr0).r = prr at *
      generalize (l.getD k pr0).b = pb at *
      generalize (l.getD k pr0).t = pt at *
      go_wp2_with fail
      go_region
      all_goals go_wp2_with fail
      go_roundw
      case rel => exact ⟨k + 1, by omega, by go_num, HI.out.1, HI.out.2.1, HI.out.2.2.drew⟩
      case measure => simp [intOf]; omega
    · go_wp2_with fail
      go_ret
      exact ⟨rfl, HI.out.2.2⟩
theorem oracles_row (a : Option Addr) (n cap : Nat) (l : List Pr) (w : World) (h : Came w a n cap l) :
    Calls Tryz.prog 5 #[.agg #[.slice a n cap]] w fun e w' => Copied w n l e w' :=
  (oracles_any a n cap l w h.row h.nil h.small).mono fun e w' ⟨v, he, hv, hb⟩ => by
    obtain ⟨x, c, rfl, rx, h1, h2⟩ := hv.row
    rw [h.row.1] at he rx h2
    exact ⟨x, c, he, ⟨rx, h1, h2, h.small⟩, hb⟩

end Go.Proofs.YtgipkpkjoicehaaGreatDoor.ora

/- Keyed digits, as the document puts it: plain facts. -/
namespace Go.Proofs.YtgipkpkjoicehaaGreatDoor.pkt
open Go.Proofs.YtgipkpkjoicehaaGreatDoor.met Go.Proofs.YtgipkpkjoicehaaGreatDoor.slot Go.Proofs.YtgipkpkjoicehaaGreatDoor.cell Go.Proofs.YtgipkpkjoicehaaGreatDoor.ora Go.Proofs.YtgipkpkjoicehaaGreatDoor.token

theorem KeyedIs.ref {xs : List Int} {l : List Pr} {s : List UInt8} {m m' : Mt} {x e : Int} {ls : List Wr} (hb : BootIs xs m 0) (hp : parseE s = 0) (hk : KeyIs m l (tk s).c (tk s).i (tk s).a (tk s).t (bodyI (tk s).c (tk s).i (tk s).a) m' x e) (hm : m.may) (hl : May l) (hw : WrIs xs m m' ls) : KeyedIs xs l s ls x e := by
  by_cases hf : e ≠ 0 ∧ e ≠ 12
  · obtain ⟨rfl, rfl⟩ := key_keep hk hm hl hf.1 hf.2
    rcases hw with ⟨_, rfl⟩ | ⟨h, _⟩
    · exact .inr (.inr (.inl ⟨_, _, _, hb, hp, hk, hf, rfl, rfl⟩))
    · exact absurd rfl h
  · exact .inr (.inr (.inr ⟨_, _, hb, hp, hk, hf, hw⟩))
theorem KeyedIs.state {xs : List Int} {l : List Pr} {s : List UInt8} {m : Mt} (hb : BootIs xs m 0) (hp : parseE s = 0) (hl : ¬ May l) : KeyedIs xs l s [] 0 5 :=
  .inr (.inr (.inl ⟨m, _, _, hb, hp, KeyIs.state (fun h => hl h.2), ⟨by decide, by decide⟩, rfl, rfl⟩))

end Go.Proofs.YtgipkpkjoicehaaGreatDoor.pkt

/- A pocket boots, as the document says. -/
namespace Go.Proofs.YtgipkpkjoicehaaGreatDoor.pkt
open Go.RowKit Go.Proofs.YtgipkpkjoicehaaGreatDoor.met Go.Proofs.YtgipkpkjoicehaaGreatDoor.slot Go.Proofs.YtgipkpkjoicehaaGreatDoor.cell
set_option maxRecDepth 100000
set_option linter.unusedVariables false
set_option linter.unusedSimpArgs false

set_option maxHeartbeats 1000000 in
theorem rboot_no (a : Option Addr) (n cap : Nat) (f : Int) (w : World) (hf : f ≠ 0) (hL : ∀ W, Below w.heap.size w W → Calls Tryz.prog 32 #[.slice a n cap, .int .i64 5] W fun e w' => GaveR W [] f e w') :
    Calls Tryz.prog 15 #[.slice a n cap] w fun e w' => e = .returned (.tuple #[.agg #[.int .i64 0, .int .i64 0, .int .i64 0, .int .i64 0, .int .u64 0, .int .i64 0, .int .i64 0], .int .i64 f]) ∧ Below w.heap.size w w' := by
  have HL : Hid (∀ W, Below w.heap.size w W → Calls Tryz.prog 32 #[.slice a n cap, .int .i64 5] W fun e w' => GaveR W [] f e w') := hL
  have hd : (f != 0) = true := by simpa using hf
  clear hL hf
  have H0r : Hid (Blk (w.alloc (.cells #[.int .i64 0, .int .i64 0, .int .i64 0, .int .i64 0, .int .u64 0, .int .i64 0, .int .i64 0] 40)) (w.heap.size) #[.int .i64 0, .int .i64 0, .int .i64 0, .int .i64 0, .int .u64 0, .int .i64 0, .int .i64 0] 40) := Blk.new w _ _
  have H0B : Hid (Below w.heap.size w (w.alloc (.cells #[.int .i64 0, .int .i64 0, .int .i64 0, .int .i64 0, .int .u64 0, .int .i64 0, .int .i64 0] 40))) := (Below.refl w.heap.size w).alloc (by simp) _
  go_enter Tryz.func15, Tryz.ntmps15
  go_wp2_with fail
  refine (HL.out _ H0B.out).mono ?_
  rintro e w1 ⟨x1, c1, rfl, hr1, _, hb1⟩
  have H1r : Hid (Blk w1 (w.heap.size) #[.int .i64 0, .int .i64 0, .int .i64 0, .int .i64 0, .int .u64 0, .int .i64 0, .int .i64 0] 40) := H0r.out.next hb1
  have H1B : Hid (Below w.heap.size w w1) := bel_step H0B.out hb1
  clear H0r H0B hb1 HL
  go_wp2_with (first | (refine wp_letAll rfl 40 _ _ rfl (w.heap.size) rfl #[.int .i64 0, .int .i64 0, .int .i64 0, .int .i64 0, .int .u64 0, .int .i64 0, .int .i64 0] rfl (by kernel_rfl) (by simp [Value.oneCell']) #[.int .i64 0, .int .i64 0, .int .i64 0, .int .i64 0, .int .u64 0, .int .i64 0, .int .i64 0] 40 H1r.out rfl ?_) | fail)
  intro WF hU
  have H2r : Hid (Blk WF (w.heap.size) #[.int .i64 0, .int .i64 0, .int .i64 0, .int .i64 0, .int .u64 0, .int .i64 0, .int .i64 0] 40) := hU.blk
  have H2B : Hid (Below w.heap.size w WF) := hU.bel _ _ (by omega) H1B.out
  clear hU H1r H1B  
  have HBF : Hid (Below w.heap.size w WF) := H2B.out
  have Rr0 : Hid (WF.cell? ⟨w.heap.size, 0, none⟩ = some (.int .i64 0)) := H2r.out.cell 0
  have Rr1 : Hid (WF.cell? ⟨w.heap.size, 1, none⟩ = some (.int .i64 0)) := H2r.out.cell 1
  have Rr2 : Hid (WF.cell? ⟨w.heap.size, 2, none⟩ = some (.int .i64 0)) := H2r.out.cell 2
  have Rr3 : Hid (WF.cell? ⟨w.heap.size, 3, none⟩ = some (.int .i64 0)) := H2r.out.cell 3
  have Rr4 : Hid (WF.cell? ⟨w.heap.size, 4, none⟩ = some (.int .u64 0)) := H2r.out.cell 4
  have Rr5 : Hid (WF.cell? ⟨w.heap.size, 5, none⟩ = some (.int .i64 0)) := H2r.out.cell 5
  have Rr6 : Hid (WF.cell? ⟨w.heap.size, 6, none⟩ = some (.int .i64 0)) := H2r.out.cell 6
  go_wp2_with fail
  exact bodyPost_ret (v := .tuple #[.agg #[.int .i64 0, .int .i64 0, .int .i64 0, .int .i64 0, .int .u64 0, .int .i64 0, .int .i64 0], .int .i64 f]) (by simp [results, Tryz.results15, Rr0.out, Rr1.out, Rr2.out, Rr3.out, Rr4.out, Rr5.out, Rr6.out, go_sem]) rfl ⟨rfl, HBF.out⟩
set_option maxHeartbeats 1000000 in
theorem rboot_yes (a : Option Addr) (n cap : Nat) (rs : List Int) (w : World) (hn : rs.length = 5) (hL : ∀ W, Below w.heap.size w W → Calls Tryz.prog 32 #[.slice a n cap, .int .i64 5] W fun e w' => GaveR W rs 0 e w') (hR : ∀ W r c, RowU W r 5 rs → Calls Tryz.prog 33 #[.slice r 5 c] W fun e w' => ReadPost W rs e w') :
    Calls Tryz.prog 15 #[.slice a n cap] w fun e w' => ReadPost w rs e w' := by
  have HL : Hid (∀ W, Below w.heap.size w W → Calls Tryz.prog 32 #[.slice a n cap, .int .i64 5] W fun e w' => GaveR W rs 0 e w') := hL
  have HR : Hid (∀ W r c, RowU W r 5 rs → Calls Tryz.prog 33 #[.slice r 5 c] W fun e w' => ReadPost W rs e w') := hR
  have HN : Hid (rs.length = 5) := hn
  clear hL hR hn
  have H0r : Hid (Blk (w.alloc (.cells #[.int .i64 0, .int .i64 0, .int .i64 0, .int .i64 0, .int .u64 0, .int .i64 0, .int .i64 0] 40)) (w.heap.size) #[.int .i64 0, .int .i64 0, .int .i64 0, .int .i64 0, .int .u64 0, .int .i64 0, .int .i64 0] 40) := Blk.new w _ _
  have H0B : Hid (Below w.heap.size w (w.alloc (.cells #[.int .i64 0, .int .i64 0, .int .i64 0, .int .i64 0, .int .u64 0, .int .i64 0, .int .i64 0] 40))) := (Below.refl w.heap.size w).alloc (by simp) _
  go_enter Tryz.func15, Tryz.ntmps15
  go_wp2_with fail
  refine (HL.out _ H0B.out).mono ?_
  rintro e w1 ⟨x1, c1, rfl, hr1, _, hb1⟩
  have H1r : Hid (Blk w1 (w.heap.size) #[.int .i64 0, .int .i64 0, .int .i64 0, .int .i64 0, .int .u64 0, .int .i64 0, .int .i64 0] 40) := H0r.out.next hb1
  have H1B : Hid (Below w.heap.size w w1) := bel_step H0B.out hb1
  have HX : Hid (RowU w1 x1 5 rs) := by have := HN.out; rw [this] at hr1; exact hr1
  have hn := HN.out
  rw [hn]
  clear H0r H0B hb1 hr1 hn HL HN
  go_wp2_with fail
  refine (HR.out _ _ _ HX.out).mono ?_
  rintro e w2 ⟨m2, f2, rfl, hi2, hb2⟩
  have H2r : Hid (Blk w2 (w.heap.size) #[.int .i64 0, .int .i64 0, .int .i64 0, .int .i64 0, .int .u64 0, .int .i64 0, .int .i64 0] 40) := H1r.out.next hb2
  have H2B : Hid (Below w.heap.size w w2) := bel_step H1B.out hb2
  have HI : Hid (ReadIs rs m2 f2) := hi2
  obtain ⟨me2, rev2, cr2, h2, b2, bad2, lock2⟩ := m2
  unfold Mt.v Mt.cells
  simp only []
  have H3r : Hid (Blk (w2.alloc (.cells #[.int .i64 me2, .int .i64 rev2, .int .i64 cr2, .int .i64 h2, .int .u64 (b2 : Int), .int .i64 bad2, .int .i64 lock2] 40)) (w.heap.size) #[.int .i64 0, .int .i64 0, .int .i64 0, .int .i64 0, .int .u64 0, .int .i64 0, .int .i64 0] 40) := (H2r.out).alloc _
  have H3m : Hid (Blk (w2.alloc (.cells #[.int .i64 me2, .int .i64 rev2, .int .i64 cr2, .int .i64 h2, .int .u64 (b2 : Int), .int .i64 bad2, .int .i64 lock2] 40)) (w2.heap.size) #[.int .i64 me2, .int .i64 rev2, .int .i64 cr2, .int .i64 h2, .int .u64 (b2 : Int), .int .i64 bad2, .int .i64 lock2] 40) := (Blk.new w2 _ _)
  have L3mr : Hid (w.heap.size < w2.heap.size) := Nat.lt_of_lt_of_le H2r.out.lt (by simp)
  have H3B : Hid (Below w.heap.size w (w2.alloc (.cells #[.int .i64 me2, .int .i64 rev2, .int .i64 cr2, .int .i64 h2, .int .u64 (b2 : Int), .int .i64 bad2, .int .i64 lock2] 40))) := (H2B.out).alloc (Nat.le_trans H2B.out.size (by simp)) _
  have L30 : Hid (w.heap.size ≤ w2.heap.size) := H2B.out.size
  clear H1r H1B H2r H2B hb2 hi2 HR HX
  go_wp2_with (first
    | (refine wp_letAll rfl 40 _ _ rfl (w.heap.size) rfl #[.int .i64 me2, .int .i64 rev2, .int .i64 cr2, .int .i64 h2, .int .u64 (b2 : Int), .int .i64 bad2, .int .i64 lock2] rfl (by kernel_rfl) (by simp [Value.oneCell']) #[.int .i64 0, .int .i64 0, .int .i64 0, .int .i64 0, .int .u64 0, .int .i64 0, .int .i64 0] 40 H3r.out rfl ?_)
    | (refine wp_whole rfl 40 _ rfl (w.heap.size) rfl 40 #[.int .i64 0, .int .i64 0, .int .i64 0, .int .i64 0, .int .u64 0, .int .i64 0, .int .i64 0] _ H3r.out Tryz.underlying40 rfl (by kernel_rfl) ?_)
    | (refine wp_wholeG (by rfl) 40 _ rfl (w.heap.size) rfl 40 #[.int .i64 0, .int .i64 0, .int .i64 0, .int .i64 0, .int .u64 0, .int .i64 0, .int .i64 0] _ H3r.out Tryz.underlying40 rfl (by kernel_rfl) ?_)
    | (refine wp_whole rfl 40 _ rfl (w2.heap.size) rfl 40 #[.int .i64 me2, .int .i64 rev2, .int .i64 cr2, .int .i64 h2, .int .u64 (b2 : Int), .int .i64 bad2, .int .i64 lock2] _ H3m.out Tryz.underlying40 rfl (by kernel_rfl) ?_)
    | (refine wp_wholeG (by rfl) 40 _ rfl (w2.heap.size) rfl 40 #[.int .i64 me2, .int .i64 rev2, .int .i64 cr2, .int .i64 h2, .int .u64 (b2 : Int), .int .i64 bad2, .int .i64 lock2] _ H3m.out Tryz.underlying40 rfl (by kernel_rfl) ?_)
    | fail)
  intro WF hU
  have hL3mr := L3mr.out
  have hL30 := L30.out
  have H4r : Hid (Blk WF (w.heap.size) #[.int .i64 me2, .int .i64 rev2, .int .i64 cr2, .int .i64 h2, .int .u64 (b2 : Int), .int .i64 bad2, .int .i64 lock2] 40) := hU.blk
  have H4m : Hid (Blk WF (w2.heap.size) #[.int .i64 me2, .int .i64 rev2, .int .i64 cr2, .int .i64 h2, .int .u64 (b2 : Int), .int .i64 bad2, .int .i64 lock2] 40) := hU.keep H3m.out (by omega)
  have H4B : Hid (Below w.heap.size w WF) := hU.bel _ _ (by omega) H3B.out
  clear hU H3r H3m H3B hL3mr hL30 
  have HBF : Hid (Below w.heap.size w WF) := H4B.out
  have Rr0 : Hid (WF.cell? ⟨w.heap.size, 0, none⟩ = some (.int .i64 me2)) := H4r.out.cell 0
  have Rr1 : Hid (WF.cell? ⟨w.heap.size, 1, none⟩ = some (.int .i64 rev2)) := H4r.out.cell 1
  have Rr2 : Hid (WF.cell? ⟨w.heap.size, 2, none⟩ = some (.int .i64 cr2)) := H4r.out.cell 2
  have Rr3 : Hid (WF.cell? ⟨w.heap.size, 3, none⟩ = some (.int .i64 h2)) := H4r.out.cell 3
  have Rr4 : Hid (WF.cell? ⟨w.heap.size, 4, none⟩ = some (.int .u64 (b2 : Int))) := H4r.out.cell 4
  have Rr5 : Hid (WF.cell? ⟨w.heap.size, 5, none⟩ = some (.int .i64 bad2)) := H4r.out.cell 5
  have Rr6 : Hid (WF.cell? ⟨w.heap.size, 6, none⟩ = some (.int .i64 lock2)) := H4r.out.cell 6
  go_wp2_with fail
  exact bodyPost_ret (v := .tuple #[.agg #[.int .i64 me2, .int .i64 rev2, .int .i64 cr2, .int .i64 h2, .int .u64 (b2 : Int), .int .i64 bad2, .int .i64 lock2], .int .i64 f2]) (by simp [results, Tryz.results15, Rr0.out, Rr1.out, Rr2.out, Rr3.out, Rr4.out, Rr5.out, Rr6.out, go_sem]) rfl ⟨⟨me2, rev2, cr2, h2, b2, bad2, lock2⟩, f2, rfl, HI.out, HBF.out⟩
theorem booted (a : Option Addr) (n cap : Nat) (xs : List Int) (w : World) (h : RowU w a n xs) (hw : ∀ x ∈ rcd xs 5 (which xs 5), 0 ≤ x ∧ x < 4294967296) :
    Calls Tryz.prog 15 #[.slice a n cap] w fun e w' => BootPost w xs e w' := by
  have hl := h.1
  by_cases h12 : n = 12
  · subst h12
    by_cases h2 : which xs 5 = 2
    · refine (rboot_no a 12 cap 17 w (by decide) (fun W hB => sloaded_blank a 12 cap 5 xs W (h.below hB) (by decide) (by decide) rfl h2)).mono ?_
      rintro e w' ⟨rfl, hb⟩
      exact ⟨mt0, 17, rfl, .inr (.inl ⟨hl, h2, rfl, rfl⟩), hb⟩
    · have h1 : which xs 5 ≤ 1 := by have := which_le xs 5; omega
      refine (rboot_yes a 12 cap (rcd xs 5 (which xs 5)) w (rcd_len _ _ _) (fun W hB => sloaded_yes a 12 cap 5 _ xs W (h.below hB) (by decide) (by decide) rfl rfl h1) (fun W r c hr => mread_any r 5 c _ W hr hw)).mono ?_
      rintro e w' ⟨m, f, rfl, hi, hb⟩
      exact ⟨m, f, rfl, .inr (.inr ⟨hl, h1, hi⟩), hb⟩
  · refine (rboot_no a n cap 1 w (by decide) (fun W hB => sloaded_size a n cap 5 W (.inr (.inr (by omega))))).mono ?_
    rintro e w' ⟨rfl, hb⟩
    exact ⟨mt0, 1, rfl, .inl ⟨by omega, rfl, rfl⟩, hb⟩

end Go.Proofs.YtgipkpkjoicehaaGreatDoor.pkt

/- What differs: the document's answer. -/
namespace Go.Proofs.YtgipkpkjoicehaaGreatDoor.cell
open Go.RowKit
set_option maxRecDepth 100000

set_option maxHeartbeats 2000000 in
theorem differs_yes (a b : Option Addr) (n c1 c2 : Nat) (xs ys : List Int) (w : World) (h1 : RowU w a n xs) (h2 : RowU w b n ys) (hn : 1 ≤ n) (hn2 : n ≤ 2048) :
    Calls Tryz.prog 50 #[.slice a n c1, .slice b n c2] w fun e w' => GaveL w (dif xs ys n) 0 e w' := by
  have HM : Hid (∀ W, Calls Tryz.prog 77 #[.int .i64 (n : Int), .int .i64 1, .int .i64 2048] W fun e w' => e = .returned (.bool true) ∧ w' = W) := fun W => in_yes _ _ _ W (by omega) (by omega)
  have hne : ((n : Int) != (n : Int)) = false := by simp
  obtain ⟨b1, o1, rfl, l1, hc1⟩ := h1.at (by omega)
  obtain ⟨b2, o2, rfl, l2, hc2⟩ := h2.at (by omega)
  have HC1 : Hid (∀ wr, Below w.heap.size w wr → ∀ k, k < n → wr.cell? ⟨b1, o1 + k, none⟩ = some (.int .u32 (xs.getD k 0))) := fun wr hb k hk => (hb.cell (p := ⟨b1, o1 + k, none⟩) l1).trans (hc1 k hk)
  have HC2 : Hid (∀ wr, Below w.heap.size w wr → ∀ k, k < n → wr.cell? ⟨b2, o2 + k, none⟩ = some (.int .u32 (ys.getD k 0))) := fun wr hb k hk => (hb.cell (p := ⟨b2, o2 + k, none⟩) l2).trans (hc2 k hk)
  clear h1 h2 hc1 hc2 l1 l2
  go_enter Tryz.func50, Tryz.ntmps50
  go_wp2_with fail
  refine (HM.out _).mono ?_
  rintro e w1 ⟨rfl, rfl⟩
  go_wp2_with fail
  go_loopw [6, 7] (fun v i wr => ∃ (k : Nat) (V : Value), V = v ∧ k ≤ n ∧ i = .int .i64 (k : Int) ∧ Lw wr w1.heap.size V (dif xs ys k) ∧ Below w1.heap.size w1 wr) (fun _ i _ => n - (intOf i).toNat)
  case atStart => exact ⟨0, _, rfl, Nat.zero_le _, rfl, Lw.zero _ _, Below.refl _ _⟩
  case round =>
    obtain ⟨k, V, hV, hk, rfl, hown, hb⟩ := hrel
    subst hV
    have HO : Hid (Lw wr w1.heap.size V (dif xs ys k)) := hown
    have HB : Hid (Below w1.heap.size w1 wr) := hb
    clear hown hb
    by_cases hlt : k < n
    · have g1 := HC1.out wr HB.out k hlt
      have g2 := HC2.out wr HB.out k hlt
      by_cases he : xs.getD k 0 = ys.getD k 0
      · have HD : Hid (dif xs ys (k + 1) = dif xs ys k) := dif_same he
        rw [he] at g1
        clear he
        generalize ys.getD k 0 = z at *
        have hz : (z != z) = false := by simp
        have HO1 : Hid (Lw wr.drew w1.heap.size V (dif xs ys (k + 1))) := by rw [HD.out]; exact HO.out
        go_wp2_with fail
        go_region
        go_wp2_with fail
        go_roundw
        case rel => exact ⟨k + 1, _, rfl, by omega, by go_num, HO1.out, HB.out.drew⟩
        case measure => simp [intOf]; omega
      · have HD : Hid (dif xs ys (k + 1) = dif xs ys k ++ [⟨(k : Int), ys.getD k 0⟩]) := dif_other he
        have hz : (xs.getD k 0 != ys.getD k 0) = true := by simpa using he
        have HLN : Hid ((dif xs ys k).length ≤ 1000000) := by have := dif_len xs ys k; show _ ≤ _; omega
        clear he
        generalize xs.getD k 0 = x at *
        generalize ys.getD k 0 = y at *
        have HG : Hid ((wr.drew.alloc (.cells #[.int .i64 (k : Int), .int .u32 y] 53)).cell? ⟨wr.drew.heap.size, 0, none⟩ = some (.int .i64 (k : Int)) ∧ (wr.drew.alloc (.cells #[.int .i64 (k : Int), .int .u32 y] 53)).cell? ⟨wr.drew.heap.size, 1, none⟩ = some (.int .u32 y)) := pair_cell wr.drew (k : Int) y
        have HOA : Hid (Lw (wr.drew.alloc (.cells #[.int .i64 (k : Int), .int .u32 y] 53)) w1.heap.size V (dif xs ys k)) := Lw.alloc (w := wr.drew) HO.out _
        have HSZ : Hid (w1.heap.size ≤ (wr.drew.alloc (.cells #[.int .i64 (k : Int), .int .u32 y] 53)).heap.size) := alloc_le (w := wr.drew) HB.out.size _
        go_wp2_with fail
        go_region
        go_wp2_with (first
          | (at_builtin; refine wp_write rfl _ _ rfl w1.heap.size wr.drew.heap.size _ (dif xs ys k) ⟨(k : Int), y⟩ rfl rfl HOA.out HG.out HLN.out HSZ.out ?_)
          | go_in)
        intro v' w4 hL4 hg4
        have HL4 : Hid (Lw w4 w1.heap.size v' (dif xs ys (k + 1))) := by rw [HD.out]; exact hL4
        have HB4 : Hid (Below w1.heap.size w1 w4) := own_bel HOA.out hg4 (HB.out.drew.alloc HB.out.size _) (Nat.le_refl _) HSZ.out
        clear hL4 hg4 HOA HO HB HG HSZ HD
        go_wp2_with fail
        go_roundw
        case rel => exact ⟨k + 1, _, rfl, by omega, by go_num, HL4.out, HB4.out⟩
        case measure => simp [intOf]; omega
    · obtain rfl : k = n := by omega
      go_wp2_with fail
      go_ret2
      exact GaveL.mk HO.out HB.out

theorem differs_no (a b : Option Addr) (n m c1 c2 : Nat) (w : World) (h : n = 0 ∨ 2048 < n ∨ n ≠ m) :
    Calls Tryz.prog 50 #[.slice a n c1, .slice b m c2] w fun e w' => GaveL w [] 1 e w' := by
  by_cases h0 : n = 0 ∨ 2048 < n
  · have HM : Hid (∀ W, Calls Tryz.prog 77 #[.int .i64 (n : Int), .int .i64 1, .int .i64 2048] W fun e w' => e = .returned (.bool false) ∧ w' = W) := fun W => in_no _ _ _ W (by omega)
    clear h h0
    go_enter Tryz.func50, Tryz.ntmps50
    go_wp2_with fail
    refine (HM.out _).mono ?_
    rintro e w1 ⟨rfl, rfl⟩
    go_wp2_with fail
    go_ret2
    exact GaveL.mk (Lw.zero _ _) (Below.refl _ _)
  · have HM : Hid (∀ W, Calls Tryz.prog 77 #[.int .i64 (n : Int), .int .i64 1, .int .i64 2048] W fun e w' => e = .returned (.bool true) ∧ w' = W) := fun W => in_yes _ _ _ W (by omega) (by omega)
    have hne : ((n : Int) != (m : Int)) = true := by simp; omega
    clear h h0
    go_enter Tryz.func50, Tryz.ntmps50
    go_wp2_with fail
    refine (HM.out _).mono ?_
    rintro e w1 ⟨rfl, rfl⟩
    go_wp2_with fail
    go_ret2
    exact GaveL.mk (Lw.zero _ _) (Below.refl _ _)

end Go.Proofs.YtgipkpkjoicehaaGreatDoor.cell

/- The writes of a step, as the document says. -/
namespace Go.Proofs.YtgipkpkjoicehaaGreatDoor.pkt
open Go.RowKit Go.Proofs.YtgipkpkjoicehaaGreatDoor.met Go.Proofs.YtgipkpkjoicehaaGreatDoor.slot Go.Proofs.YtgipkpkjoicehaaGreatDoor.cell
set_option maxRecDepth 100000
set_option linter.unusedVariables false
set_option linter.unusedSimpArgs false

theorem dif_self (a : List Int) (k : Nat) : dif a a k = [] := by
  induction k with
  | zero => rfl
  | succ k ih => rw [dif_same rfl, ih]
theorem dif_zero {m m' : Mt} (h : m.may) (h' : m'.may) (e : (dif (wds m) (wds m') 5).length = 0) : m' = m := by
  have h0 : dif (wds m) (wds m') 5 = [] := List.eq_nil_of_length_eq_zero e
  have h1 := dif_back (wds m) (wds m') rfl
  rw [wds_len, h0] at h1
  exact (wds_inj h h' h1).symm
set_option maxHeartbeats 1000000 in
theorem stored_one (a : Option Addr) (cap : Nat) (xs : List Int) (m m' : Mt) (w : World) (h : RowU w a 12 xs) (hwh : which xs 5 ≤ 1) (hm0 : Mw m) (hm : Mw m') (he : m' = m) :
    Calls Tryz.prog 19 #[.slice a 12 cap, m.v, m'.v] w fun e w' => WritesPost w xs m m' e w' := by
  have HE : Hid (m' = m) := he
  have HW0 : Hid (∀ W, Calls Tryz.prog 49 #[m.v] W fun e w' => met.WordsPost W m e w') := fun W => worded_any m W hm0.b
  have HW1 : Hid (∀ W, Calls Tryz.prog 49 #[m'.v] W fun e w' => met.WordsPost W m' e w') := fun W => worded_any m' W hm.b
  have HDF : Hid (∀ W r1 c1 r2 c2, RowU W r1 5 (wds m) → RowU W r2 5 (wds m') → Calls Tryz.prog 50 #[.slice r1 5 c1, .slice r2 5 c2] W fun e w' => GaveL W (dif (wds m) (wds m') 5) 0 e w') := fun W r1 c1 r2 c2 k1 k2 => differs_yes r1 r2 5 c1 c2 _ _ W k1 k2 (by decide) (by decide)
  have HOK : Hid (Mt.may m ∧ Mt.may m') := ⟨hm0.may, hm.may⟩
  have HDL : Hid ((dif (wds m) (wds m') 5).length = 0) := by show _ = _; rw [he, dif_self]; rfl
  clear h hwh hm hm0 he
  generalize hD : dif (wds m) (wds m') 5 = D at *
  clear hD
  obtain ⟨me, rev, cr, h, b, bad, lock⟩ := m
  obtain ⟨me1, rev1, cr1, h1, b1, bad1, lock1⟩ := m'
  unfold Mt.v Mt.cells at *
  simp only [] at HW0 HW1 ⊢
  have H0m : Hid (Blk ((w.alloc (.cells #[.int .i64 me, .int .i64 rev, .int .i64 cr, .int .i64 h, .int .u64 (b : Int), .int .i64 bad, .int .i64 lock] 40)).alloc (.cells #[.int .i64 me1, .int .i64 rev1, .int .i64 cr1, .int .i64 h1, .int .u64 (b1 : Int), .int .i64 bad1, .int .i64 lock1] 40)) (w.heap.size) #[.int .i64 me, .int .i64 rev, .int .i64 cr, .int .i64 h, .int .u64 (b : Int), .int .i64 bad, .int .i64 lock] 40) := (Blk.new w _ _).alloc _
  have H0n : Hid (Blk ((w.alloc (.cells #[.int .i64 me, .int .i64 rev, .int .i64 cr, .int .i64 h, .int .u64 (b : Int), .int .i64 bad, .int .i64 lock] 40)).alloc (.cells #[.int .i64 me1, .int .i64 rev1, .int .i64 cr1, .int .i64 h1, .int .u64 (b1 : Int), .int .i64 bad1, .int .i64 lock1] 40)) (w.heap.size + 1) #[.int .i64 me1, .int .i64 rev1, .int .i64 cr1, .int .i64 h1, .int .u64 (b1 : Int), .int .i64 bad1, .int .i64 lock1] 40) := Blk.new1 w _ _ _
  have H0B : Hid (Below w.heap.size w ((w.alloc (.cells #[.int .i64 me, .int .i64 rev, .int .i64 cr, .int .i64 h, .int .u64 (b : Int), .int .i64 bad, .int .i64 lock] 40)).alloc (.cells #[.int .i64 me1, .int .i64 rev1, .int .i64 cr1, .int .i64 h1, .int .u64 (b1 : Int), .int .i64 bad1, .int .i64 lock1] 40))) := ((Below.refl w.heap.size w).alloc (by simp) _).alloc (by simp) _
  go_enter Tryz.func19, Tryz.ntmps19
  go_wp2_with (first
    | (refine wp_whole rfl 40 _ rfl (w.heap.size) rfl 40 #[.int .i64 me, .int .i64 rev, .int .i64 cr, .int .i64 h, .int .u64 (b : Int), .int .i64 bad, .int .i64 lock] _ H0m.out Tryz.underlying40 rfl (by kernel_rfl) ?_)
    | (refine wp_wholeG (by rfl) 40 _ rfl (w.heap.size) rfl 40 #[.int .i64 me, .int .i64 rev, .int .i64 cr, .int .i64 h, .int .u64 (b : Int), .int .i64 bad, .int .i64 lock] _ H0m.out Tryz.underlying40 rfl (by kernel_rfl) ?_)
    | (refine wp_whole rfl 40 _ rfl (w.heap.size + 1) rfl 40 #[.int .i64 me1, .int .i64 rev1, .int .i64 cr1, .int .i64 h1, .int .u64 (b1 : Int), .int .i64 bad1, .int .i64 lock1] _ H0n.out Tryz.underlying40 rfl (by kernel_rfl) ?_)
    | (refine wp_wholeG (by rfl) 40 _ rfl (w.heap.size + 1) rfl 40 #[.int .i64 me1, .int .i64 rev1, .int .i64 cr1, .int .i64 h1, .int .u64 (b1 : Int), .int .i64 bad1, .int .i64 lock1] _ H0n.out Tryz.underlying40 rfl (by kernel_rfl) ?_)
    | fail)
  refine (HW0.out _).mono ?_
  rintro e w1 ⟨x1, n1, c1, zs, f1, rfl, hr1, _, _, hi1, hb1⟩
  have H1m : Hid (Blk w1 (w.heap.size) #[.int .i64 me, .int .i64 rev, .int .i64 cr, .int .i64 h, .int .u64 (b : Int), .int .i64 bad, .int .i64 lock] 40) := H0m.out.next hb1
  have H1n : Hid (Blk w1 (w.heap.size + 1) #[.int .i64 me1, .int .i64 rev1, .int .i64 cr1, .int .i64 h1, .int .u64 (b1 : Int), .int .i64 bad1, .int .i64 lock1] 40) := H0n.out.next hb1
  have H1B : Hid (Below w.heap.size w w1) := bel_step H0B.out hb1
  obtain ⟨rfl, rfl⟩ := hi1.one (WordsIs.ok HOK.out.1)
  obtain rfl : n1 = 5 := hr1.1.symm.trans rfl
  have HX : Hid (RowU w1 x1 5 (wds ⟨me, rev, cr, h, b, bad, lock⟩)) := hr1
  clear H0m H0n H0B hb1 hr1 hi1 HW0
  go_wp2_with (first
    | (refine wp_whole rfl 40 _ rfl (w.heap.size) rfl 40 #[.int .i64 me, .int .i64 rev, .int .i64 cr, .int .i64 h, .int .u64 (b : Int), .int .i64 bad, .int .i64 lock] _ H1m.out Tryz.underlying40 rfl (by kernel_rfl) ?_)
    | (refine wp_wholeG (by rfl) 40 _ rfl (w.heap.size) rfl 40 #[.int .i64 me, .int .i64 rev, .int .i64 cr, .int .i64 h, .int .u64 (b : Int), .int .i64 bad, .int .i64 lock] _ H1m.out Tryz.underlying40 rfl (by kernel_rfl) ?_)
    | (refine wp_whole rfl 40 _ rfl (w.heap.size + 1) rfl 40 #[.int .i64 me1, .int .i64 rev1, .int .i64 cr1, .int .i64 h1, .int .u64 (b1 : Int), .int .i64 bad1, .int .i64 lock1] _ H1n.out Tryz.underlying40 rfl (by kernel_rfl) ?_)
    | (refine wp_wholeG (by rfl) 40 _ rfl (w.heap.size + 1) rfl 40 #[.int .i64 me1, .int .i64 rev1, .int .i64 cr1, .int .i64 h1, .int .u64 (b1 : Int), .int .i64 bad1, .int .i64 lock1] _ H1n.out Tryz.underlying40 rfl (by kernel_rfl) ?_)
    | fail)
  refine (HW1.out _).mono ?_
  rintro e w2 ⟨x2, n2, c2, zs, f2, rfl, hr2, _, _, hi2, hb2⟩
  have H2m : Hid (Blk w2 (w.heap.size) #[.int .i64 me, .int .i64 rev, .int .i64 cr, .int .i64 h, .int .u64 (b : Int), .int .i64 bad, .int .i64 lock] 40) := H1m.out.next hb2
  have H2n : Hid (Blk w2 (w.heap.size + 1) #[.int .i64 me1, .int .i64 rev1, .int .i64 cr1, .int .i64 h1, .int .u64 (b1 : Int), .int .i64 bad1, .int .i64 lock1] 40) := H1n.out.next hb2
  have H2B : Hid (Below w.heap.size w w2) := bel_step H1B.out hb2
  obtain ⟨rfl, rfl⟩ := hi2.one (WordsIs.ok HOK.out.2)
  obtain rfl : n2 = 5 := hr2.1.symm.trans rfl
  have HY : Hid (RowU w2 x2 5 (wds ⟨me1, rev1, cr1, h1, b1, bad1, lock1⟩)) := hr2
  have HX2 : Hid (RowU w2 x1 5 (wds ⟨me, rev, cr, h, b, bad, lock⟩)) := HX.out.below hb2
  clear H1m H1n H1B hb2 hr2 hi2 HW1 HX
  go_wp2_with fail
  refine (HDF.out _ _ _ _ _ HX2.out HY.out).mono ?_
  rintro e w3 ⟨v3, rfl, hv3, hb3⟩
  have H3m : Hid (Blk w3 (w.heap.size) #[.int .i64 me, .int .i64 rev, .int .i64 cr, .int .i64 h, .int .u64 (b : Int), .int .i64 bad, .int .i64 lock] 40) := H2m.out.next hb3
  have H3n : Hid (Blk w3 (w.heap.size + 1) #[.int .i64 me1, .int .i64 rev1, .int .i64 cr1, .int .i64 h1, .int .u64 (b1 : Int), .int .i64 bad1, .int .i64 lock1] 40) := H2n.out.next hb3
  have H3B : Hid (Below w.heap.size w w3) := bel_step H2B.out hb3
  obtain ⟨x3, c3, rfl, hr3, hn3, hc3, _⟩ := hv3.row
  have HY3 : Hid (RowU w3 x2 5 (wds ⟨me1, rev1, cr1, h1, b1, bad1, lock1⟩)) := HY.out.below hb3
  have hdl := HDL.out
  rw [hdl]
  clear H2m H2n H2B hb3 hv3 hr3 hn3 hc3 hdl HDF HX2 HY HDL
  go_wp2_with fail
  go_ret
  exact ⟨none, 0, 0, [], rfl, Wg.none _, .inl ⟨HE.out, rfl⟩, H3B.out⟩
set_option maxHeartbeats 1000000 in
theorem stored_two (a : Option Addr) (cap : Nat) (xs : List Int) (m m' : Mt) (w : World) (h : RowU w a 12 xs) (hwh : which xs 5 ≤ 1) (hm0 : Mw m) (hm : Mw m') (he : m' ≠ m) :
    Calls Tryz.prog 19 #[.slice a 12 cap, m.v, m'.v] w fun e w' => WritesPost w xs m m' e w' := by
  have HE : Hid (m' ≠ m) := he
  have HW0 : Hid (∀ W, Calls Tryz.prog 49 #[m.v] W fun e w' => met.WordsPost W m e w') := fun W => worded_any m W hm0.b
  have HW1 : Hid (∀ W, Calls Tryz.prog 49 #[m'.v] W fun e w' => met.WordsPost W m' e w') := fun W => worded_any m' W hm.b
  have HDF : Hid (∀ W r1 c1 r2 c2, RowU W r1 5 (wds m) → RowU W r2 5 (wds m') → Calls Tryz.prog 50 #[.slice r1 5 c1, .slice r2 5 c2] W fun e w' => GaveL W (dif (wds m) (wds m') 5) 0 e w') := fun W r1 c1 r2 c2 k1 k2 => differs_yes r1 r2 5 c1 c2 _ _ W k1 k2 (by decide) (by decide)
  have HOK : Hid (Mt.may m ∧ Mt.may m') := ⟨hm0.may, hm.may⟩
  have HDL : Hid ((dif (wds m) (wds m') 5).length ≠ 0) := fun e => he (dif_zero hm0.may hm.may e)
  have HST : Hid (∀ W r c2, Below w.heap.size w W → RowU W r 5 (wds m') → Calls Tryz.prog 51 #[.slice a 12 cap, .slice r 5 c2] W fun e w' => GaveL W (sto xs (wds m') 5) 0 e w') := fun W r c2 hB hr => sstored_yes a r 12 cap 5 c2 _ xs (wds m') W (h.below hB) hr (by decide) (by decide) rfl rfl hwh
  clear h hwh hm hm0 he
  generalize hD : dif (wds m) (wds m') 5 = D at *
  clear hD
  obtain ⟨me, rev, cr, h, b, bad, lock⟩ := m
  obtain ⟨me1, rev1, cr1, h1, b1, bad1, lock1⟩ := m'
  unfold Mt.v Mt.cells at *
  simp only [] at HW0 HW1 ⊢
  have H0m : Hid (Blk ((w.alloc (.cells #[.int .i64 me, .int .i64 rev, .int .i64 cr, .int .i64 h, .int .u64 (b : Int), .int .i64 bad, .int .i64 lock] 40)).alloc (.cells #[.int .i64 me1, .int .i64 rev1, .int .i64 cr1, .int .i64 h1, .int .u64 (b1 : Int), .int .i64 bad1, .int .i64 lock1] 40)) (w.heap.size) #[.int .i64 me, .int .i64 rev, .int .i64 cr, .int .i64 h, .int .u64 (b : Int), .int .i64 bad, .int .i64 lock] 40) := (Blk.new w _ _).alloc _
  have H0n : Hid (Blk ((w.alloc (.cells #[.int .i64 me, .int .i64 rev, .int .i64 cr, .int .i64 h, .int .u64 (b : Int), .int .i64 bad, .int .i64 lock] 40)).alloc (.cells #[.int .i64 me1, .int .i64 rev1, .int .i64 cr1, .int .i64 h1, .int .u64 (b1 : Int), .int .i64 bad1, .int .i64 lock1] 40)) (w.heap.size + 1) #[.int .i64 me1, .int .i64 rev1, .int .i64 cr1, .int .i64 h1, .int .u64 (b1 : Int), .int .i64 bad1, .int .i64 lock1] 40) := Blk.new1 w _ _ _
  have H0B : Hid (Below w.heap.size w ((w.alloc (.cells #[.int .i64 me, .int .i64 rev, .int .i64 cr, .int .i64 h, .int .u64 (b : Int), .int .i64 bad, .int .i64 lock] 40)).alloc (.cells #[.int .i64 me1, .int .i64 rev1, .int .i64 cr1, .int .i64 h1, .int .u64 (b1 : Int), .int .i64 bad1, .int .i64 lock1] 40))) := ((Below.refl w.heap.size w).alloc (by simp) _).alloc (by simp) _
  go_enter Tryz.func19, Tryz.ntmps19
  go_wp2_with (first
    | (refine wp_whole rfl 40 _ rfl (w.heap.size) rfl 40 #[.int .i64 me, .int .i64 rev, .int .i64 cr, .int .i64 h, .int .u64 (b : Int), .int .i64 bad, .int .i64 lock] _ H0m.out Tryz.underlying40 rfl (by kernel_rfl) ?_)
    | (refine wp_wholeG (by rfl) 40 _ rfl (w.heap.size) rfl 40 #[.int .i64 me, .int .i64 rev, .int .i64 cr, .int .i64 h, .int .u64 (b : Int), .int .i64 bad, .int .i64 lock] _ H0m.out Tryz.underlying40 rfl (by kernel_rfl) ?_)
    | (refine wp_whole rfl 40 _ rfl (w.heap.size + 1) rfl 40 #[.int .i64 me1, .int .i64 rev1, .int .i64 cr1, .int .i64 h1, .int .u64 (b1 : Int), .int .i64 bad1, .int .i64 lock1] _ H0n.out Tryz.underlying40 rfl (by kernel_rfl) ?_)
    | (refine wp_wholeG (by rfl) 40 _ rfl (w.heap.size + 1) rfl 40 #[.int .i64 me1, .int .i64 rev1, .int .i64 cr1, .int .i64 h1, .int .u64 (b1 : Int), .int .i64 bad1, .int .i64 lock1] _ H0n.out Tryz.underlying40 rfl (by kernel_rfl) ?_)
    | fail)
  refine (HW0.out _).mono ?_
  rintro e w1 ⟨x1, n1, c1, zs, f1, rfl, hr1, _, _, hi1, hb1⟩
  have H1m : Hid (Blk w1 (w.heap.size) #[.int .i64 me, .int .i64 rev, .int .i64 cr, .int .i64 h, .int .u64 (b : Int), .int .i64 bad, .int .i64 lock] 40) := H0m.out.next hb1
  have H1n : Hid (Blk w1 (w.heap.size + 1) #[.int .i64 me1, .int .i64 rev1, .int .i64 cr1, .int .i64 h1, .int .u64 (b1 : Int), .int .i64 bad1, .int .i64 lock1] 40) := H0n.out.next hb1
  have H1B : Hid (Below w.heap.size w w1) := bel_step H0B.out hb1
  obtain ⟨rfl, rfl⟩ := hi1.one (WordsIs.ok HOK.out.1)
  obtain rfl : n1 = 5 := hr1.1.symm.trans rfl
  have HX : Hid (RowU w1 x1 5 (wds ⟨me, rev, cr, h, b, bad, lock⟩)) := hr1
  clear H0m H0n H0B hb1 hr1 hi1 HW0
  go_wp2_with (first
    | (refine wp_whole rfl 40 _ rfl (w.heap.size) rfl 40 #[.int .i64 me, .int .i64 rev, .int .i64 cr, .int .i64 h, .int .u64 (b : Int), .int .i64 bad, .int .i64 lock] _ H1m.out Tryz.underlying40 rfl (by kernel_rfl) ?_)
    | (refine wp_wholeG (by rfl) 40 _ rfl (w.heap.size) rfl 40 #[.int .i64 me, .int .i64 rev, .int .i64 cr, .int .i64 h, .int .u64 (b : Int), .int .i64 bad, .int .i64 lock] _ H1m.out Tryz.underlying40 rfl (by kernel_rfl) ?_)
    | (refine wp_whole rfl 40 _ rfl (w.heap.size + 1) rfl 40 #[.int .i64 me1, .int .i64 rev1, .int .i64 cr1, .int .i64 h1, .int .u64 (b1 : Int), .int .i64 bad1, .int .i64 lock1] _ H1n.out Tryz.underlying40 rfl (by kernel_rfl) ?_)
    | (refine wp_wholeG (by rfl) 40 _ rfl (w.heap.size + 1) rfl 40 #[.int .i64 me1, .int .i64 rev1, .int .i64 cr1, .int .i64 h1, .int .u64 (b1 : Int), .int .i64 bad1, .int .i64 lock1] _ H1n.out Tryz.underlying40 rfl (by kernel_rfl) ?_)
    | fail)
  refine (HW1.out _).mono ?_
  rintro e w2 ⟨x2, n2, c2, zs, f2, rfl, hr2, _, _, hi2, hb2⟩
  have H2m : Hid (Blk w2 (w.heap.size) #[.int .i64 me, .int .i64 rev, .int .i64 cr, .int .i64 h, .int .u64 (b : Int), .int .i64 bad, .int .i64 lock] 40) := H1m.out.next hb2
  have H2n : Hid (Blk w2 (w.heap.size + 1) #[.int .i64 me1, .int .i64 rev1, .int .i64 cr1, .int .i64 h1, .int .u64 (b1 : Int), .int .i64 bad1, .int .i64 lock1] 40) := H1n.out.next hb2
  have H2B : Hid (Below w.heap.size w w2) := bel_step H1B.out hb2
  obtain ⟨rfl, rfl⟩ := hi2.one (WordsIs.ok HOK.out.2)
  obtain rfl : n2 = 5 := hr2.1.symm.trans rfl
  have HY : Hid (RowU w2 x2 5 (wds ⟨me1, rev1, cr1, h1, b1, bad1, lock1⟩)) := hr2
  have HX2 : Hid (RowU w2 x1 5 (wds ⟨me, rev, cr, h, b, bad, lock⟩)) := HX.out.below hb2
  clear H1m H1n H1B hb2 hr2 hi2 HW1 HX
  go_wp2_with fail
  refine (HDF.out _ _ _ _ _ HX2.out HY.out).mono ?_
  rintro e w3 ⟨v3, rfl, hv3, hb3⟩
  have H3m : Hid (Blk w3 (w.heap.size) #[.int .i64 me, .int .i64 rev, .int .i64 cr, .int .i64 h, .int .u64 (b : Int), .int .i64 bad, .int .i64 lock] 40) := H2m.out.next hb3
  have H3n : Hid (Blk w3 (w.heap.size + 1) #[.int .i64 me1, .int .i64 rev1, .int .i64 cr1, .int .i64 h1, .int .u64 (b1 : Int), .int .i64 bad1, .int .i64 lock1] 40) := H2n.out.next hb3
  have H3B : Hid (Below w.heap.size w w3) := bel_step H2B.out hb3
  obtain ⟨x3, c3, rfl, hr3, hn3, hc3, _⟩ := hv3.row
  have HY3 : Hid (RowU w3 x2 5 (wds ⟨me1, rev1, cr1, h1, b1, bad1, lock1⟩)) := HY.out.below hb3
  have hdl := HDL.out
  generalize D.length = dn at *
  have hq : ((dn : Int) == 0) = false := by simp; omega
  clear H2m H2n H2B hb3 hv3 hr3 hn3 hc3 hdl HDF HX2 HY HDL
  go_wp2_with fail
  refine (HST.out _ _ _ H3B.out HY3.out).mono ?_
  rintro e w4 ⟨v4, rfl, hv4, hb4⟩
  have H4m : Hid (Blk w4 (w.heap.size) #[.int .i64 me, .int .i64 rev, .int .i64 cr, .int .i64 h, .int .u64 (b : Int), .int .i64 bad, .int .i64 lock] 40) := H3m.out.next hb4
  have H4n : Hid (Blk w4 (w.heap.size + 1) #[.int .i64 me1, .int .i64 rev1, .int .i64 cr1, .int .i64 h1, .int .u64 (b1 : Int), .int .i64 bad1, .int .i64 lock1] 40) := H3n.out.next hb4
  have H4B : Hid (Below w.heap.size w w4) := bel_step H3B.out hb4
  obtain ⟨x4, c4, rfl, hr4, hn4, hc4, _⟩ := hv4.row
  have HL4 : Hid ((sto xs (wds ⟨me1, rev1, cr1, h1, b1, bad1, lock1⟩) 5).length = 7) := sto_len _ _ _
  have hl4 := HL4.out
  rw [hl4] at hr4 hc4
  rw [hl4]
  have HW4 : Hid (Wg w4 x4 7 c4 (sto xs (wds ⟨me1, rev1, cr1, h1, b1, bad1, lock1⟩) 5)) := ⟨hr4, hn4, hc4, by decide⟩
  clear H3m H3n H3B hb4 hv4 hr4 hn4 hc4 hl4 HL4 HST HY3 hq
  go_wp2_with fail
  go_ret
  exact ⟨x4, 7, c4, _, rfl, HW4.out, .inr ⟨HE.out, rfl⟩, H4B.out⟩
open Classical in
theorem stored_any (a : Option Addr) (cap : Nat) (xs : List Int) (m m' : Mt) (w : World) (h : RowU w a 12 xs) (hwh : which xs 5 ≤ 1) (hm0 : Mw m) (hm : Mw m') :
    Calls Tryz.prog 19 #[.slice a 12 cap, m.v, m'.v] w fun e w' => WritesPost w xs m m' e w' := by
  by_cases he : m' = m
  · exact stored_one a cap xs m m' w h hwh hm0 hm he
  · exact stored_two a cap xs m m' w h hwh hm0 hm he

end Go.Proofs.YtgipkpkjoicehaaGreatDoor.pkt

/- QuoRem of numbers not below 0. -/
namespace Go.Proofs.YtgipkpkjoicehaaGreatDoor.words
open Go.RowKit
set_option maxRecDepth 100000

theorem dig_small {d : Nat} (h0 : 0 < d) (h : d < 4294967296) : (dig d).length = 1 := by
  rw [dig_pos (by omega), List.length_cons, Nat.div_eq_of_lt h, dig_zero]; rfl

theorem div_small (M d : Nat) (h0 : 0 < d) (hd : d < 4294967296) (hM : (dig M).length ≤ 60) : ∀ w' xa xn xc ya yn yc, Ru w' xa xn xc (dig M) → Ru w' ya yn yc (dig d) → Calls Tryz.prog 75 #[.slice xa xn xc, .slice ya yn yc] w' fun e w'' => DivGives w' (M / d) (M % d) e w'' := by
  intro w' xa xn xc ya yn yc hx hy
  have ey := hy.len
  rw [dig_small h0 hd] at ey
  subst ey
  have ex := hx.len
  by_cases h : M < d
  · have := div_less xa ya xn 1 xc yc M d w' hx hy (by omega) (by omega) h
    rw [Nat.div_eq_of_lt h, Nat.mod_eq_of_lt h]
    exact this
  · by_cases h2 : xn ≤ 2
    · exact div_two xa ya xn 1 xc yc M d w' hx hy h2 h0 (by omega)
    · exact div_one xa ya xn xc yc M d w' hx hy (by omega) (by omega)

/-- QuoRem of numbers not below 0. -/
theorem quoRem_any (z x y r M d : Nat) (w : World) (hx : Bg w x M) (hy : Bg w y d) (hz : Ob w z) (hr : Ob w r) (hzr : r ≠ z) (h0 : 0 < d) (hd : d < 4294967296) (hM : (dig M).length ≤ 60) :
    Calls Tryz.prog 39 #[.pointer (some ⟨z, 0, none⟩), .pointer (some ⟨x, 0, none⟩), .pointer (some ⟨y, 0, none⟩), .pointer (some ⟨r, 0, none⟩)] w fun e w' => QuoPost w z r (M / d) (M % d) e w' := by
  obtain ⟨xa, xn, xc, x0, x1, xr⟩ := hx.parts
  obtain ⟨ya, yn, yc, y0, y1, yr⟩ := hy.parts
  exact quo_of z x y r _ _ xa ya xn xc yn yc w x0 x1 y0 y1 hz hr hzr fun w' hb => div_small M d h0 hd hM w' xa xn xc ya yn yc (xr.below hb) (yr.below hb)

end Go.Proofs.YtgipkpkjoicehaaGreatDoor.words

/- BitLen, Sign and Int64 of numbers not below 0. -/
namespace Go.Proofs.YtgipkpkjoicehaaGreatDoor.words
open Go.RowKit
set_option maxRecDepth 100000

theorem bitLen_any (z m : Nat) (w : World) (hg : Bg w z m) (hm : (dig m).length ≤ 100) :
    Calls Tryz.prog 38 #[.pointer (some ⟨z, 0, none⟩)] w fun e w' => LenPost w m e w' := by
  obtain ⟨xa, xn, xc, x0, x1, xr⟩ := hg.parts
  have HL : Hid (Calls Tryz.prog 74 #[.slice xa xn xc] w fun e w' => LenPost w m e w') := length_any xa xn xc m w xr (by rw [← xr.len]; exact hm)
  clear hg xr hm
  go_enter Tryz.func38, Tryz.ntmps38
  go_wp2_with fail
  refine HL.out.mono ?_
  rintro e w1 ⟨rfl, L, rfl, hL⟩
  have HP : Hid (LenPost w1 m (.returned (.int .i64 ((L : Nat) : Int))) w1) := ⟨rfl, L, rfl, hL⟩
  clear hL
  go_wp2_with fail
  go_ret
  exact HP.out

/-- More than n bits. -/
theorem bits_gt {m L n : Nat} (h : BitsOf m L) : n < L ↔ 2 ^ n ≤ m := by
  constructor
  · intro hl
    have h0 : 0 < m := by
      rcases Nat.eq_zero_or_pos m with e | e
      · have := h.2.1 e; omega
      · exact e
    exact Nat.le_trans (Nat.pow_le_pow_right (by decide) (by omega)) (h.2.2 h0).2
  · intro hm
    rcases Nat.lt_or_ge n L with h1 | h1
    · exact h1
    · have h2 : (2 : Nat) ^ L ≤ 2 ^ n := Nat.pow_le_pow_right (by decide) h1
      have := h.1
      omega

theorem sign_zero (z : Nat) (w : World) (hg : Bg w z 0) :
    Calls Tryz.prog 40 #[.pointer (some ⟨z, 0, none⟩)] w fun e w' => e = .returned (.int .i64 0) ∧ w' = w := by
  obtain ⟨xa, xn, xc, x0, x1, xr⟩ := hg.parts
  have hn : xn = 0 := by have := xr.len; rw [dig_zero] at this; simpa using this.symm
  subst hn
  clear hg xr
  go_enter Tryz.func40, Tryz.ntmps40
  go_wp2_with fail
  go_ret
  exact ⟨rfl, rfl⟩
theorem sign_pos (z m : Nat) (w : World) (hg : Bg w z m) (hm : m ≠ 0) :
    Calls Tryz.prog 40 #[.pointer (some ⟨z, 0, none⟩)] w fun e w' => e = .returned (.int .i64 1) ∧ w' = w := by
  obtain ⟨xa, xn, xc, x0, x1, xr⟩ := hg.parts
  have hlen := xr.len
  have hn : xn ≠ 0 := by
    intro h0
    have h1 := nv_dig m
    rw [List.eq_nil_of_length_eq_zero (by omega : (dig m).length = 0)] at h1
    exact hm h1.symm
  have hb : ((xn : Int) == 0) = false := beq_eq_false_iff_ne.2 (by omega)
  clear hg xr hn hlen hm
  go_enter Tryz.func40, Tryz.ntmps40
  go_wp2_with fail
  go_ret
  exact ⟨rfl, rfl⟩
theorem int64_any (z m : Nat) (w : World) (hg : Bg w z m) (hm : m < 9223372036854775808) :
    Calls Tryz.prog 41 #[.pointer (some ⟨z, 0, none⟩)] w fun e w' => e = .returned (.int .i64 (m : Int)) ∧ w' = w := by
  obtain ⟨xa, xn, xc, x0, x1, xr⟩ := hg.parts
  have HU : Hid (Calls Tryz.prog 76 #[.pointer (some ⟨z, 0, none⟩)] w fun e w' => e = .returned (.int .u64 (m : Int)) ∧ w' = w) := uint64_any z m w hg (by omega)
  have hwr : IntKind.i64.wrap (m : Int) = (m : Int) := by rw [IntKind.wrap_i64]; omega
  clear hg xr
  go_enter Tryz.func41, Tryz.ntmps41
  go_wp2_with fail
  refine HU.out.mono ?_
  rintro e w1 ⟨rfl, rfl⟩
  go_wp2_with fail
  go_ret
  exact ⟨rfl, rfl⟩

end Go.Proofs.YtgipkpkjoicehaaGreatDoor.words

/- The document's answer to Parse. -/
namespace Go.Proofs.YtgipkpkjoicehaaGreatDoor.token
open Go.Proofs.YtgipkpkjoicehaaGreatDoor.words Go.Proofs.YtgipkpkjoicehaaGreatDoor.check
open Go.RowKit
set_option maxRecDepth 100000
set_option linter.unusedSimpArgs false
set_option linter.unusedVariables false

theorem digit_yes (z : Int) (w : World) (h1 : 48 ≤ z) (h2 : z ≤ 57) :
    Calls Tryz.prog 34 #[.int .u8 z] w fun e w' => e = .returned (.bool true) ∧ w' = w := by
  go_enter Tryz.func34, Tryz.ntmps34
  go_wp2
  go_ret
  exact ⟨rfl, rfl⟩
theorem digit_no (z : Int) (w : World) (h : z < 48 ∨ 57 < z) :
    Calls Tryz.prog 34 #[.int .u8 z] w fun e w' => e = .returned (.bool false) ∧ w' = w := by
  by_cases h0 : z < 48
  · clear h
    go_enter Tryz.func34, Tryz.ntmps34
    go_wp2
    go_ret
    exact ⟨rfl, rfl⟩
  · have h1 : 48 ≤ z := by omega
    have h2 : decide (z ≤ 57) = false := by simp; omega
    clear h h0
    go_enter Tryz.func34, Tryz.ntmps34
    go_wp2
    go_ret
    exact ⟨rfl, rfl⟩

theorem pz_ex {w w' : World} {G z : Nat} {cs : Array Value} {t : TypeId} (h : Blk w G cs t) (he : Ex w w' z) (hne : G ≠ z) : Blk w' G cs t := by
  have hl := h.lt
  unfold Blk at *
  rw [he.block G hl hne]; exact h

theorem ex2_below {w0 w w' : World} {z r : Nat} (hb : Below w0.heap.size w0 w) (h : Ex2 w w' z r) (hz : w0.heap.size ≤ z) (hr : w0.heap.size ≤ r) : Below w0.heap.size w0 w' :=
  hb.trans ⟨h.os, h.tape, h.output, h.size, fun k hk => h.block k (Nat.lt_of_lt_of_le hk hb.size) (by omega) (by omega)⟩
theorem ex2_blk {w w' : World} {G z r : Nat} {cs : Array Value} {t : TypeId} (h : Blk w G cs t) (he : Ex2 w w' z r) (h1 : G ≠ z) (h2 : G ≠ r) : Blk w' G cs t := by
  have hl := h.lt
  unfold Blk at *
  rw [he.block G hl h1 h2]; exact h

/-- While the document reads digits: k of them are. -/
structure Rp (w wr : World) (M : Nat) : Prop where
  below : Below w.heap.size w wr
  res : Blk wr w.heap.size #[.int .i64 0, .int .i64 0, .int .i64 0, .int .i64 0] 44
  num : Bg wr (w.heap.size + 1) M

set_option maxHeartbeats 400000 in
theorem parsed_len (s : ByteArray) (w : World) (h : s.size ≠ 20) :
    Calls Tryz.prog 16 #[.string s] w fun e w' => e = .returned (.tuple #[noTok, .int .i64 6]) ∧ Below w.heap.size w w' := by
  have hd : ((s.size : Int) != 20) = true := by simp; omega
  have hX := Blk.new w #[.int .i64 0, .int .i64 0, .int .i64 0, .int .i64 0] 44
  have HB : Hid (Below w.heap.size w (w.alloc (.cells #[.int .i64 0, .int .i64 0, .int .i64 0, .int .i64 0] 44))) := (Below.refl _ _).alloc (Nat.le_refl _) _
  have R0 : Hid (_ = _) := hX.cell 0
  have R1 : Hid (_ = _) := hX.cell 1
  have R2 : Hid (_ = _) := hX.cell 2
  have R3 : Hid (_ = _) := hX.cell 3
  clear h hX
  go_enter Tryz.func16, Tryz.ntmps16
  go_wp2_with fail
  refine bodyPost_ret (v := .tuple #[.agg #[.int .i64 0, .int .i64 0, .int .i64 0, .int .i64 0], .int .i64 6]) (by simp [results, Tryz.results16, R0.out, R1.out, R2.out, R3.out, go_sem]) rfl ⟨rfl, HB.out⟩

set_option maxHeartbeats 4000000 in
theorem parsed_any (s : ByteArray) (w : World) (h : s.size = 20) :
    Calls Tryz.prog 16 #[.string s] w fun e w' => e = .returned (.tuple #[parseV s.data.toList, .int .i64 (parseE s.data.toList)]) ∧ Below w.heap.size w w' := by
  have hd : ((s.size : Int) != 20) = false := by simp; omega
  have hb0 : Below w.heap.size w ((w.alloc (.cells #[.int .i64 0, .int .i64 0, .int .i64 0, .int .i64 0] 44)).alloc (.cells #[.bool false, .slice none 0 0] 77)) := ((Below.refl _ _).alloc (Nat.le_refl _) _).alloc (by simp) _
  have HR0 : Hid (Rp w ((w.alloc (.cells #[.int .i64 0, .int .i64 0, .int .i64 0, .int .i64 0] 44)).alloc (.cells #[.bool false, .slice none 0 0] 77)) 0) :=
    ⟨hb0, (Blk.new _ _ _).alloc _, ⟨none, 0, 0, Blk.new1 _ _ _ _, by rw [dig_zero]; exact ru_nil _⟩⟩
  have HS : Hid (s.size = 20) := h
  clear h hb0
  go_enter Tryz.func16, Tryz.ntmps16
  go_wp2_with fail
  generalize ((w.alloc (.cells #[.int .i64 0, .int .i64 0, .int .i64 0, .int .i64 0] 44)).alloc (.cells #[.bool false, .slice none 0 0] 77)) = W0 at *
  go_loopw [5] (fun iv wr => ∃ k M : Nat, k ≤ 20 ∧ iv = .int .i64 (k : Int) ∧ allD (s.data.toList.take k) = true ∧ dv (s.data.toList.take k) = M ∧ Rp w wr M) (fun iv _ => 20 - (intOf iv).toNat)
  case atStart => exact ⟨0, 0, by omega, rfl, rfl, rfl, HR0.out⟩
  case round =>
    obtain ⟨k, M, hk, rfl, hok, hM, hr⟩ := hrel
    have HK : Hid (allD (s.data.toList.take k) = true ∧ dv (s.data.toList.take k) = M) := ⟨hok, hM⟩
    clear hok hM
    by_cases hp : k < 20
    · have hps : k < s.size := by have := HS.out; omega
      have hkk : (k : Int) < 20 := by omega
      have hki : (k : Int) < (s.size : Int) := by omega
      have HN : Hid (isD s[k] = false → allD s.data.toList = false) := allD_take_no s k hps
      have HL : Hid (((s[k].toNat : Nat) : Int) < 48 ∨ 57 < ((s[k].toNat : Nat) : Int) → isD s[k] = false) := fun hh => by
        rcases hh with h1 | h1
        · exact isD_lo h1
        · exact isD_hi h1
      have HA : Hid (48 ≤ ((s[k].toNat : Nat) : Int) → ((s[k].toNat : Nat) : Int) ≤ 57 → allD (s.data.toList.take (k + 1)) = true ∧ dv (s.data.toList.take (k + 1)) = M * 10 + (s[k].toNat - 48)) := fun h1 h2 => by
        refine ⟨by rw [take_snoc s k hps, allD_append, HK.out.1]; simp [allD, isD_yes h1 h2], by rw [take_snoc s k hps, dv_snoc, HK.out.2]⟩
      have HM : Hid (M < 100000000000000000000) := by
        have h1 := dv_lt _ HK.out.1
        have h2 : (s.data.toList.take k).length ≤ 20 := by rw [List.length_take, len_eq, HS.out]; omega
        rw [HK.out.2] at h1
        exact Nat.lt_of_lt_of_le h1 (Nat.pow_le_pow_right (by decide) h2)
      have HE7 : Hid (allD s.data.toList = false → parseE s.data.toList = 7 ∧ parseV s.data.toList = noTok) := fun hh => parse_dig (by rw [len_eq]; exact HS.out) hh
      obtain ⟨z, hzz⟩ : ∃ z : Nat, (s[k]'hps).toNat = z := ⟨_, rfl⟩
      rw [hzz] at HL HA
      by_cases hz : (z : Int) < 48 ∨ 57 < (z : Int)
      · obtain ⟨e1, e2⟩ := HE7.out (HN.out (HL.out hz))
        have EE : Hid (parseE s.data.toList = 7 ∧ parseV s.data.toList = noTok) := ⟨e1, e2⟩
        have HDG : Hid (∀ W, Calls Tryz.prog 34 #[.int .u8 (z : Int)] W fun e w' => e = .returned (.bool false) ∧ w' = W) := fun W => digit_no _ W hz
        have hR := hr.res
        have RR := (((hR.set 0 (.int .i64 0)).set 1 (.int .i64 0)).set 2 (.int .i64 0)).set 3 (.int .i64 0)
        have HBB : Hid (Below w.heap.size w ((((wr.setCell ⟨w.heap.size, 0, none⟩ (.int .i64 0)).setCell ⟨w.heap.size, 1, none⟩ (.int .i64 0)).setCell ⟨w.heap.size, 2, none⟩ (.int .i64 0)).setCell ⟨w.heap.size, 3, none⟩ (.int .i64 0))) := bel_set (bel_set (bel_set (bel_set hr.below _ _ _ (Nat.le_refl _)) _ _ _ (Nat.le_refl _)) _ _ _ (Nat.le_refl _)) _ _ _ (Nat.le_refl _)
        have R0 : Hid (_ = _) := RR.cell 0
        have R1 : Hid (_ = _) := RR.cell 1
        have R2 : Hid (_ = _) := RR.cell 2
        have R3 : Hid (_ = _) := RR.cell 3
        have p0 := hR.cell 0
        have p1 := hR.cell 1
        have p2 := hR.cell 2
        have p3 := hR.cell 3
        have f0 := hR.free 0
        have f1 := hR.free 1
        have f2 := hR.free 2
        have f3 := hR.free 3
        clear e1 e2 HE7 HN HL HA HM hz RR hR hr HK
        go_wp2_with fail
        refine (HDG.out _).mono ?_
        rintro e w1 ⟨rfl, rfl⟩
        go_wp2_with fail
        refine bodyPost_ret (v := .tuple #[.agg #[.int .i64 0, .int .i64 0, .int .i64 0, .int .i64 0], .int .i64 7]) (by simp [results, Tryz.results16, R0.out, R1.out, R2.out, R3.out, go_sem]) rfl ⟨by rw [EE.out.1, EE.out.2]; rfl, HBB.out⟩
      · obtain ⟨d, hzd⟩ : ∃ d : Nat, z = d + 48 := ⟨z - 48, by omega⟩
        subst hzd
        have hd9 : d ≤ 9 := by omega
        have HDG : Hid (∀ W, Calls Tryz.prog 34 #[.int .u8 ((d + 48 : Nat) : Int)] W fun e w' => e = .returned (.bool true) ∧ w' = W) := fun W => digit_yes _ W (by omega) (by omega)
        have ez : (((d + 48 : Nat) : Int)) = (d : Int) + 48 := by omega
        rw [ez] at HDG
        clear ez
        have hwz : IntKind.u8.wrap ((d : Int) + 48 - 48) = (d : Int) := by rw [IntKind.wrap_u8]; omega
        obtain ⟨M1, hM1⟩ : ∃ M1, M * 10 = M1 := ⟨_, rfl⟩
        obtain ⟨M2, hM2⟩ : ∃ M2, M1 + d = M2 := ⟨_, rfl⟩
        have HEE : Hid (M * 10 = M1 ∧ M1 + d = M2) := ⟨hM1, hM2⟩
        have HAA : Hid (allD (s.data.toList.take (k + 1)) = true ∧ dv (s.data.toList.take (k + 1)) = M2) := by
          have := HA.out (by omega) (by omega)
          rw [show d + 48 - 48 = d by omega] at this
          exact ⟨this.1, by rw [this.2]; omega⟩
        have HLL : Hid ((dig M).length ≤ 100 ∧ (dig 10).length ≤ 100 ∧ (dig M1).length ≤ 100 ∧ (dig d).length ≤ 100) := by
          have hm := HM.out
          exact ⟨len100 (Nat.lt_trans hm (by decide)), len100 (by decide), len100 (Nat.lt_of_lt_of_le (show M1 < 1000000000000000000000 by omega) (by decide)), len100 (Nat.lt_of_le_of_lt hd9 (by decide))⟩
        have HBr : Hid (Below w.heap.size w wr) := hr.below
        have HRr : Hid (Blk wr w.heap.size #[.int .i64 0, .int .i64 0, .int .i64 0, .int .i64 0] 44) := hr.res
        have HNr : Hid (Bg wr (w.heap.size + 1) M) := hr.num
        have hdb : d < 9223372036854775808 := by omega
        clear HE7 HN HL HA HM hz HK hr hM1 hM2
        go_wp2_with fail
        refine (HDG.out _).mono ?_
        rintro e w1 ⟨rfl, rfl⟩
        go_wp2_with fail
        refine (newInt_any 10 _ (by decide)).mono ?_
        rintro e w2 ⟨q2, rfl, hq2, hg2, hb2⟩
        have HB2 : Hid (Below w.heap.size w w2) := bel_step HBr.out hb2
        have HR2 : Hid (Blk w2 w.heap.size #[.int .i64 0, .int .i64 0, .int .i64 0, .int .i64 0] 44) := HRr.out.next hb2
        have N2 := HNr.out.below hb2
        have nl := HNr.out.ob.lt
        have ne2 : q2 ≠ w.heap.size + 1 := by omega
        have HN2 : Hid (Bg w2 (w.heap.size + 1) M) := N2
        have HQ2 : Hid (Bg w2 q2 10) := hg2
        clear hb2 hg2 hq2 HBr HRr N2 nl HNr
        go_wp2_with fail
        refine (Mul_any (w.heap.size + 1) (w.heap.size + 1) q2 M 10 _ HN2.out HQ2.out HN2.out.ob ne2 HLL.out.1 HLL.out.2.1).mono ?_
        rintro e w3 ⟨rfl, hg3, hx3⟩
        rw [HEE.out.1] at hg3
        have HB3 : Hid (Below w.heap.size w w3) := hx3.below HB2.out (by omega)
        have HR3 : Hid (Blk w3 w.heap.size #[.int .i64 0, .int .i64 0, .int .i64 0, .int .i64 0] 44) := pz_ex HR2.out hx3 (by omega)
        have HN3 : Hid (Bg w3 (w.heap.size + 1) M1) := hg3
        clear hg3 hx3 ne2 HB2 HR2 HN2 HQ2
        go_wp2_with fail
        refine (newInt_any d _ hdb).mono ?_
        rintro e w4 ⟨q4, rfl, hq4, hg4, hb4⟩
        have HB4 : Hid (Below w.heap.size w w4) := bel_step HB3.out hb4
        have HR4 : Hid (Blk w4 w.heap.size #[.int .i64 0, .int .i64 0, .int .i64 0, .int .i64 0] 44) := HR3.out.next hb4
        have N4 := HN3.out.below hb4
        have nl := HN3.out.ob.lt
        have ne4 : q4 ≠ w.heap.size + 1 := by omega
        have HN4 : Hid (Bg w4 (w.heap.size + 1) M1) := N4
        have HQ4 : Hid (Bg w4 q4 d) := hg4
        clear hb4 hg4 hq4 HB3 HR3 N4 nl HN3
        go_wp2_with fail
        refine (Add_any (w.heap.size + 1) (w.heap.size + 1) q4 M1 d _ HN4.out HQ4.out HN4.out.ob ne4 HLL.out.2.2.1 HLL.out.2.2.2).mono ?_
        rintro e w5 ⟨rfl, hg5, hx5⟩
        rw [HEE.out.2] at hg5
        have HRP : Hid (Rp w w5 M2) := ⟨hx5.below HB4.out (by omega), pz_ex HR4.out hx5 (by omega), hg5⟩
        clear hg5 hx5 ne4 HB4 HR4 HN4 HQ4
        go_wp2_with fail
        go_roundw
        case rel => exact ⟨k + 1, M2, by omega, by go_num, HAA.out.1, HAA.out.2, HRP.out⟩
        case measure => simp [intOf]; omega
    · have hk20 : k = 20 := by omega
      have hkt : s.data.toList.take k = s.data.toList := List.take_of_length_le (by rw [len_eq, HS.out]; omega)
      have hok : allD s.data.toList = true := by have := HK.out.1; rwa [hkt] at this
      have hMv : dv s.data.toList = M := by have := HK.out.2; rwa [hkt] at this
      have hlen : s.data.toList.length = 20 := by rw [len_eq]; exact HS.out
      have hM20 : M < 100000000000000000000 := by
        have h1 := dv_lt _ hok
        rw [hMv, hlen] at h1
        exact h1
      have hkn : ¬ (k : Int) < 20 := by omega
      have HBr : Hid (Below w.heap.size w wr) := hr.below
      have HRr : Hid (Blk wr w.heap.size #[.int .i64 0, .int .i64 0, .int .i64 0, .int .i64 0] 44) := hr.res
      have HNr : Hid (Bg wr (w.heap.size + 1) M) := hr.num
      have HBL : Hid (Calls Tryz.prog 38 #[.pointer (some ⟨w.heap.size + 1, 0, none⟩)] wr fun e w' => LenPost wr M e w') := bitLen_any _ _ _ hr.num (len100 (Nat.lt_trans hM20 (by decide)))
      by_cases hbig : 73786976294838206464 ≤ M
      · have EE : Hid (parseE s.data.toList = 2 ∧ parseV s.data.toList = noTok) := parse_big hlen hok (by rw [hMv]; exact hbig)
        have HBG : Hid (∀ L, BitsOf M L → 66 < L) := fun L hL => (bits_gt hL).2 hbig
        clear hk20 hkt hok hMv hlen hM20 hr HK HS hp
        go_wp2_with fail
        refine HBL.out.mono ?_
        rintro e w1 ⟨rfl, L, rfl, hL, hL2⟩
        have hL66 : (66 : Int) < (L : Int) := by have := HBG.out L hL; omega
        clear HBL HBG hL HNr
        have hR := HRr.out
        have hB := HBr.out
        clear HRr HBr
        have RR := (((hR.set 0 (.int .i64 0)).set 1 (.int .i64 0)).set 2 (.int .i64 0)).set 3 (.int .i64 0)
        have HBB : Hid (Below w.heap.size w (((((w1).setCell ⟨w.heap.size, 0, none⟩ (.int .i64 0)).setCell ⟨w.heap.size, 1, none⟩ (.int .i64 0)).setCell ⟨w.heap.size, 2, none⟩ (.int .i64 0)).setCell ⟨w.heap.size, 3, none⟩ (.int .i64 0))) := bel_set (bel_set (bel_set (bel_set hB _ _ _ (Nat.le_refl _)) _ _ _ (Nat.le_refl _)) _ _ _ (Nat.le_refl _)) _ _ _ (Nat.le_refl _)
        have R0 : Hid (_ = _) := RR.cell 0
        have R1 : Hid (_ = _) := RR.cell 1
        have R2 : Hid (_ = _) := RR.cell 2
        have R3 : Hid (_ = _) := RR.cell 3
        have p0 := hR.cell 0
        have p1 := hR.cell 1
        have p2 := hR.cell 2
        have p3 := hR.cell 3
        have f0 := hR.free 0
        have f1 := hR.free 1
        have f2 := hR.free 2
        have f3 := hR.free 3
        clear RR
        go_wp2_with fail
        refine bodyPost_ret (v := .tuple #[.agg #[.int .i64 0, .int .i64 0, .int .i64 0, .int .i64 0], .int .i64 2]) (by simp [results, Tryz.results16, R0.out, R1.out, R2.out, R3.out, go_sem]) rfl ⟨by rw [EE.out.1, EE.out.2]; rfl, HBB.out⟩
      · have HBG : Hid (∀ L, BitsOf M L → ¬ 66 < L) := fun L hL h => hbig ((bits_gt hL).1 h)
        have hMs : M < 73786976294838206464 := by omega
        obtain ⟨q, hq⟩ : ∃ q, M / 97 = q := ⟨_, rfl⟩
        obtain ⟨r, hrr⟩ : ∃ r, M % 97 = r := ⟨_, rfl⟩
        have hqb : q < 1152921504606846976 := by omega
        have HQB : Hid (q < 1152921504606846976) := hqb
        have HQR : Hid (∀ z y r' W, Bg W (w.heap.size + 1) M → Bg W y 97 → Ob W z → Ob W r' → r' ≠ z → Calls Tryz.prog 39 #[.pointer (some ⟨z, 0, none⟩), .pointer (some ⟨w.heap.size + 1, 0, none⟩), .pointer (some ⟨y, 0, none⟩), .pointer (some ⟨r', 0, none⟩)] W fun e w' => QuoPost W z r' q r e w') := fun z y r' W h1 h2 h3 h4 h5 => by
          rw [← hq, ← hrr]
          exact quoRem_any z (w.heap.size + 1) y r' M 97 W h1 h2 h3 h4 h5 (by decide) (by decide) (by have := dig_len (m := M) 3 (by omega); omega)
        have HPE : Hid ((r ≠ 0 → parseE s.data.toList = 8 ∧ parseV s.data.toList = noTok) ∧ (r = 0 → okB (tokOf q) = false → parseE s.data.toList = 2 ∧ parseV s.data.toList = noTok) ∧ (r = 0 → okB (tokOf q) = true → parseE s.data.toList = 0 ∧ parseV s.data.toList = (tokOf q).v)) := by
          refine ⟨fun h1 => parse_chk hlen hok (by rw [hMv]; exact hMs) (by rw [hMv, hrr]; exact h1), fun h1 h2 => parse_no hlen hok (by rw [hMv]; exact hMs) (by rw [hMv, hrr]; exact h1) (by rw [hMv, hq]; exact h2), fun h1 h2 => ?_⟩
          have := parse_ok hlen hok (by rw [hMv]; exact hMs) (by rw [hMv, hrr]; exact h1) (by rw [hMv, hq]; exact h2)
          rwa [hMv, hq] at this
        clear hk20 hkt hok hMv hlen hM20 hr HK HS hp hbig hMs hq hrr hqb
        go_wp2_with fail
        refine HBL.out.mono ?_
        rintro e w1 ⟨rfl, L, rfl, hL, hL2⟩
        have hL66 : ¬ (66 : Int) < (L : Int) := by have := HBG.out L hL; omega
        have HB2 : Hid (Below w.heap.size w (w1.alloc (.cells #[.bool false, .slice none 0 0] 77))) := HBr.out.alloc HBr.out.size _
        have HR2 : Hid (Blk (w1.alloc (.cells #[.bool false, .slice none 0 0] 77)) w.heap.size #[.int .i64 0, .int .i64 0, .int .i64 0, .int .i64 0] 44) := HRr.out.alloc _
        have HN2 : Hid (Bg (w1.alloc (.cells #[.bool false, .slice none 0 0] 77)) (w.heap.size + 1) M) := HNr.out.below ((Below.refl _ _).alloc (Nat.le_refl _) _)
        have HZ2 : Hid (Blk (w1.alloc (.cells #[.bool false, .slice none 0 0] 77)) w1.heap.size #[.bool false, .slice none 0 0] 77) := Blk.new _ _ _
        have HF2 : Hid (w.heap.size + 1 < w1.heap.size) := HNr.out.ob.lt
        clear HBL HBG hL HNr HRr HBr
        go_wp2_with fail
        refine (newInt_any 97 _ (by decide)).mono ?_
        rintro e w2 ⟨y, rfl, hy, hg2, hb2⟩
        have HB3 : Hid (Below w.heap.size w (w2.alloc (.cells #[.bool false, .slice none 0 0] 77))) := (bel_step HB2.out hb2).alloc (bel_step HB2.out hb2).size _
        have HR3 : Hid (Blk (w2.alloc (.cells #[.bool false, .slice none 0 0] 77)) w.heap.size #[.int .i64 0, .int .i64 0, .int .i64 0, .int .i64 0] 44) := (HR2.out.next hb2).alloc _
        have HN3 : Hid (Bg (w2.alloc (.cells #[.bool false, .slice none 0 0] 77)) (w.heap.size + 1) M) := (HN2.out.below hb2).below ((Below.refl _ _).alloc (Nat.le_refl _) _)
        have HY3 : Hid (Bg (w2.alloc (.cells #[.bool false, .slice none 0 0] 77)) y 97) := hg2.below ((Below.refl _ _).alloc (Nat.le_refl _) _)
        have HZ3 : Hid (Blk (w2.alloc (.cells #[.bool false, .slice none 0 0] 77)) w1.heap.size #[.bool false, .slice none 0 0] 77) := (HZ2.out.next hb2).alloc _
        have HT3 : Hid (Blk (w2.alloc (.cells #[.bool false, .slice none 0 0] 77)) w2.heap.size #[.bool false, .slice none 0 0] 77) := Blk.new _ _ _
        have HF3 : Hid (w2.heap.size ≠ w1.heap.size) := Nat.ne_of_gt (HZ2.out.next hb2).lt
        have HG3 : Hid (w.heap.size + 1 < w2.heap.size) := (HN2.out.below hb2).ob.lt
        clear hb2 hg2 hy HB2 HR2 HN2 HZ2
        go_wp2_with fail
        refine (HQR.out _ _ _ _ HN3.out HY3.out ⟨_, _, _, _, HZ3.out⟩ ⟨_, _, _, _, HT3.out⟩ HF3.out).mono ?_
        rintro e w3 ⟨rfl, hgq, hgr, hx3⟩
        have HB4 : Hid (Below w.heap.size w w3) := ex2_below HB3.out hx3 (by have := HF2.out; omega) (by have := HG3.out; omega)
        have HR4 : Hid (Blk w3 w.heap.size #[.int .i64 0, .int .i64 0, .int .i64 0, .int .i64 0] 44) := ex2_blk HR3.out hx3 (by have := HF2.out; omega) (by have := HG3.out; omega)
        have HGQ : Hid (Bg w3 w1.heap.size q) := hgq
        have HGR : Hid (Bg w3 w2.heap.size r) := hgr
        clear hx3 hgq hgr HB3 HR3 HN3 HY3 HZ3 HT3 HF3 HG3 HQR HF2
        by_cases hr0 : r = 0
        · subst hr0
          have hP2 := HPE.out.2.1 rfl
          have hP0 := HPE.out.2.2 rfl
          have HBQ : Hid (Calls Tryz.prog 38 #[.pointer (some ⟨w1.heap.size, 0, none⟩)] w3 fun e w' => LenPost w3 q e w') := bitLen_any _ _ _ HGQ.out (by have h0 := HQB.out; exact len100 (Nat.lt_trans h0 (by decide)))
          by_cases hq59 : 576460752303423488 ≤ q
          · have EE : Hid (parseE s.data.toList = 2 ∧ parseV s.data.toList = noTok) := hP2 (by
              have h0 := HQB.out
              have h1 : ¬ (tokOf q).c ≤ 3 := by show ¬ q / 144115188075855872 % 8 ≤ 3; omega
              unfold okB
              simp [h1])
            have HBG : Hid (∀ L, BitsOf q L → 59 < L) := fun L hL => (bits_gt hL).2 hq59
            clear hP2 hP0 HPE hq59 HQB
            go_wp2_with fail
            refine (sign_zero _ _ HGR.out).mono ?_
            rintro e w4 ⟨rfl, rfl⟩
            go_wp2_with fail
            refine HBQ.out.mono ?_
            rintro e w5 ⟨rfl, L', rfl, hL', hL2'⟩
            have hL59 : (59 : Int) < (L' : Int) := by have := HBG.out L' hL'; omega
            have hR := HR4.out
            have hB := HB4.out
            clear HBQ HBG hL' HR4 HB4 HGQ HGR
            have RR := (((hR.set 0 (.int .i64 0)).set 1 (.int .i64 0)).set 2 (.int .i64 0)).set 3 (.int .i64 0)
            have HBB : Hid (Below w.heap.size w (((((w5).setCell ⟨w.heap.size, 0, none⟩ (.int .i64 0)).setCell ⟨w.heap.size, 1, none⟩ (.int .i64 0)).setCell ⟨w.heap.size, 2, none⟩ (.int .i64 0)).setCell ⟨w.heap.size, 3, none⟩ (.int .i64 0))) := bel_set (bel_set (bel_set (bel_set hB _ _ _ (Nat.le_refl _)) _ _ _ (Nat.le_refl _)) _ _ _ (Nat.le_refl _)) _ _ _ (Nat.le_refl _)
            have R0 : Hid (_ = _) := RR.cell 0
            have R1 : Hid (_ = _) := RR.cell 1
            have R2 : Hid (_ = _) := RR.cell 2
            have R3 : Hid (_ = _) := RR.cell 3
            have p0 := hR.cell 0
            have p1 := hR.cell 1
            have p2 := hR.cell 2
            have p3 := hR.cell 3
            have f0 := hR.free 0
            have f1 := hR.free 1
            have f2 := hR.free 2
            have f3 := hR.free 3
            clear RR
            go_wp2_with fail
            refine bodyPost_ret (v := .tuple #[.agg #[.int .i64 0, .int .i64 0, .int .i64 0, .int .i64 0], .int .i64 2]) (by simp [results, Tryz.results16, R0.out, R1.out, R2.out, R3.out, go_sem]) rfl ⟨by rw [EE.out.1, EE.out.2]; rfl, HBB.out⟩
          · have HBG : Hid (∀ L, BitsOf q L → ¬ 59 < L) := fun L hL h => hq59 ((bits_gt hL).1 h)
            have hqs : q < 576460752303423488 := by omega
            have HI : Hid (Calls Tryz.prog 41 #[.pointer (some ⟨w1.heap.size, 0, none⟩)] w3 fun e w' => e = .returned (.int .i64 (q : Int)) ∧ w' = w3) := int64_any _ _ _ HGQ.out (by omega)
            have HQS : Hid (q < 576460752303423488) := hqs
            clear HPE hq59 HQB hqs
            have HP2 : Hid (okB (tokOf q) = false → parseE s.data.toList = 2 ∧ parseV s.data.toList = noTok) := hP2
            have HP0 : Hid (okB (tokOf q) = true → parseE s.data.toList = 0 ∧ parseV s.data.toList = (tokOf q).v) := hP0
            clear hP2 hP0
            go_wp2_with fail
            refine (sign_zero _ _ HGR.out).mono ?_
            rintro e w4 ⟨rfl, rfl⟩
            go_wp2_with fail
            refine HBQ.out.mono ?_
            rintro e w5 ⟨rfl, L', rfl, hL', hL2'⟩
            have hL59 : ¬ (59 : Int) < (L' : Int) := by have := HBG.out L' hL'; omega
            clear HBQ HBG hL'
            go_wp2_with fail
            refine HI.out.mono ?_
            rintro e w6 ⟨rfl, rfl⟩
            go_wp2_with fail
            have HTV : Hid (((tokOf q).c : Int) = (q : Int) / 144115188075855872 ∧ ((tokOf q).i : Int) = (q : Int) / 137438953472 % 1048576 ∧ ((tokOf q).a : Int) = (q : Int) / 65536 % 2097152 ∧ ((tokOf q).t : Int) = (q : Int) % 65536) := by
              have h0 := HQS.out
              refine ⟨?_, ?_, ?_, ?_⟩
              · show ((q / 144115188075855872 % 8 : Nat) : Int) = _; omega
              · show ((q / 137438953472 % 1048576 : Nat) : Int) = _; omega
              · show ((q / 65536 % 2097152 : Nat) : Int) = _; omega
              · show ((q % 65536 : Nat) : Int) = _; omega
            generalize (q : Int) / 144115188075855872 = A1 at *
            generalize (q : Int) / 137438953472 % 1048576 = A2 at *
            generalize (q : Int) / 65536 % 2097152 = A3 at *
            generalize (q : Int) % 65536 = A4 at *
            have HB7 : Hid (Below w.heap.size w (w6.alloc (.cells #[.int .i64 A1, .int .i64 A2, .int .i64 A3, .int .i64 A4] 44))) := HB4.out.alloc HB4.out.size _
            have HR7 : Hid (Blk (w6.alloc (.cells #[.int .i64 A1, .int .i64 A2, .int .i64 A3, .int .i64 A4] 44)) w.heap.size #[.int .i64 0, .int .i64 0, .int .i64 0, .int .i64 0] 44) := HR4.out.alloc _
            have HK7 : Hid (Blk (w6.alloc (.cells #[.int .i64 A1, .int .i64 A2, .int .i64 A3, .int .i64 A4] 44)) w6.heap.size #[.int .i64 A1, .int .i64 A2, .int .i64 A3, .int .i64 A4] 44) := Blk.new _ _ _
            have HVV : Hid ((tokOf q).v = .agg #[.int .i64 A1, .int .i64 A2, .int .i64 A3, .int .i64 A4]) := by
              show Value.agg #[.int .i64 ((tokOf q).c : Int), .int .i64 ((tokOf q).i : Int), .int .i64 ((tokOf q).a : Int), .int .i64 ((tokOf q).t : Int)] = _
              rw [HTV.out.1, HTV.out.2.1, HTV.out.2.2.1, HTV.out.2.2.2]
            have HFW : Hid (flawT A1 A2 A3 A4 = 0 ↔ okB (tokOf q) = true) := by
              show _ ↔ _
              rw [← HTV.out.1, ← HTV.out.2.1, ← HTV.out.2.2.1, ← HTV.out.2.2.2, flaw_tok, okB_ok]
            clear HTV HB4 HR4 HGQ HGR HI HQS
            refine (fault_any A1 A2 A3 A4 _).mono ?_
            rintro e w7 ⟨he7, hb7⟩
            have hR := HR7.out.next hb7
            have hB := bel_step HB7.out hb7
            have hK := HK7.out.next hb7
            clear HB7 HR7 HK7 hb7
            have HE7 : Hid (e = .returned (.int .i64 (flawT A1 A2 A3 A4))) := he7
            clear he7
            cases hokb : okB (tokOf q) with
            | true =>
              have hf0 := HFW.out.2 hokb
              rw [hf0] at HE7
              obtain rfl := HE7.out
              have EE : Hid (parseE s.data.toList = 0 ∧ parseV s.data.toList = .agg #[.int .i64 A1, .int .i64 A2, .int .i64 A3, .int .i64 A4]) := by
                have := HP0.out hokb
                rwa [HVV.out] at this
              have l0 := hK.cell 0
              have l1 := hK.cell 1
              have l2 := hK.cell 2
              have l3 := hK.cell 3
              clear HE7 hf0 hokb HP0 HP2 HFW HVV hK
              have RR := (((hR.set 0 (.int .i64 A1)).set 1 (.int .i64 A2)).set 2 (.int .i64 A3)).set 3 (.int .i64 A4)
              have HBB : Hid (Below w.heap.size w (((((w7).setCell ⟨w.heap.size, 0, none⟩ (.int .i64 A1)).setCell ⟨w.heap.size, 1, none⟩ (.int .i64 A2)).setCell ⟨w.heap.size, 2, none⟩ (.int .i64 A3)).setCell ⟨w.heap.size, 3, none⟩ (.int .i64 A4))) := bel_set (bel_set (bel_set (bel_set hB _ _ _ (Nat.le_refl _)) _ _ _ (Nat.le_refl _)) _ _ _ (Nat.le_refl _)) _ _ _ (Nat.le_refl _)
              have R0 : Hid (_ = _) := RR.cell 0
              have R1 : Hid (_ = _) := RR.cell 1
              have R2 : Hid (_ = _) := RR.cell 2
              have R3 : Hid (_ = _) := RR.cell 3
              have p0 := hR.cell 0
              have p1 := hR.cell 1
              have p2 := hR.cell 2
              have p3 := hR.cell 3
              have f0 := hR.free 0
              have f1 := hR.free 1
              have f2 := hR.free 2
              have f3 := hR.free 3
              clear RR
              go_wp2_with fail
              refine bodyPost_ret (v := .tuple #[.agg #[.int .i64 A1, .int .i64 A2, .int .i64 A3, .int .i64 A4], .int .i64 0]) (by simp [results, Tryz.results16, R0.out, R1.out, R2.out, R3.out, go_sem]) rfl ⟨by rw [EE.out.1, EE.out.2], HBB.out⟩
            | false =>
              have hf0 : flawT A1 A2 A3 A4 ≠ 0 := fun h => by rw [HFW.out.1 h] at hokb; cases hokb
              have hff : (flawT A1 A2 A3 A4 != 0) = true := by simpa using hf0
              have EE : Hid (parseE s.data.toList = 2 ∧ parseV s.data.toList = noTok) := HP2.out hokb
              obtain rfl := HE7.out
              clear HE7 hf0 hokb HP0 HP2 HFW HVV hK
              generalize flawT A1 A2 A3 A4 = ff at *
              have RR := (((hR.set 0 (.int .i64 0)).set 1 (.int .i64 0)).set 2 (.int .i64 0)).set 3 (.int .i64 0)
              have HBB : Hid (Below w.heap.size w (((((w7).setCell ⟨w.heap.size, 0, none⟩ (.int .i64 0)).setCell ⟨w.heap.size, 1, none⟩ (.int .i64 0)).setCell ⟨w.heap.size, 2, none⟩ (.int .i64 0)).setCell ⟨w.heap.size, 3, none⟩ (.int .i64 0))) := bel_set (bel_set (bel_set (bel_set hB _ _ _ (Nat.le_refl _)) _ _ _ (Nat.le_refl _)) _ _ _ (Nat.le_refl _)) _ _ _ (Nat.le_refl _)
              have R0 : Hid (_ = _) := RR.cell 0
              have R1 : Hid (_ = _) := RR.cell 1
              have R2 : Hid (_ = _) := RR.cell 2
              have R3 : Hid (_ = _) := RR.cell 3
              have p0 := hR.cell 0
              have p1 := hR.cell 1
              have p2 := hR.cell 2
              have p3 := hR.cell 3
              have f0 := hR.free 0
              have f1 := hR.free 1
              have f2 := hR.free 2
              have f3 := hR.free 3
              clear RR
              go_wp2_with fail
              refine bodyPost_ret (v := .tuple #[.agg #[.int .i64 0, .int .i64 0, .int .i64 0, .int .i64 0], .int .i64 2]) (by simp [results, Tryz.results16, R0.out, R1.out, R2.out, R3.out, go_sem]) rfl ⟨by rw [EE.out.1, EE.out.2]; rfl, HBB.out⟩
        · have EE : Hid (parseE s.data.toList = 8 ∧ parseV s.data.toList = noTok) := HPE.out.1 hr0
          have HSG : Hid (Calls Tryz.prog 40 #[.pointer (some ⟨w2.heap.size, 0, none⟩)] w3 fun e w' => e = .returned (.int .i64 1) ∧ w' = w3) := sign_pos _ _ _ HGR.out hr0
          clear HPE hr0 HQB
          go_wp2_with fail
          refine HSG.out.mono ?_
          rintro e w4 ⟨rfl, rfl⟩
          have hR := HR4.out
          have hB := HB4.out
          clear HSG HR4 HB4 HGQ HGR
          have RR := (((hR.set 0 (.int .i64 0)).set 1 (.int .i64 0)).set 2 (.int .i64 0)).set 3 (.int .i64 0)
          have HBB : Hid (Below w.heap.size w (((((w4).setCell ⟨w.heap.size, 0, none⟩ (.int .i64 0)).setCell ⟨w.heap.size, 1, none⟩ (.int .i64 0)).setCell ⟨w.heap.size, 2, none⟩ (.int .i64 0)).setCell ⟨w.heap.size, 3, none⟩ (.int .i64 0))) := bel_set (bel_set (bel_set (bel_set hB _ _ _ (Nat.le_refl _)) _ _ _ (Nat.le_refl _)) _ _ _ (Nat.le_refl _)) _ _ _ (Nat.le_refl _)
          have R0 : Hid (_ = _) := RR.cell 0
          have R1 : Hid (_ = _) := RR.cell 1
          have R2 : Hid (_ = _) := RR.cell 2
          have R3 : Hid (_ = _) := RR.cell 3
          have p0 := hR.cell 0
          have p1 := hR.cell 1
          have p2 := hR.cell 2
          have p3 := hR.cell 3
          have f0 := hR.free 0
          have f1 := hR.free 1
          have f2 := hR.free 2
          have f3 := hR.free 3
          clear RR
          go_wp2_with fail
          refine bodyPost_ret (v := .tuple #[.agg #[.int .i64 0, .int .i64 0, .int .i64 0, .int .i64 0], .int .i64 8]) (by simp [results, Tryz.results16, R0.out, R1.out, R2.out, R3.out, go_sem]) rfl ⟨by rw [EE.out.1, EE.out.2]; rfl, HBB.out⟩

end Go.Proofs.YtgipkpkjoicehaaGreatDoor.token
