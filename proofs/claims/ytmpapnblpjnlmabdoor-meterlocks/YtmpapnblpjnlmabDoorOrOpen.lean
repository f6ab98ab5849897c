/- Oracles and lists of fours that came in: what the frame hands over. -/
import Derived.Test.YtmpapnblpjnlmabDoorRows
import Derived.Test.YtmpapnblpjnlmabDoorOrD
import Derived.WalkKit
import Derived.ProofKit
import Derived.OpenShut
import Derived.Below
import Derived.SizedLaws
import Derived.Deep.Slices
import Derived.ChangeSame
import Derived.Lib.SmallJoins
namespace Go.Proofs.YtmpapnblpjnlmabDoor.ora
open Go.ChangeShapes Go.WideShapes Go.ChangeAt Go.RowKit Go.Deep
set_option maxRecDepth 100000
set_option linter.unusedVariables false

/-- A slice of structs of four numbers, opened. -/
theorem fours {H : Type} {enc : TypeId × Value → H} {w : World} {base : Nat} {held : Bool} {t e : TypeId} {f0 f1 f2 f3 : Field} {fuel : Nat} {cs : List Value} {x : DataW H × List MemPlace}
    (ht : Tryd.prog.underlying t = some (.slice e)) (he : Tryd.prog.underlying e = some (.struct #[f0, f1, f2, f3])) (ce : Tryd.prog.cellsOf e = 4)
    (o0 : f0.offset = 0) (o1 : f1.offset = 1) (o2 : f2.offset = 2) (o3 : f3.offset = 3) (t0 : f0.type = 3) (t1 : f1.type = 3) (t2 : f2.type = 3) (t3 : f3.type = 3)
    (h : DataW.trod enc Tryd.prog w base (fun _ => true) held fuel t cs = some x) :
    (cs = [.slice none 0 0] ∧ x = (.nil, [])) ∨
    ∃ (a : Addr) (len cap : Nat) (E S : List (DataW H)) (pl : List MemPlace) (f : Nat → Pr), cs = [.slice (some a) len cap] ∧ len ≤ cap ∧ x = (.slice E S, pl) ∧ E.length + S.length = cap ∧
      ∀ i, i < cap → w.cell? (a.add (i * 4)) = some (.int .i64 (f i).m) ∧ w.cell? (a.add (i * 4 + 1)) = some (.int .i64 (f i).r) ∧ w.cell? (a.add (i * 4 + 2)) = some (.int .i64 (f i).b) ∧ w.cell? (a.add (i * 4 + 3)) = some (.int .i64 (f i).t) ∧ wfP (f i) := by
  have c1 : Tryd.prog.cellsOf 3 = 1 := by kernel_rfl
  rcases open_slice ht h with h0 | ⟨a, len, cap, m, n, D, Pl, rfl, hb, hl, hm, hmm, rfl, hx⟩
  · exact Or.inl h0
  right
  simp only [if_true] at hmm
  subst hmm
  have each : ∀ i, ∃ p : Pr, i < m → w.cell? (a.add (i * 4)) = some (.int .i64 p.m) ∧ w.cell? (a.add (i * 4 + 1)) = some (.int .i64 p.r) ∧ w.cell? (a.add (i * 4 + 2)) = some (.int .i64 p.b) ∧ w.cell? (a.add (i * 4 + 3)) = some (.int .i64 p.t) ∧ wfP p := by
    intro i
    by_cases hi : i < m
    · obtain ⟨cs', h1, h2⟩ := hx i hi
      rw [ce] at h1
      obtain ⟨_, hlen, hcell⟩ := World.cells?_some h1
      obtain ⟨y0, y1, y2, y3, k, _, _, g0, g1, g2, g3⟩ := Joins.trod_struct4 he h2
      match cs', hlen with
      | [v0, v1, v2, v3], _ =>
        rw [o0, t0, c1] at g0
        rw [o1, t1, c1] at g1
        rw [o2, t2, c1] at g2
        rw [o3, t3, c1] at g3
        obtain ⟨z0, e0, _, w0⟩ := DataW.trod_int Tryd.underlying3 g0
        obtain ⟨z1, e1, _, w1⟩ := DataW.trod_int Tryd.underlying3 g1
        obtain ⟨z2, e2, _, w2⟩ := DataW.trod_int Tryd.underlying3 g2
        obtain ⟨z3, e3, _, w3⟩ := DataW.trod_int Tryd.underlying3 g3
        simp at e0 e1 e2 e3
        have k0 := hcell 0 (by omega)
        have k1 := hcell 1 (by omega)
        have k2 := hcell 2 (by omega)
        have k3 := hcell 3 (by omega)
        rw [add_add] at k0 k1 k2 k3
        simp at k0 k1 k2 k3
        refine ⟨⟨z0, z1, z2, z3⟩, fun _ => ⟨?_, ?_, ?_, ?_, w0, w1, w2, w3⟩⟩
        · rw [k0, e0]
        · rw [k1, e1]
        · rw [k2, e2]
        · rw [k3, e3]
    · exact ⟨pr0, fun hh => absurd hh hi⟩
  exact ⟨a, len, m, _, _, _, fun i => Classical.choose (each i), rfl, hl, rfl, by simp; omega, fun i hi => Classical.choose_spec (each i) hi⟩

/-- The first of them, as a list. -/
theorem fours_row {w : World} {a : Addr} {len cap : Nat} (hl : len ≤ cap) (f : Nat → Pr)
    (h : ∀ i, i < cap → w.cell? (a.add (i * 4)) = some (.int .i64 (f i).m) ∧ w.cell? (a.add (i * 4 + 1)) = some (.int .i64 (f i).r) ∧ w.cell? (a.add (i * 4 + 2)) = some (.int .i64 (f i).b) ∧ w.cell? (a.add (i * 4 + 3)) = some (.int .i64 (f i).t) ∧ wfP (f i)) :
    RowP w (some a) len ((List.range len).map f) ∧ RowA w (some a) len ((List.range len).map f) := by
  have key : ∀ i, i < len → ∃ b off, a = ⟨b, off, none⟩ ∧ PrAt w b (off + i * 4) (((List.range len).map f).getD i pr0) ∧ wfP (((List.range len).map f).getD i pr0) := by
    intro i hi
    have h0 := (h 0 (by omega)).1
    have h1 := h i (by omega)
    obtain ⟨b, off, spot⟩ := a
    have hs : spot = none := by simpa [Addr.add] using World.cell?_spot h0
    subst hs
    rw [Addr.add_lit, Addr.add_lit, Addr.add_lit, Addr.add_lit, ← Nat.add_assoc, ← Nat.add_assoc, ← Nat.add_assoc] at h1
    have e : ((List.range len).map f).getD i pr0 = f i := by simp [List.getD, hi]
    rw [e]
    exact ⟨b, off, rfl, ⟨h1.1, h1.2.1, h1.2.2.1, h1.2.2.2.1⟩, h1.2.2.2.2⟩
  constructor
  · refine ⟨by simp, ?_⟩
    by_cases hz : len = 0
    · exact .inl hz
    · obtain ⟨b, off, e, _⟩ := key 0 (by omega)
      refine .inr ⟨b, off, by rw [e], fun i hi => ?_⟩
      obtain ⟨b', off', e', h', _⟩ := key i hi
      rw [e] at e'
      obtain ⟨rfl, rfl, _⟩ := Addr.mk.inj e'
      exact h'
  · intro i hi
    obtain ⟨b, off, e, h1, h2⟩ := key i hi
    exact ⟨b, off, by rw [e], h1, h2⟩

theorem open_ora {H : Type} {enc : TypeId × Value → H} {W : World} {r : Reach} {b0 b1 : Nat} {held : Bool} {v : Value} {d : DataW H} {ps : List MemPlace}
    (hval : Value.okWide Tryd.prog W r b0 34 v) (h : DataW.Trod enc Tryd.prog W b1 (fun _ => true) held 34 v d ps) (hs : ∀ n ∈ d.weights Tryd.prog 34, n ≤ reachBytes) :
    ∃ (a : Option Addr) (len cap : Nat) (l : List Pr), v = .agg #[.slice a len cap] ∧ Came W a len cap l := by
  have hu := Tryd.underlying34
  have hc : Tryd.prog.cellsOf 34 = 1 := by kernel_rfl
  have hc2 : Tryd.prog.cellsOf 32 = 1 := by kernel_rfl
  obtain ⟨cs, rfl, hsz⟩ := okWide_struct hu hval
  rw [hc] at hsz
  obtain ⟨v0, rfl⟩ : ∃ v0, cs = #[v0] := by
    cases cs with
    | mk l => match l, hsz with
      | [v0], _ => exact ⟨v0, rfl⟩
  obtain ⟨fuel, hf⟩ := h
  obtain ⟨y0, n, hx, _, g0⟩ := trod_struct1 hu hf
  simp only [Prod.mk.injEq] at hx
  obtain ⟨rfl, rfl⟩ := hx
  simp only [Value.cells, List.drop_zero] at g0
  rw [hc2] at g0
  simp only [List.take_succ_cons, List.take_zero] at g0
  rcases fours Tryd.underlying32 Tryd.underlying70 (by kernel_rfl) rfl rfl rfl rfl rfl rfl rfl rfl g0 with ⟨hcs, _⟩ | ⟨a, len, cap, E, S, pl, f, hcs, hl, hy, hES, hall⟩
  · simp at hcs
    subst hcs
    exact ⟨none, 0, 0, [], rfl, RowP.nil _ _, fun _ => rfl, Nat.le_refl _, by decide⟩
  · simp at hcs
    subst hcs
    subst hy
    have h1 := hs ((E.length + S.length) * Tryd.prog.bytesOf 70) (by simp [DataW.weights, hu, DataW.weightsEach, Tryd.underlying32])
    rw [show Tryd.prog.bytesOf 70 = 32 from by kernel_rfl, hES] at h1
    simp only [reachBytes] at h1
    exact ⟨some a, len, cap, _, rfl, (fours_row hl f hall).1, fun h => (by cases h), hl, by omega⟩

end Go.Proofs.YtmpapnblpjnlmabDoor.ora
