/- Debts in memory of their own that grow. -/
import Derived.Test.YtlolippocnngcacDbD
import Derived.Test.YtlolippocnngcacBlk
import Derived.Test.YtlolippocnngcacLet
namespace Go.Proofs.Ytlolippocnngcac.deb
open Go.Proofs.Ytlolippocnngcac.tar (Du du0 Came RowD Ld ErrPost TwoPost PairT GaveD)
open Go.RowKit
set_option maxRecDepth 100000
set_option linter.unusedVariables false
set_option linter.unusedSimpArgs false

/-- Debts that have grown, as far as the place k. -/
def mixK (l : List Du) (m k : Nat) : List Du := ageAll (l.take k) m ++ l.drop k
theorem mix_zero (l : List Du) (m : Nat) : mixK l m 0 = l := rfl
theorem mix_all (l : List Du) (m k : Nat) (h : l.length = k) : mixK l m k = ageAll l m := by
  subst h
  unfold mixK
  rw [List.take_length, List.drop_length, List.append_nil]
theorem mix_len (l : List Du) (m k : Nat) (hk : k ≤ l.length) : (mixK l m k).length = l.length := by
  unfold mixK
  rw [List.length_append, ageAll_len, List.length_take, List.length_drop]; omega
theorem drop_one (l : List Du) (k : Nat) (hk : k < l.length) : l.drop k = l.getD k du0 :: l.drop (k + 1) := by
  rw [List.drop_eq_getElem_cons hk]
  simp [List.getD, List.getElem?_eq_getElem hk]
theorem mix_at (l : List Du) (m k : Nat) (hk : k < l.length) : (mixK l m k).getD k du0 = l.getD k du0 := by
  unfold mixK
  have e : (ageAll (l.take k) m).length = k := by rw [ageAll_len, List.length_take]; omega
  rw [drop_one l k hk, List.getD, List.getElem?_append_right (by omega), e, Nat.sub_self]; simp
theorem mix_set (l : List Du) (m k : Nat) (hk : k < l.length) (d : Du) : (mixK l m k).set k d = ageAll (l.take k) m ++ d :: l.drop (k + 1) := by
  unfold mixK
  have e : (ageAll (l.take k) m).length = k := by rw [ageAll_len, List.length_take]; omega
  rw [drop_one l k hk, List.set_append_right _ _ (by omega), e, Nat.sub_self, List.set_cons_zero]
theorem mix_next (l : List Du) (m k : Nat) (hk : k < l.length) : (mixK l m k).set k ⟨growN (l.getD k du0).b m (l.getD k du0).a, (l.getD k du0).b⟩ = mixK l m (k + 1) := by
  rw [mix_set l m k hk]
  unfold mixK
  rw [ageAll_take l m k hk]; simp
theorem mix_same (l : List Du) (m k : Nat) (hk : k < l.length) : (mixK l m k).set k ⟨growN (l.getD k du0).b 0 (l.getD k du0).a, (l.getD k du0).b⟩ = mixK l m k := by
  rw [mix_set l m k hk]
  show ageAll (l.take k) m ++ l.getD k du0 :: l.drop (k + 1) = mixK l m k
  unfold mixK
  rw [drop_one l k hk]
theorem cells_set (l : List Du) (k : Nat) (hk : k < l.length) (x b : Int) (hb : (l.getD k du0).b = b) : tar.cellsD (l.set k ⟨x, b⟩) = (tar.cellsD l).set (k * 2) (.int .i64 x) := by
  induction l generalizing k with
  | nil => simp at hk
  | cons d l ih =>
    cases k with
    | zero =>
      have e : d.b = b := by simpa using hb
      subst e; rfl
    | succ k =>
      rw [show (k + 1) * 2 = k * 2 + 1 + 1 by omega]
      have h1 : k < l.length := by simpa using hk
      have h2 := ih k h1 (by simpa using hb)
      show tar.cellsD (d :: l.set k ⟨x, b⟩) = _
      simp only [tar.cellsD, List.set_cons_succ, h2]
/-- One debt is stored anew. -/
theorem ld_put {T : TypeId} {w W : World} {base g n cap : Nat} {l : List Du} {cur : Array Value} (h : Ld T w base (.slice (some ⟨g, 0, none⟩) n cap) l) (hB : Blk w g cur T) (k : Nat) (hk : k < l.length) (x b : Int) (hb : (l.getD k du0).b = b) (hU : Upd w W g (cur.setIfInBounds (k * 2) (.int .i64 x)) T) : Ld T W base (.slice (some ⟨g, 0, none⟩) n cap) (l.set k ⟨x, b⟩) := by
  unfold Ld at *
  rw [List.length_set, cells_set l k hk x b hb]
  refine ⟨by rw [List.length_set]; exact h.1, ?_⟩
  rcases h.2 with ⟨h', _⟩ | ⟨g', cap', cur', hv, hg, hc, hn, hm, hz, ht⟩
  · cases h'
  · simp only [Value.slice.injEq, Option.some.injEq, Addr.mk.injEq, and_true] at hv
    obtain ⟨rfl, rfl, rfl⟩ := hv
    have e : cur' = cur := by
      have h1 : w.heap[g]? = some (.cells cur T (0, 0)) := hB
      rw [h1] at hc
      injection hc with hc
      injection hc with hc
      exact hc.symm
    subst e
    exact .inr ⟨g, cap, _, rfl, hg, hU.blk, hn, hm, by simpa using hz, by rw [Array.toList_setIfInBounds, ← ht, List.take_set]⟩
/-- Where debts lie that are not none. -/
theorem ld_lies {T : TypeId} {w : World} {base n cap : Nat} {a : Option Addr} {l : List Du} (h : Ld T w base (.slice a n cap) l) (hn : 0 < n) : ∃ g cur, a = some ⟨g, 0, none⟩ ∧ base ≤ g ∧ Blk w g cur T ∧ n * 2 ≤ cur.size ∧ (∀ k, k < l.length → w.cell? ⟨g, k * 2, none⟩ = some (.int .i64 (l.getD k du0).a) ∧ w.cell? ⟨g, k * 2 + 1, none⟩ = some (.int .i64 (l.getD k du0).b)) := by
  rcases h.2 with ⟨h', h0⟩ | ⟨g, cap', cur, hv, hg, hc, hle, hm, hz, ht⟩
  · simp only [Value.slice.injEq] at h'; omega
  · simp only [Value.slice.injEq] at hv
    obtain ⟨rfl, rfl, rfl⟩ := hv
    refine ⟨g, cur, rfl, hg, hc, by omega, fun k hk => ?_⟩
    have e1 := World.ownsRow.cellAt h (k * 2) (by omega)
    have e2 := World.ownsRow.cellAt h (k * 2 + 1) (by omega)
    rw [e1, e2]
    exact tar.cellsD_at l k hk

end Go.Proofs.Ytlolippocnngcac.deb
