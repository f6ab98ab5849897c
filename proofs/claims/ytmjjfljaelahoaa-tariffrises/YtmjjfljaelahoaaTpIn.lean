/- Lines that come one by one: plain facts. -/
import Derived.Test.YtmjjfljaelahoaaTfD
namespace Go.Proofs.Ytmjjfljaelahoaa.tar
open Go.RowKit
set_option linter.unusedVariables false

/-- A line as it is handed over. -/
abbrev Ln := { t : Tr // LineOk t }
def encL (t : Ln) : Array Value := #[.agg #[.int .i64 t.1.a, .int .i64 t.1.b, .int .i64 t.1.c]]
def lns (l : List Ln) : List Tr := l.map (fun t => t.1)
theorem lns_app (l m : List Ln) : lns (l ++ m) = lns l ++ lns m := by unfold lns; rw [List.map_append]
theorem lns_len (l : List Ln) : (lns l).length = l.length := by unfold lns; rw [List.length_map]
theorem lns_ok (l : List Ln) : ∀ t ∈ lns l, LineOk t := fun t ht => by
  unfold lns at ht
  obtain ⟨s, _, rfl⟩ := List.mem_map.1 ht
  exact s.2
/-- Whatever a round may turn: nothing below n, and none of the blocks from lo to hi. -/
def Kq (n lo hi : Nat) (W W' : World) : Prop := Below n W W' ∧ ∀ j, lo ≤ j → j < hi → W'.heap[j]? = W.heap[j]?
theorem Kq.trans {n lo hi : Nat} {A B C : World} (h : Kq n lo hi A B) (k : Kq n lo hi B C) : Kq n lo hi A C := ⟨h.1.trans k.1, fun j a b => (k.2 j a b).trans (h.2 j a b)⟩
/-- The units that come next. -/
theorem nxt_yes {l : List Du} (h : Right l) (x y : Int) (hx : 0 ≤ x) (hxy : x ≤ y) (k : Nat) (hk : k < l.length) (hp : 0 < min (l.getD k du0).a y - (x + manyK l x y k)) : min (l.getD k du0).a y - (x + manyK l x y k) = ov (low l k) (l.getD k du0).a x y := by
  have h1 := many_eq h x y hx hxy k (by omega)
  have h2 := h.rise k hk
  have h3 := h.low_pos k (by omega)
  rw [h1] at hp ⊢
  unfold ov
  omega
theorem nxt_no {l : List Du} (h : Right l) (x y : Int) (hx : 0 ≤ x) (hxy : x ≤ y) (k : Nat) (hk : k < l.length) (hp : ¬ 0 < min (l.getD k du0).a y - (x + manyK l x y k)) : ov (low l k) (l.getD k du0).a x y = 0 := by
  have h1 := many_eq h x y hx hxy k (by omega)
  have h2 := h.rise k hk
  have h3 := h.low_pos k (by omega)
  rw [h1] at hp
  unfold ov
  omega
theorem many_next (l : List Du) (x y : Int) (k : Nat) : manyK l x y (k + 1) = manyK l x y k + ov (low l k) (l.getD k du0).a x y := rfl
theorem many_bd {l : List Du} (h : Right l) (x y : Int) (hx : 0 ≤ x) (hxy : x ≤ y) (k : Nat) (hk : k ≤ l.length) : 0 ≤ manyK l x y k ∧ manyK l x y k ≤ y - x := by
  rw [many_eq h x y hx hxy k hk]; omega
theorem line_ok {l : List Du} (h : Right l) (x y : Int) (k : Nat) (hk : k < l.length) (hp : 0 < ov (low l k) (l.getD k du0).a x y) : LineOk ⟨ov (low l k) (l.getD k du0).a x y, (l.getD k du0).b, ov (low l k) (l.getD k du0).a x y * (l.getD k du0).b⟩ := by
  have h1 := h.price k hk
  have h2 := h.upto k hk
  have h3 := h.low_pos k (by omega)
  exact ⟨by show 1 ≤ ov _ _ _ _; omega, ov_le _ _ _ _ h3 h2.2, h1.1, h1.2, rfl⟩
theorem bill_prefix (l : List Du) (x y : Int) (k m : Nat) (hkm : k ≤ m) : billK l x y k <+: billK l x y m := by
  induction m with
  | zero => have : k = 0 := by omega
            subst this; exact List.prefix_refl _
  | succ m ih =>
    by_cases e : k = m + 1
    · subst e; exact List.prefix_refl _
    · exact (ih (by omega)).trans (List.prefix_append (billK l x y m) (if 0 < ov (low l m) (l.getD m du0).a x y then [⟨ov (low l m) (l.getD m du0).a x y, (l.getD m du0).b, ov (low l m) (l.getD m du0).a x y * (l.getD m du0).b⟩] else []))

end Go.Proofs.Ytmjjfljaelahoaa.tar
