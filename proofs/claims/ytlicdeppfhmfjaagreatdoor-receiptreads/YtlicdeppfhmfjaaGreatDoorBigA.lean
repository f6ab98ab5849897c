/- The sum of numbers of any size. -/
import Derived.Test.YtlicdeppfhmfjaaGreatDoorBigI
namespace Go.Proofs.YtlicdeppfhmfjaaGreatDoor.words
open Go.RowKit
set_option maxRecDepth 100000

/-- The number that the first n words of f make. -/
def nf (f : Nat → Nat) : Nat → Nat
  | 0 => 0
  | n + 1 => nf f n + 4294967296 ^ n * f n
theorem nf_congr {f g : Nat → Nat} {n : Nat} (h : ∀ i, i < n → f i = g i) : nf f n = nf g n := by
  induction n with
  | zero => rfl
  | succ n ih => rw [nf, nf, ih fun i hi => h i (by omega), h n (by omega)]
theorem nf_cons (f : Nat → Nat) (n : Nat) : nf f (n + 1) = f 0 + 4294967296 * nf (fun i => f (i + 1)) n := by
  induction n with
  | zero => simp [nf]
  | succ n ih =>
    rw [nf, ih, nf, Nat.mul_add, Nat.pow_succ]
    have : 4294967296 ^ n * 4294967296 * f (n + 1) = 4294967296 * (4294967296 ^ n * f (n + 1)) := by
      rw [Nat.mul_comm (4294967296 ^ n) 4294967296, Nat.mul_assoc]
    omega
theorem nv_nf (l : List Nat) : nv l = nf (fun i => l.getD i 0) l.length := by
  induction l with
  | nil => rfl
  | cons x r ih =>
    rw [List.length_cons, nf_cons, nv, ih]
    congr 1
theorem nv_range (f : Nat → Nat) (n : Nat) : nv ((List.range n).map f) = nf f n := by
  rw [nv_nf]
  rw [List.length_map, List.length_range]
  exact nf_congr fun i hi => by simp [List.getD, hi]
theorem nf_zero {f : Nat → Nat} {n : Nat} (h : ∀ i, i < n → f i = 0) : nf f n = 0 := by
  induction n with
  | zero => rfl
  | succ n ih => rw [nf, ih fun i hi => h i (by omega), h n (by omega)]; simp
theorem nf_more {f : Nat → Nat} {m n : Nat} (hmn : m ≤ n) (h : ∀ i, m ≤ i → f i = 0) : nf f n = nf f m := by
  induction n with
  | zero => have : m = 0 := by omega
            subst this; rfl
  | succ n ih =>
    by_cases e : m = n + 1
    · subst e; rfl
    · rw [nf, h n (by omega), ih (by omega)]; simp
theorem nv_more (l : List Nat) {n : Nat} (h : l.length ≤ n) : nv l = nf (fun i => l.getD i 0) n := by
  rw [nv_nf, nf_more h]
  intro i hi
  simp [List.getD, List.getElem?_eq_none hi]

/-- Block g holds the n words f. -/
def RowU (w : World) (g n : Nat) (f : Nat → Nat) : Prop := w.heap[g]? = some (.cells ((List.range n).map fun i => Value.int .u32 ((f i : Nat) : Int)).toArray 83 (0, 0))
variable {w w' : World} {g n : Nat} {f : Nat → Nat}
theorem RowU.cell (h : RowU w g n f) {i : Nat} (hi : i < n) : w.cell? ⟨g, i, none⟩ = some (.int .u32 ((f i : Nat) : Int)) := by unfold RowU at h; simp [World.cell?, h, hi]
theorem RowU.free (h : RowU w g n f) (i : Nat) : w.frozen? ⟨g, i, none⟩ = false := by unfold RowU at h; simp [World.frozen?, h]
def updU (f : Nat → Nat) (i v : Nat) : Nat → Nat := fun k => if k = i then v else f k
theorem RowU.set (h : RowU w g n f) (i v : Nat) : RowU (w.setCell ⟨g, i, none⟩ (.int .u32 ((v : Nat) : Int))) g n (updU f i v) := by
  unfold RowU at *
  simp only [World.setCell, Array.getElem?_modify, h, if_true, Option.map_some]
  congr 2
  simp only [Option.isSome_none, Bool.false_eq_true, if_false]
  apply Array.ext'
  simp only [Array.toList_setIfInBounds]
  apply List.ext_getElem?
  intro k
  by_cases hk : k < n
  · by_cases e : k = i
    · subst e; simp [updU, hk]
    · rw [List.getElem?_set_ne (by omega)]; simp [updU, hk, e]
  · rw [List.getElem?_eq_none (by simp; omega), List.getElem?_eq_none (by simp; omega)]
theorem RowU.ru (h : RowU w g n f) (hf : ∀ i, i < n → f i < 4294967296) : Ru w (some ⟨g, 0, none⟩) n n ((List.range n).map f) := by
  refine ⟨by simp, fun x hx => ?_, (fun h => by cases h), Nat.le_refl _, .inr ⟨g, 0, rfl, fun i hi => ?_⟩, fun b off s e _ => by obtain ⟨rfl, -, -⟩ := (by simpa using e : g = b ∧ 0 = off ∧ none = s); exact ⟨_, _, h⟩⟩
  · obtain ⟨i, hi, rfl⟩ := List.mem_map.1 hx
    exact hf i (by simpa using hi)
  · rw [Nat.zero_add, h.cell hi]
    simp [List.getD, hi]

theorem rowU_made {w1 : World} {n g base : Nat} (h : w1.ownsRow base 83 1 (.slice (some ⟨g, 0, none⟩) n n) n (madeCells #[Value.int .u32 0] n).toList) : RowU w1 g n (fun _ => 0) := by
  rcases h.2 with ⟨h1, _⟩ | ⟨g', cap, cur, h1, _, h2, _, _, h3, h4⟩
  · cases h1
  · simp only [Value.slice.injEq, Option.some.injEq, Addr.mk.injEq] at h1
    obtain ⟨⟨rfl, -⟩, -, rfl⟩ := h1
    unfold RowU
    rw [h2]
    congr 2
    apply Array.ext'
    have e1 : cur.toList = (madeCells #[Value.int .u32 0] n).toList := by
      rw [← h4, List.take_of_length_le (by simp; omega)]
    rw [e1, toList_madeCells_one]
    apply List.ext_getElem?
    intro k
    by_cases hk : k < n
    · simp [hk]
    · rw [List.getElem?_eq_none (by simp; omega), List.getElem?_eq_none (by simp; omega)]

theorem info_u32 : (Tryz.prog.info? 83).map (fun i => (i.zero, i.size, i.bytes)) = some (some (.int .u32 0), 1, 4) := by kernel_rfl

/-- One word more of a sum. -/
theorem add_step {S A B P c x y : Nat} (h : S + P * c = A + B) : S + P * ((c + x + y) % 4294967296) + P * 4294967296 * ((c + x + y) / 4294967296) = (A + P * x) + (B + P * y) := by
  have e : (c + x + y) % 4294967296 + 4294967296 * ((c + x + y) / 4294967296) = c + x + y := by omega
  have e2 : P * ((c + x + y) % 4294967296) + P * 4294967296 * ((c + x + y) / 4294967296) = P * c + P * x + P * y := by
    rw [Nat.mul_assoc, ← Nat.mul_add, e, Nat.mul_add, Nat.mul_add]
  omega

end Go.Proofs.YtlicdeppfhmfjaaGreatDoor.words
