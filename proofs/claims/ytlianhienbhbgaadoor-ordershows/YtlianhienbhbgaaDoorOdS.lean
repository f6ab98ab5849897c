/- Texts put behind others; how long a line may get. -/
import Derived.Test.YtlianhienbhbgaaDoorOdN
import Derived.Test.YtlianhienbhbgaaDoorSRow
import Derived.Test.YtlianhienbhbgaaDoorIRow
import Derived.Test.YtlianhienbhbgaaDoorOdJ
import Derived.Maps.AppendAt
import Derived.Lib.ItoaLen
import Derived.Lib.AppendIntMem
namespace Go.Proofs.YtlianhienbhbgaaDoor.odr
open Go.RowKit
open Go.Proofs.YtlianhienbhbgaaDoor.rcp (Ls cellsS oneS TextT)
set_option maxRecDepth 100000
set_option linter.unusedVariables false
set_option linter.unusedSimpArgs false

theorem infoS : (Tryd.prog.info? 9).map (fun i => (i.zero, i.size, i.bytes)) = some (some (.string ByteArray.empty), 1, 16) := by kernel_rfl
/-- Texts are put behind the others; where the row lies then. -/
theorem wp_strs {w : World} {ops : Array Oper} {rest : List Oper} {o : Oper} {a : Act} {Q : Exit → Act → World → Prop} (hgd : o.guard = none) (s x : Operand)
    (ho : o.op = .call { callee := .builtin .append, args := #[s, x], argTypes := #[55, 55] })
    (base G m : Nat) (v : Value) (l rs : List ByteArray) (hs : a.eval s = v) (hx : a.eval x = .slice (some ⟨G, 0, none⟩) m m) (hm : rs.length = m) (hv : Ls 9 w base v l) (hu : ∀ j r, rs[j]? = some r → w.cell? ⟨G, j, none⟩ = some (.string r)) (hn : l.length ≤ 1000) (hr : rs.length ≤ 1000) (hbase : base ≤ w.heap.size)
    (h : ∀ v' w', Ls 9 w' base v' (l ++ rs) → w.grownBy w' v.ownBlock → (v'.ownBlock = v.ownBlock ∨ v'.ownBlock = some w.heap.size) → wpList Tryd.prog ops Q rest (a.put o.dst v') w') : wpList Tryd.prog ops Q (o :: rest) a w := by
  obtain ⟨i0, hi, hz0, hz1, hz2⟩ := info_parts infoS
  subst hm
  refine wpList_append_own_at w hgd s x 55 ho base 9 i0 (.string ByteArray.empty) 1 16 Tryd.underlying55 hi hz0 hz1 hz2 rfl (by decide) v l.length (cellsS l) hs hv ⟨G, 0, none⟩ rs.length rs.length (cellsS rs) hx (by simp [cellsS]) ?_ (oneS rs) (by unfold maxLen; omega) (by omega) hbase ?_
  · intro j u hj
    simp only [cellsS, List.getElem?_map, Option.map_eq_some_iff] at hj
    obtain ⟨r, hr', rfl⟩ := hj
    rw [Addr.add_lit, Nat.zero_add]
    exact hu j r hr'
  intro v' w' h1 h2 _ h4
  refine h v' w' ?_ h2 h4
  unfold Ls
  rw [List.length_append]
  unfold cellsS at *
  rw [List.map_append]
  exact h1
theorem str_cell (w : World) (r : ByteArray) (t : TypeId) : ∀ j q, [r][j]? = some q → (w.alloc (.cells #[.string r] t)).cell? ⟨w.heap.size, j, none⟩ = some (.string q) := by
  intro j q hj
  match j, hj with
  | 0, hj => simp at hj; subst hj; exact (Blk.new w _ _).cell 0
theorem str_cell2 (w : World) (r s : ByteArray) (t : TypeId) : ∀ j q, [r, s][j]? = some q → (w.alloc (.cells #[.string r, .string s] t)).cell? ⟨w.heap.size, j, none⟩ = some (.string q) := by
  intro j q hj
  match j, hj with
  | 0, hj => simp at hj; subst hj; exact (Blk.new w _ _).cell 0
  | 1, hj => simp at hj; subst hj; exact (Blk.new w _ _).cell 1
theorem ls_bel {w0 w w' : World} {base B : Nat} {v : Value} {l : List ByteArray} (h : Ls 9 w base v l) (hg : w.grownBy w' v.ownBlock) (hb : Below B w0 w) (hB : B ≤ base) (hw : B ≤ w.heap.size) : Below B w0 w' := irow.iown_bel h hg hb hB hw
theorem ls_far {w : World} {base : Nat} {v : Value} {l : List ByteArray} (h : Ls 9 w base v l) {G : Nat} (hG : G < base) : some G ≠ v.ownBlock := irow.iown_far h hG
theorem ls_lt {w : World} {base : Nat} {v : Value} {l : List ByteArray} (h : Ls 9 w base v l) {G : Nat} (hG : w.heap.size ≤ G) : some G ≠ v.ownBlock := by
  intro e
  have := (World.ownsRow.lt h G e.symm).2
  omega
theorem cell_far {w w' : World} {row : Option Nat} {g i : Nat} {u : Value} (h : w.cell? ⟨g, i, none⟩ = some u) (hg : w.grownBy w' row) (hne : some g ≠ row) : w'.cell? ⟨g, i, none⟩ = some u := by
  have hb := hg.block g (World.block_lt_of_cell? w _ h) hne
  simp only [World.cell?, hb] at h ⊢
  exact h

abbrev Tab (w : World) : Prop := Lib.TabIs Tryd.prog w "internal/strconv.uint64pow10" .u64 Lib.pow10Tab
theorem tab_below {w w' : World} (h : Tab w) (hb : Below w.heap.size w w') : Tab w' := Lib.tabBelow_of_tabIs h w' hb
def ba (l : List UInt8) : ByteArray := ⟨l.toArray⟩
theorem pitoa (n : Int) (w : World) (h0 : -1000000000000 ≤ n) (h1 : n ≤ 1000000000000) (ht : Tab w) :
    Calls Tryd.prog 26 #[.int .i64 n] w fun e w' => e = .returned (.string (ba (Lib.itoa n))) ∧ Below w.heap.size w w' := by
  refine (Tryd.strconv_Itoa n (by omega) (by omega) w ht).mono ?_
  rintro e w' ⟨rfl, k, os, rfl⟩
  exact ⟨rfl, Lib.below_grow _ _ (Nat.le_refl _) _ _⟩

/-- The pieces of a line. -/
def pcs (cut : Int) (fs : ByteArray) (l : List Int) : List ByteArray := (if cut = -1 then [] else [ba cutW, ba (Lib.itoa cut)]) ++ (fs :: l.map (fun n => ba (Lib.itoa n)))
theorem pcs_snoc (cut : Int) (fs : ByteArray) (l : List Int) (n : Int) : pcs cut fs (l ++ [n]) = pcs cut fs l ++ [ba (Lib.itoa n)] := by
  unfold pcs
  simp
theorem pcs_len (cut : Int) (fs : ByteArray) (l : List Int) : (pcs cut fs l).length ≤ l.length + 3 := by
  unfold pcs
  split <;> simp <;> omega
def lensB (l : List ByteArray) : Nat := (l.map (·.size)).sum
theorem join_le (xs : List ByteArray) : (Lib.join (xs.map (·.data.toList)) [32]).length ≤ lensB xs + xs.length := by
  cases xs with
  | nil => simp [Lib.join_nil]
  | cons x r =>
    rw [List.map_cons, Lib.join_length]
    have : ∀ l : List ByteArray, Lib.lens (l.map (·.data.toList)) = lensB l := by
      intro l
      unfold Lib.lens lensB
      rw [List.map_map]
      congr 1
    have h := this (x :: r)
    rw [List.map_cons] at h
    rw [h]
    simp
    omega
theorem pcs_small (cut : Int) (fs : ByteArray) (l : List Int) (hc : -1 ≤ cut ∧ cut ≤ 4096) (hf : fs.size ≤ 100) (hl : ∀ n ∈ l, 0 ≤ n ∧ n ≤ 1000000000000) (h4 : l.length ≤ 4) : lensB (pcs cut fs l) ≤ 300 := by
  have hi : ∀ n : Int, -1 ≤ n → n ≤ 1000000000000 → (ba (Lib.itoa n)).size ≤ 21 := fun n a b => by
    show (Lib.itoa n).toArray.size ≤ 21
    simpa using Lib.itoa_length_le n (by omega) (by omega)
  have hs : ∀ l : List Int, (∀ n ∈ l, 0 ≤ n ∧ n ≤ 1000000000000) → lensB (l.map (fun n => ba (Lib.itoa n))) ≤ 21 * l.length := by
    intro l
    induction l with
    | nil => intro _; simp [lensB]
    | cons n l ih =>
      intro h
      have h1 := ih (fun m hm => h m (by simp [hm]))
      have h2 := h n (by simp)
      have h3 := hi n (by omega) h2.2
      simp only [lensB, List.map_cons, List.sum_cons, List.length_cons] at h1 ⊢
      omega
  have h1 := hs l hl
  have h2 := hi cut hc.1 (by omega)
  have h3 : (ba cutW).size = 3 := rfl
  unfold pcs
  unfold lensB at *
  split
  · simp only [List.nil_append, List.map_cons, List.sum_cons]; omega
  · simp only [List.cons_append, List.nil_append, List.map_cons, List.sum_cons]; omega

end Go.Proofs.YtlianhienbhbgaaDoor.odr
