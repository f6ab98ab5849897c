/- A customer in memory; a book in memory, and what keeps it. -/
import Derived.Test.YtfhlokjpdkmdjaaBkR
import Derived.Test.YtfhlokjpdkmdjaaBkG
import Derived.Test.YtfhlokjpdkmdjaaAcD
namespace Go.Proofs.Ytfhlokjpdkmdjaa.book
open Go.RowKit
set_option maxRecDepth 100000
set_option linter.unusedVariables false
set_option linter.unusedSimpArgs false

theorem rowD_grown {w w' : World} {own : Option Nat} {a : Option Addr} {n : Nat} {zs : List tar.Du} (h : tar.RowD w a n zs) (hg : w.grownBy w' own) (hne : 0 < n → ∀ x, a = some x → some x.block ≠ own) : tar.RowD w' a n zs := by
  refine ⟨h.1, ?_⟩
  rcases h.2 with h0 | ⟨b, off, rfl, hc⟩
  · exact .inl h0
  · refine .inr ⟨b, off, rfl, fun i hi => ?_⟩
    have h1 := hc i hi
    have hb := hg.block b (World.block_lt_of_cell? w ⟨b, off + i * 2, none⟩ h1.1) (hne (by omega) _ rfl)
    have e : ∀ o, w'.cell? ⟨b, o, none⟩ = w.cell? ⟨b, o, none⟩ := fun o => by simp [World.cell?, hb]
    rw [e, e]; exact h1
theorem came_grown {w w' : World} {own : Option Nat} {a : Option Addr} {n cap : Nat} {zs : List tar.Du} (h : tar.Came w a n cap zs) (hg : w.grownBy w' own) (hne : 0 < n → ∀ x, a = some x → some x.block ≠ own) : tar.Came w' a n cap zs := ⟨rowD_grown h.row hg hne, h.nil, h.room, h.bytes, h.wf⟩
def Cu.sold (x : Cu) : Value := .slice x.sp x.sn x.sc
def Cu.v (x : Cu) : Value := .agg x.cs.toArray
/-- The numbers of a customer. -/
def Nums (x : Cu) (a : acc.Ac) : Prop := x.me = a.me ∧ x.rv = a.rv ∧ x.nx = a.nx ∧ x.mo = a.mo ∧ x.bo = a.bo ∧ x.fr = a.fr
/-- A customer in memory: its debts lie in memory that is new since base, what was sold is its own. -/
structure Has (w : World) (base : Nat) (x : Cu) (c : Cm) : Prop where
  num : Nums x c.a
  ds : deb.Fresh w base x.dp x.dn x.dc c.a.ds
  so : Lo w base x.sold c.so
/-- Neither lies in what the other grows. -/
def Apart (x y : Cu) : Prop := (∀ g, x.sold.ownBlock = some g → y.sold.ownBlock ≠ some g) ∧ (∀ g, x.sold.ownBlock = some g → 0 < y.dn → ∀ p, y.dp = some p → p.block ≠ g) ∧ (∀ g, y.sold.ownBlock = some g → 0 < x.dn → ∀ p, x.dp = some p → p.block ≠ g)
theorem Apart.symm {x y : Cu} (h : Apart x y) : Apart y x := ⟨fun g h1 h2 => h.1 g h2 h1, h.2.2, h.2.1⟩
/-- It does not lie in this block, nor grow there. -/
def Off (x : Cu) (own : Option Nat) : Prop := (∀ g, x.sold.ownBlock = some g → own ≠ some g) ∧ (0 < x.dn → ∀ p, x.dp = some p → some p.block ≠ own)
theorem Has.next {w w' : World} {base : Nat} {x : Cu} {c : Cm} (h : Has w base x c) (hb : Below w.heap.size w w') : Has w' base x c := ⟨h.num, h.ds.below hb, h.so.next hb⟩
theorem Has.kept {w w' : World} {base : Nat} {own : Option Nat} {x : Cu} {c : Cm} (h : Has w base x c) (hg : w.grownBy w' own) (ho : Off x own) : Has w' base x c := ⟨h.num, ⟨came_grown h.ds.came hg ho.2, h.ds.new⟩, h.so.kept hg ho.1⟩
/-- A book in memory. -/
structure Holds (w : World) (base : Nat) (V : Value) (xs : List Cu) (bk : List Cm) : Prop where
  row : Lc w base V xs
  len : xs.length = bk.length
  has : ∀ i, i < xs.length → Has w base (xs.getD i cu0) (bk.getD i cm0)
  off : ∀ i, i < xs.length → Off (xs.getD i cu0) V.ownBlock
  self : ∀ i, i < xs.length → ∀ g, (xs.getD i cu0).sold.ownBlock = some g → 0 < (xs.getD i cu0).dn → ∀ p, (xs.getD i cu0).dp = some p → p.block ≠ g
  apart : ∀ i j, i < xs.length → j < xs.length → i ≠ j → Apart (xs.getD i cu0) (xs.getD j cu0)
theorem Holds.zero (w : World) (base : Nat) : Holds w base (.slice none 0 0) [] [] := ⟨Lc.zero _ _, rfl, (fun i hi => by cases hi), (fun i hi => by cases hi), (fun i hi => by cases hi), (fun i j hi => by cases hi)⟩
theorem Holds.next {w w' : World} {base : Nat} {V : Value} {xs : List Cu} {bk : List Cm} (h : Holds w base V xs bk) (hb : Below w.heap.size w w') : Holds w' base V xs bk := ⟨h.row.next hb, h.len, fun i hi => (h.has i hi).next hb, h.off, h.self, h.apart⟩
theorem getD_snoc {α : Type} (l : List α) (x d : α) (i : Nat) (hi : i < l.length + 1) : (l ++ [x]).getD i d = if i < l.length then l.getD i d else x := by
  by_cases h : i < l.length
  · rw [if_pos h]; simp [List.getD, List.getElem?_append_left h]
  · have : i = l.length := by omega
    subst this
    rw [if_neg h]; simp [List.getD]
/-- One customer more: the row has grown. -/
theorem Holds.snoc {w w' : World} {base : Nat} {V V' : Value} {xs : List Cu} {bk : List Cm} {x : Cu} {c : Cm} (h : Holds w base V xs bk) (hx : Has w base x c) (hxs : x.sold.ownBlock = none) (hxd : x.dn = 0)
    (hr : Lc w' base V' (xs ++ [x])) (hg : w.grownBy w' V.ownBlock) (ho : V'.ownBlock = V.ownBlock ∨ V'.ownBlock = some w.heap.size) : Holds w' base V' (xs ++ [x]) (bk ++ [c]) := by
  have hnew : ∀ y : Cu, Off y V.ownBlock → (∀ g, y.sold.ownBlock = some g → g < w.heap.size) → (0 < y.dn → ∀ p, y.dp = some p → p.block < w.heap.size) → Off y V'.ownBlock := fun y h1 h2 h3 => by
    rcases ho with e | e
    · rw [e]; exact h1
    · rw [e]
      exact ⟨fun g hg' q => (by have := h2 g hg'; have := Option.some.inj q; omega), fun hn p hp q => (by have := h3 hn p hp; have := Option.some.inj q; omega)⟩
  have lt1 : ∀ i, i < xs.length → ∀ g, (xs.getD i cu0).sold.ownBlock = some g → g < w.heap.size := fun i hi g hgg => (World.ownsRow.lt (h.has i hi).so g hgg).2
  have lt2 : ∀ i, i < xs.length → 0 < (xs.getD i cu0).dn → ∀ p, (xs.getD i cu0).dp = some p → p.block < w.heap.size := fun i hi hn p hp => by
    obtain ⟨b, off, e, lb, _⟩ := (h.has i hi).ds.came.row.at hn
    rw [hp] at e
    rw [Option.some.inj e]; exact lb
  have offx : Off x V.ownBlock := ⟨fun g hgg => (by rw [hxs] at hgg; cases hgg), fun hn => by omega⟩
  have apx : ∀ y : Cu, Apart y x := fun y => ⟨fun g h1 h2 => (by rw [hxs] at h2; cases h2), fun g h1 hn => (by omega), fun g h1 => (by rw [hxs] at h1; cases h1)⟩
  have offx' : Off x V'.ownBlock := ⟨fun g hgg => (by rw [hxs] at hgg; cases hgg), fun hn => by omega⟩
  refine ⟨hr, by rw [List.length_append, List.length_append, h.len]; rfl, fun i hi => ?_, fun i hi => ?_, fun i hi => ?_, fun i j hi hj hij => ?_⟩
  all_goals simp only [List.length_append, List.length_cons, List.length_nil] at hi
  · rw [getD_snoc xs x cu0 i hi, getD_snoc bk c cm0 i (by rw [← h.len]; exact hi)]
    by_cases q : i < xs.length
    · rw [if_pos q, if_pos (by rw [← h.len]; exact q)]; exact (h.has i q).kept hg (h.off i q)
    · rw [if_neg q, if_neg (by rw [← h.len]; exact q)]; exact hx.kept hg offx
  · rw [getD_snoc xs x cu0 i hi]
    by_cases q : i < xs.length
    · rw [if_pos q]; exact hnew _ (h.off i q) (lt1 i q) (lt2 i q)
    · rw [if_neg q]; exact offx'
  · rw [getD_snoc xs x cu0 i hi]
    by_cases q : i < xs.length
    · rw [if_pos q]; exact h.self i q
    · rw [if_neg q]; intro g hgg; rw [hxs] at hgg; cases hgg
  · simp only [List.length_append, List.length_cons, List.length_nil] at hj
    rw [getD_snoc xs x cu0 i hi, getD_snoc xs x cu0 j hj]
    by_cases q : i < xs.length <;> by_cases q' : j < xs.length
    · rw [if_pos q, if_pos q']; exact h.apart i j q q' hij
    · rw [if_pos q, if_neg q']; exact apx _
    · rw [if_neg q, if_pos q']; exact (apx _).symm
    · omega
theorem getD_put {α : Type} (l : List α) (x d : α) (k i : Nat) (hk : k < l.length) : (l.set k x).getD i d = if i = k then x else l.getD i d := by
  by_cases h : i = k
  · subst h; rw [if_pos rfl]; simp [List.getD, hk]
  · rw [if_neg h]; simp [List.getD, List.getElem?_set_ne (Ne.symm h)]
/-- What a call that is handed a customer does: nothing but what was sold to it may have grown; what comes back lies there, or is new. -/
structure Turned (w w' : World) (base : Nat) (x x' : Cu) (c' : Cm) : Prop where
  grown : w.grownBy w' x.sold.ownBlock
  has : Has w' base x' c'
  own : ∀ g, x'.sold.ownBlock = some g → x.sold.ownBlock = some g ∨ w.heap.size ≤ g
  new : 0 < x'.dn → ∀ p, x'.dp = some p → w.heap.size ≤ p.block
  self : ∀ g, x'.sold.ownBlock = some g → 0 < x'.dn → ∀ p, x'.dp = some p → p.block ≠ g
theorem Holds.put {w w' w4 : World} {base : Nat} {V : Value} {xs : List Cu} {bk : List Cm} {k : Nat} {x' : Cu} {c' : Cm} (h : Holds w base V xs bk) (hk : k < xs.length) (ht : Turned w w' base (xs.getD k cu0) x' c')
    (hr : Lc w4 base V (xs.set k x')) (hg : w'.grownBy w4 V.ownBlock) : Holds w4 base V (xs.set k x') (bk.set k c') := by
  have hkb : k < bk.length := by rw [← h.len]; exact hk
  have lt1 : ∀ i, i < xs.length → ∀ g, (xs.getD i cu0).sold.ownBlock = some g → g < w.heap.size := fun i hi g hgg => (World.ownsRow.lt (h.has i hi).so g hgg).2
  have lt2 : ∀ i, i < xs.length → 0 < (xs.getD i cu0).dn → ∀ p, (xs.getD i cu0).dp = some p → p.block < w.heap.size := fun i hi hn p hp => by
    obtain ⟨b, off, e, lb, _⟩ := (h.has i hi).ds.came.row.at hn
    rw [hp] at e
    rw [Option.some.inj e]; exact lb
  have ltV : ∀ g, V.ownBlock = some g → g < w.heap.size := fun g hgg => (World.ownsRow.lt h.row g hgg).2
  have offx : Off x' V.ownBlock := ⟨fun g hgg q => by
    rcases ht.own g hgg with e | e
    · exact (h.off k hk).1 g e q
    · have := ltV g q; omega, fun hn p hp q => by
    have h1 := ht.new hn p hp
    have h2 := ltV p.block q.symm
    omega⟩
  have apx : ∀ i, i < xs.length → i ≠ k → Apart (xs.getD i cu0) x' := fun i hi hik => by
    refine ⟨fun g h1 h2 => ?_, fun g h1 hn p hp q => ?_, fun g h1 hn p hp q => ?_⟩
    · rcases ht.own g h2 with e | e
      · exact (h.apart i k hi hk hik).1 g h1 e
      · have := lt1 i hi g h1; omega
    · have h3 := ht.new hn p hp
      have h4 := lt1 i hi g h1
      omega
    · rcases ht.own g h1 with e | e
      · exact (h.apart i k hi hk hik).2.2 g e hn p hp q
      · have := lt2 i hi hn p hp; omega
  refine ⟨hr, by rw [List.length_set, List.length_set, h.len], fun i hi => ?_, fun i hi => ?_, fun i hi => ?_, fun i j hi hj hij => ?_⟩
  all_goals rw [List.length_set] at hi
  · rw [getD_put xs x' cu0 k i hk, getD_put bk c' cm0 k i hkb]
    by_cases q : i = k
    · rw [if_pos q, if_pos q]; exact ht.has.kept hg offx
    · rw [if_neg q, if_neg q]
      have ap := h.apart i k hi hk q
      have off1 : Off (xs.getD i cu0) (xs.getD k cu0).sold.ownBlock := ⟨fun g h1 h2 => ap.1 g h1 h2, fun hn p hp e => by
        exact ap.2.2 p.block e.symm hn p hp rfl⟩
      exact ((h.has i hi).kept ht.grown off1).kept hg (h.off i hi)
  · rw [getD_put xs x' cu0 k i hk]
    by_cases q : i = k
    · rw [if_pos q]; exact offx
    · rw [if_neg q]; exact h.off i hi
  · rw [getD_put xs x' cu0 k i hk]
    by_cases q : i = k
    · rw [if_pos q]; exact ht.self
    · rw [if_neg q]; exact h.self i hi
  · rw [List.length_set] at hj
    rw [getD_put xs x' cu0 k i hk, getD_put xs x' cu0 k j hk]
    by_cases q : i = k <;> by_cases q' : j = k
    · omega
    · rw [if_pos q, if_neg q']; exact (apx j hj q').symm
    · rw [if_neg q, if_pos q']; exact apx i hi q
    · rw [if_neg q, if_neg q']; exact h.apart i j hi hj hij
/-- What a book reads as, for those who only look. -/
structure Sees (w : World) (p : Option Addr) (n : Nat) (xs : List Cu) (bk : List Cm) : Prop where
  row : RowC w p n xs
  len : xs.length = bk.length
  num : ∀ i, i < xs.length → Nums (xs.getD i cu0) (bk.getD i cm0).a
  ds : ∀ i, i < xs.length → tar.Came w (xs.getD i cu0).dp (xs.getD i cu0).dn (xs.getD i cu0).dc (bk.getD i cm0).a.ds
  so : ∀ i, i < xs.length → RowS w (xs.getD i cu0).sp (xs.getD i cu0).sn (bk.getD i cm0).so
theorem Sees.below {w w' : World} {p : Option Addr} {n : Nat} {xs : List Cu} {bk : List Cm} (h : Sees w p n xs bk) (hb : Below w.heap.size w w') : Sees w' p n xs bk := ⟨h.row.below hb, h.len, h.num, fun i hi => (h.ds i hi).below hb, fun i hi => (h.so i hi).below hb⟩
theorem Holds.sees {w : World} {base : Nat} {V : Value} {xs : List Cu} {bk : List Cm} (h : Holds w base V xs bk) : ∃ p cap, V = .slice p xs.length cap ∧ Sees w p xs.length xs bk := by
  obtain ⟨p, cap, hv, hr, _, _⟩ := h.row.row
  refine ⟨p, cap, hv, hr, h.len, fun i hi => (h.has i hi).num, fun i hi => (h.has i hi).ds.came, fun i hi => ?_⟩
  obtain ⟨a, c, e, r, _⟩ := (h.has i hi).so.row
  unfold Cu.sold at e
  injection e with e1 e2 _
  rw [e1, e2]; exact r

end Go.Proofs.Ytfhlokjpdkmdjaa.book
