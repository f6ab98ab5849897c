/- The lines as a function that yields, in the program. -/
import Derived.Test.YtmjjfljaelahoaaTpI
namespace Go.Proofs.Ytmjjfljaelahoaa.tar
open Go.RowKit Go.Shelf
set_option maxRecDepth 100000
set_option linter.unusedVariables false
set_option linter.unusedSimpArgs false
attribute [local go_sem] Oper.semAt_some

theorem blk_own {β : Type} (B : Nat) (t : TypeId) (f : β → Array Value) : Own (fun s W => Blk W B (f s) t) := fun s X Y row hs hg hrow => by
  have hl := hs.lt
  refine (hg.block B hl fun e' => ?_).trans hs
  obtain ⟨o, ho, hc⟩ := hrow B e'.symm
  rw [show X.heap[B]? = _ from hs] at ho; cases ho; cases hc
def boxes (w : World) (v : Value) (x u : Int) : World := ((w.alloc (.cells #[v] 22)).alloc (.cells #[.int .i64 x] 3)).alloc (.cells #[.int .i64 u] 3)
theorem boxes_size (w : World) (v : Value) (x u : Int) : (boxes w v x u).heap.size = w.heap.size + 3 := by unfold boxes; simp
theorem boxes_t (w : World) (v : Value) (x u : Int) : Boxed (boxes w v x u) w.heap.size 22 v := ((Boxed.new w _ v).alloc _).alloc _
theorem boxes_x (w : World) (v : Value) (x u : Int) : Boxed (boxes w v x u) (w.heap.size + 1) 3 (.int .i64 x) := by
  have h := (Boxed.new (w.alloc (.cells #[v] 22)) 3 (.int .i64 x)).alloc (.cells #[.int .i64 u] 3)
  rw [World.size_alloc] at h
  exact h
theorem boxes_u (w : World) (v : Value) (x u : Int) : Boxed (boxes w v x u) (w.heap.size + 1 + 1) 3 (.int .i64 u) := by
  have h := Boxed.new ((w.alloc (.cells #[v] 22)).alloc (.cells #[.int .i64 x] 3)) 3 (.int .i64 u)
  rw [World.size_alloc, World.size_alloc] at h
  exact h
theorem boxes_bel {n : Nat} {w0 w : World} (h : Below n w0 w) (hn : n ≤ w.heap.size) (v : Value) (x u : Int) : Below n w0 (boxes w v x u) := ((h.alloc hn _).alloc (by simp; omega) _).alloc (by simp; omega) _
theorem boxes_boxed {w : World} {B : Nat} {t : TypeId} {o : Value} (h : Boxed w B t o) (v : Value) (x u : Int) : Boxed (boxes w v x u) B t o := ((h.alloc _).alloc _).alloc _

set_option maxHeartbeats 1000000 in
theorem lines_in (F : Fence) (n : Nat) (hF : F.fn 26) (hro : F.round = none) (a : Option Addr) (len cap : Nat) (x u : Int) (w : World) :
    CallsIn F n Try.prog 26 #[.slice a len cap, .int .i64 x, .int .i64 u] w fun e w' => e = .returned (.func (.func 30) #[] #[.pointer (some ⟨w.heap.size + 1, 0, none⟩), .pointer (some ⟨w.heap.size, 0, none⟩), .pointer (some ⟨w.heap.size + 1 + 1, 0, none⟩)]) ∧ w' = boxes w (.slice a len cap) x u := by
  refine callsIn_of_wp Try.func26 rfl hF ?_ hro
  simp only [Try.ntmps26, List.size_toArray, List.length_cons, List.length_nil, Nat.reduceAdd, Nat.reduceSub, Array.replicate_succ, Array.replicate_zero, List.push_toArray, List.append_toArray, List.nil_append, List.cons_append]
  gi_wp2
  go_ret
  exact ⟨rfl, rfl⟩
/-- What is to be known of a call of the lines, at the world w where the loop begins. -/
structure Lnd (w : World) (n₀ B b off len cap : Nat) (ls : List Du) (x u : Int) : Prop where
  right : Right ls
  many : ls.length = len
  x0 : 0 ≤ x
  x1 : x ≤ 10000000
  u0 : 0 ≤ u
  u1 : x + u ≤ 10000000
  bt : Boxed w B 22 (.slice (some ⟨b, off, none⟩) len cap)
  bx : Boxed w (B + 1) 3 (.int .i64 x)
  bu : Boxed w (B + 1 + 1) 3 (.int .i64 u)
  hb : b < n₀
  hn : n₀ ≤ w.heap.size
  row : ∀ i, i < len → w.cell? ⟨b, off + i * 2, none⟩ = some (.int .i64 (ls.getD i du0).a) ∧ w.cell? ⟨b, off + i * 2 + 1, none⟩ = some (.int .i64 (ls.getD i du0).b)
theorem lines_stops (F : Fence) (n : Nat) (hF : F.fn 30) (hro : F.round = none) (hn : 1 ≤ n) (n₀ B b off len cap : Nat) (ls : List Du) (x u : Int) (w : World) (h : Lnd w n₀ B b off len cap ls x u) :
    SeqStopsK F n Try.prog 30 #[.pointer (some ⟨B + 1, 0, none⟩), .pointer (some ⟨B, 0, none⟩), .pointer (some ⟨B + 1 + 1, 0, none⟩)] encL (Kq n₀ B (B + 3)) (fun ys => lns ys = billK ls x (x + u) len) (fun pre => lns pre <+: billK ls x (x + u) len) len w := fun l J Jx W hW hJ _ hY h0 =>
  lines1_in F n hF hro hn l (B + 1) B (B + 1 + 1) n₀ B (B + 3) b off len cap W.heap.size ls x u J Jx h.right h.many ⟨h.x0, h.x1⟩ ⟨h.u0, h.u1⟩ hJ hY W
    (boxed_same h.bx (hW.block _ h.bx.lt)) (boxed_same h.bt (hW.block _ h.bt.lt)) (boxed_same h.bu (hW.block _ h.bu.lt)) ⟨by omega, by omega⟩ ⟨by omega, by omega⟩ h.hb (Nat.le_trans h.hn hW.size)
    (fun i hi => ⟨(hW.cell (p := ⟨b, off + i * 2, none⟩) (Nat.lt_of_lt_of_le h.hb h.hn)).trans (h.row i hi).1, (hW.cell (p := ⟨b, off + i * 2 + 1, none⟩) (Nat.lt_of_lt_of_le h.hb h.hn)).trans (h.row i hi).2⟩) h0
/-- A round may turn blocks that lie neither below n nor among these. -/
theorem Kq.refl (n lo hi : Nat) (W : World) : Kq n lo hi W W := ⟨Below.refl _ _, fun _ _ _ => rfl⟩
theorem Kq.alloc {n lo hi : Nat} {W W' : World} (h : Kq n lo hi W W') (o : Obj) (hn : n ≤ W'.heap.size) (hs : hi ≤ W'.heap.size) : Kq n lo hi W (W'.alloc o) := ⟨h.1.alloc hn o, fun j a b => (Below.heap_alloc W' o j (by omega)).trans (h.2 j a b)⟩
theorem Kq.set {n lo hi : Nat} {W W' : World} (h : Kq n lo hi W W') (B i : Nat) (v : Value) (hB : n ≤ B) (hl : B < lo ∨ hi ≤ B) : Kq n lo hi W (W'.setCell ⟨B, i, none⟩ v) := ⟨h.1.setCell (p := ⟨B, i, none⟩) hB v, fun j a b => (Below.heap_setCell W' ⟨B, i, none⟩ v j (by show j ≠ B; omega)).trans (h.2 j a b)⟩
theorem kq_b {n lo hi : Nat} {w : World} (hn : n ≤ w.heap.size) (hh : hi ≤ w.heap.size) (W : World) (l : Nat) (o o' : Obj) (hl : w.heap.size ≤ l) (h : W.heap[l]? = some o) (hc : o.isCells = false) (hw : o.isWalk = false) : Kq n lo hi W (W.putObj l o') := ⟨belowK_b hn W l o o' hl h hc hw, fun j a b => (grownBy_putObj' W l o').block j (by have := (Array.getElem?_eq_some_iff.1 h).1; omega) (fun e => by cases e; omega)⟩
theorem lnd_of {w w1 : World} (n₀ B b off len cap : Nat) {ls : List Du} {x u : Int} (hr : Right ls) (hl : ls.length = len) (hx : 0 ≤ x ∧ x ≤ 10000000) (hu : 0 ≤ u ∧ x + u ≤ 10000000) (hB : w1.heap.size = B) (hb : b < n₀) (hn : n₀ ≤ w1.heap.size)
    (hbel : Below n₀ w w1) (hc : ∀ i, i < len → w.cell? ⟨b, off + i * 2, none⟩ = some (.int .i64 (ls.getD i du0).a) ∧ w.cell? ⟨b, off + i * 2 + 1, none⟩ = some (.int .i64 (ls.getD i du0).b)) : Lnd (boxes w1 (.slice (some ⟨b, off, none⟩) len cap) x u) n₀ B b off len cap ls x u := by
  subst hB
  have h2 := boxes_bel hbel hn (.slice (some ⟨b, off, none⟩) len cap) x u
  exact ⟨hr, hl, hx.1, hx.2, hu.1, hu.2, boxes_t _ _ _ _, boxes_x _ _ _ _, boxes_u _ _ _ _, hb, by rw [boxes_size]; omega, fun i hi => ⟨(h2.cell (p := ⟨b, off + i * 2, none⟩) hb).trans (hc i hi).1, (h2.cell (p := ⟨b, off + i * 2 + 1, none⟩) hb).trans (hc i hi).2⟩⟩

end Go.Proofs.Ytmjjfljaelahoaa.tar
