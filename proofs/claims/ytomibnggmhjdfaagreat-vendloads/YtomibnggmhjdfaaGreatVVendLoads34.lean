import Derived.Test.YtomibnggmhjdfaaGreatVVendLoads3
import Derived.Test.YtomibnggmhjdfaaGreatVVendLoads33
set_option linter.unusedVariables false
set_option linter.unusedSimpArgs false
namespace Go.Proofs.YtomibnggmhjdfaaGreat
namespace tar
open Go.RowKit Go.Shelf
set_option maxRecDepth 100000
attribute [local go_sem] Oper.semAt_some
theorem blk_own {β : Type} (B : Nat) (t : TypeId) (f : β → Array Value) : Own (fun s W => Blk W B (f s) t) := fun s X Y row hs hg hrow => by
 have hl := hs.lt
 refine (hg.block B hl fun e' => ?_).trans hs
 obtain ⟨o, ho, hc⟩ := hrow B e'.symm
 rw [show X.heap[B]? = _ from hs] at ho; cases ho; cases hc
def boxes (w : World) (v : Value) (x u : Int) : World := ((w.alloc (.cells #[v] 22)).alloc (.cells #[.int .i64 x] 3)).alloc (.cells #[.int .i64 u] 3)
theorem boxes_size (w : World) (v : Value) (x u : Int) : (boxes w v x u).heap.size = w.heap.size + 3 := by unfold boxes; simp
theorem boxes_t (w : World) (v : Value) (x u : Int) : Boxed (boxes w v x u) w.heap.size 22 v := ((Boxed.new w _ v).alloc _).alloc _
theorem boxes_x (w : World) (v : Value) (x u : Int) : Boxed (boxes w v x u) (w.heap.size + 1) 3 (.int .i64 x) := by
 have h := (Boxed.new (w.alloc (.cells #[v] 22)) 3 (.int .i64 x)).alloc (.cells #[.int .i64 u] 3)
 rw [World.size_alloc] at h
 exact h
theorem boxes_u (w : World) (v : Value) (x u : Int) : Boxed (boxes w v x u) (w.heap.size + 1 + 1) 3 (.int .i64 u) := by
 have h := Boxed.new ((w.alloc (.cells #[v] 22)).alloc (.cells #[.int .i64 x] 3)) 3 (.int .i64 u)
 rw [World.size_alloc, World.size_alloc] at h
 exact h
theorem boxes_bel {n : Nat} {w0 w : World} (h : Below n w0 w) (hn : n ≤ w.heap.size) (v : Value) (x u : Int) : Below n w0 (boxes w v x u) := ((h.alloc hn _).alloc (by simp; omega) _).alloc (by simp; omega) _
theorem boxes_boxed {w : World} {B : Nat} {t : TypeId} {o : Value} (h : Boxed w B t o) (v : Value) (x u : Int) : Boxed (boxes w v x u) B t o := ((h.alloc _).alloc _).alloc _
set_option maxHeartbeats 1000000 in
theorem lines_in (F : Fence) (n : Nat) (hF : F.fn 121) (hro : F.round = none) (a : Option Addr) (len cap : Nat) (x u : Int) (w : World) :
  CallsIn F n Tryz.prog 121 #[.slice a len cap, .int .i64 x, .int .i64 u] w fun e w' => e = .returned (.func (.func 123) #[] #[.pointer (some ⟨w.heap.size + 1, 0, none⟩), .pointer (some ⟨w.heap.size, 0, none⟩), .pointer (some ⟨w.heap.size + 1 + 1, 0, none⟩)]) ∧ w' = boxes w (.slice a len cap) x u := by
 refine callsIn_of_wp Tryz.func121 rfl hF ?_ hro
 simp only [Tryz.ntmps121, List.size_toArray, List.length_cons, List.length_nil, Nat.reduceAdd, Nat.reduceSub, Array.replicate_succ, Array.replicate_zero, List.push_toArray, List.append_toArray, List.nil_append, List.cons_append]
 gi_wp2
 go_ret
 exact ⟨rfl, rfl⟩
structure Lnd (w : World) (n₀ B b off len cap : Nat) (ls : List Du) (x u : Int) : Prop where
 right : Right ls
 many : ls.length = len
 x0 : 0 ≤ x
 x1 : x ≤ 10000000
 u0 : 0 ≤ u
 u1 : x + u ≤ 10000000
 bt : Boxed w B 22 (.slice (some ⟨b, off, none⟩) len cap)
 bx : Boxed w (B + 1) 3 (.int .i64 x)
 bu : Boxed w (B + 1 + 1) 3 (.int .i64 u)
 hb : b < n₀
 hn : n₀ ≤ w.heap.size
 row : ∀ i, i < len → w.cell? ⟨b, off + i * 2, none⟩ = some (.int .i64 (ls.getD i du0).a) ∧ w.cell? ⟨b, off + i * 2 + 1, none⟩ = some (.int .i64 (ls.getD i du0).b)
theorem lines_stops (F : Fence) (n : Nat) (hF : F.fn 123) (hro : F.round = none) (hn : 1 ≤ n) (n₀ B b off len cap : Nat) (ls : List Du) (x u : Int) (w : World) (h : Lnd w n₀ B b off len cap ls x u) :
  SeqStopsK F n Tryz.prog 123 #[.pointer (some ⟨B + 1, 0, none⟩), .pointer (some ⟨B, 0, none⟩), .pointer (some ⟨B + 1 + 1, 0, none⟩)] encL (Kq n₀ B (B + 3)) (fun ys => lns ys = billK ls x (x + u) len) (fun pre => lns pre <+: billK ls x (x + u) len) len w := fun l J Jx W hW hJ _ hY h0 =>
 lines1_in F n hF hro hn l (B + 1) B (B + 1 + 1) n₀ B (B + 3) b off len cap W.heap.size ls x u J Jx h.right h.many ⟨h.x0, h.x1⟩ ⟨h.u0, h.u1⟩ hJ hY W
  (boxed_same h.bx (hW.block _ h.bx.lt)) (boxed_same h.bt (hW.block _ h.bt.lt)) (boxed_same h.bu (hW.block _ h.bu.lt)) ⟨by omega, by omega⟩ ⟨by omega, by omega⟩ h.hb (Nat.le_trans h.hn hW.size)
  (fun i hi => ⟨(hW.cell (p := ⟨b, off + i * 2, none⟩) (Nat.lt_of_lt_of_le h.hb h.hn)).trans (h.row i hi).1, (hW.cell (p := ⟨b, off + i * 2 + 1, none⟩) (Nat.lt_of_lt_of_le h.hb h.hn)).trans (h.row i hi).2⟩) h0
theorem Kq.refl (n lo hi : Nat) (W : World) : Kq n lo hi W W := ⟨Below.refl _ _, fun _ _ _ => rfl⟩
theorem Kq.alloc {n lo hi : Nat} {W W' : World} (h : Kq n lo hi W W') (o : Obj) (hn : n ≤ W'.heap.size) (hs : hi ≤ W'.heap.size) : Kq n lo hi W (W'.alloc o) := ⟨h.1.alloc hn o, fun j a b => (Below.heap_alloc W' o j (by omega)).trans (h.2 j a b)⟩
theorem Kq.set {n lo hi : Nat} {W W' : World} (h : Kq n lo hi W W') (B i : Nat) (v : Value) (hB : n ≤ B) (hl : B < lo ∨ hi ≤ B) : Kq n lo hi W (W'.setCell ⟨B, i, none⟩ v) := ⟨h.1.setCell (p := ⟨B, i, none⟩) hB v, fun j a b => (Below.heap_setCell W' ⟨B, i, none⟩ v j (by show j ≠ B; omega)).trans (h.2 j a b)⟩
theorem kq_b {n lo hi : Nat} {w : World} (hn : n ≤ w.heap.size) (hh : hi ≤ w.heap.size) (W : World) (l : Nat) (o o' : Obj) (hl : w.heap.size ≤ l) (h : W.heap[l]? = some o) (hc : o.isCells = false) (hw : o.isWalk = false) : Kq n lo hi W (W.putObj l o') := ⟨belowK_b hn W l o o' hl h hc hw, fun j a b => (grownBy_putObj' W l o').block j (by have := (Array.getElem?_eq_some_iff.1 h).1; omega) (fun e => by cases e; omega)⟩
theorem lnd_of {w w1 : World} (n₀ B b off len cap : Nat) {ls : List Du} {x u : Int} (hr : Right ls) (hl : ls.length = len) (hx : 0 ≤ x ∧ x ≤ 10000000) (hu : 0 ≤ u ∧ x + u ≤ 10000000) (hB : w1.heap.size = B) (hb : b < n₀) (hn : n₀ ≤ w1.heap.size)
  (hbel : Below n₀ w w1) (hc : ∀ i, i < len → w.cell? ⟨b, off + i * 2, none⟩ = some (.int .i64 (ls.getD i du0).a) ∧ w.cell? ⟨b, off + i * 2 + 1, none⟩ = some (.int .i64 (ls.getD i du0).b)) : Lnd (boxes w1 (.slice (some ⟨b, off, none⟩) len cap) x u) n₀ B b off len cap ls x u := by
 subst hB
 have h2 := boxes_bel hbel hn (.slice (some ⟨b, off, none⟩) len cap) x u
 exact ⟨hr, hl, hx.1, hx.2, hu.1, hu.2, boxes_t _ _ _ _, boxes_x _ _ _ _, boxes_u _ _ _ _, hb, by rw [boxes_size]; omega, fun i hi => ⟨(h2.cell (p := ⟨b, off + i * 2, none⟩) hb).trans (hc i hi).1, (h2.cell (p := ⟨b, off + i * 2 + 1, none⟩) hb).trans (hc i hi).2⟩⟩
end tar
namespace tar
theorem ov_before {l : List Du} (h : Right l) (x y z : Int) (k j : Nat) (hk : k < l.length) (hj : j < k) (hy : low l k ≤ y) (hz : low l k ≤ z) : ov (low l j) (l.getD j du0).a x z = ov (low l j) (l.getD j du0).a x y := by
 have h1 := low_mono h (j + 1) k (by omega) (by omega)
 rw [low_next] at h1
 unfold ov
 omega
theorem costK_before {l : List Du} (h : Right l) (x y z : Int) (k j : Nat) (hk : k < l.length) (hj : j ≤ k) (hy : low l k ≤ y) (hz : low l k ≤ z) : costK l x z j = costK l x y j := by
 induction j with
 | zero => rfl
 | succ j ih => rw [costK_next, costK_next, ih (by omega), ov_before h x y z k j hk (by omega) hy hz]
theorem costK_behind {l : List Du} (h : Right l) (x z : Int) (k j : Nat) (hkj : k ≤ j) (hj : j ≤ l.length) (hz : z ≤ low l k) : costK l x z j = costK l x z k := by
 induction j with
 | zero => have : k = 0 := by omega
           subst this; rfl
 | succ j ih =>
  by_cases e : k = j + 1
  ·subst e; rfl
  ·have h1 := ih (by omega) (by omega)
   have h2 := low_mono h k j (by omega) (by omega)
   rw [costK_next, h1, show ov (low l j) (l.getD j du0).a x z = 0 by unfold ov; omega]
   omega
theorem cost_part {l : List Du} (h : Right l) (x y : Int) (hx : 0 ≤ x) (hxy : x ≤ y) (k : Nat) (hk : k < l.length) (q : Int) (hq : 0 ≤ q) (hq2 : q ≤ ov (low l k) (l.getD k du0).a x y) (hp : 0 < ov (low l k) (l.getD k du0).a x y) :
  cost l x (x + (manyK l x y k + q)) = costK l x y k + q * (l.getD k du0).b := by
 have h1 := many_eq h x y hx hxy k (by omega)
 have h2 := h.rise k hk
 have h3 := h.low_pos k (by omega)
 have hlo : low l k ≤ y := by unfold ov at hp; omega
 have hz : low l k ≤ x + (manyK l x y k + q) := by rw [h1]; omega
 have hz2 : x + (manyK l x y k + q) ≤ low l (k + 1) := by rw [h1, low_next]; unfold ov at hq2 hp; omega
 unfold cost
 rw [costK_behind h x _ (k + 1) l.length (by omega) (Nat.le_refl _) hz2, costK_next, costK_before h x y _ k k hk (Nat.le_refl _) hlo hz]
 rw [show ov (low l k) (l.getD k du0).a x (x + (manyK l x y k + q)) = q by rw [h1]; unfold ov at hq2 hp ⊢; omega]
theorem bill_at (l : List Du) (x y : Int) (n : Nat) (p : List Tr) (t : Tr) (h : p ++ [t] <+: billK l x y n) : ∃ k, k < n ∧ p = billK l x y k ∧ 0 < ov (low l k) (l.getD k du0).a x y ∧ t = ⟨ov (low l k) (l.getD k du0).a x y, (l.getD k du0).b, ov (low l k) (l.getD k du0).a x y * (l.getD k du0).b⟩ := by
 induction n with
 | zero =>
  have := h.length_le
  simp [billK] at this
 | succ n ih =>
  by_cases hp : 0 < ov (low l n) (l.getD n du0).a x y
  ·rw [billK_yes l x y n hp] at h
   rcases List.prefix_concat_iff.1 h with h | h
   ·obtain ⟨h1, h2⟩ := List.append_inj' h rfl
    exact ⟨n, by omega, h1, hp, by simpa using h2⟩
   ·obtain ⟨k, a, b⟩ := ih h
    exact ⟨k, by omega, b⟩
  ·rw [billK_no l x y n hp] at h
   obtain ⟨k, a, b⟩ := ih h
   exact ⟨k, by omega, b⟩
theorem top_bd {x : Int} (hx : 0 ≤ x ∧ x ≤ 10000000) : 0 ≤ Top x ∧ x + Top x ≤ 10000000 := by unfold Top; omega
theorem most_all {l : List Du} (h : Right l) (x m : Int) (hx : 0 ≤ x ∧ x ≤ 10000000) (hm : sumC (billK l x (x + Top x) l.length) ≤ m) : MostOf l x m (sumA (billK l x (x + Top x) l.length)) ∧ sumC (billK l x (x + Top x) l.length) = cost l x (x + sumA (billK l x (x + Top x) l.length)) := by
 have ht := top_bd hx
 have h1 := bill_sums l x (x + Top x) l.length
 have h2 := many_all h x (x + Top x) hx.1 (by omega) ht.2
 have e : sumA (billK l x (x + Top x) l.length) = Top x := by rw [h1.1, h2]; omega
 have e2 : sumC (billK l x (x + Top x) l.length) = cost l x (x + Top x) := h1.2
 rw [e, e2]
 rw [e2] at hm
 exact ⟨⟨⟨ht.1, Int.le_refl _⟩, hm, .inl rfl⟩, rfl⟩
theorem most_cut {l : List Du} (h : Right l) (x m q : Int) (hx : 0 ≤ x ∧ x ≤ 10000000) (p : List Tr) (t : Tr) (hpre : p ++ [t] <+: billK l x (x + Top x) l.length) (hq0 : 0 ≤ q) (hq : q < t.a) (h1 : sumC p + q * t.b ≤ m) (h2 : m < sumC p + (q + 1) * t.b) :
  MostOf l x m (sumA p + q) ∧ sumC p + q * t.b = cost l x (x + (sumA p + q)) := by
 have ht := top_bd hx
 obtain ⟨k, hk, rfl, hp, rfl⟩ := bill_at l x (x + Top x) l.length p t hpre
 have hs := bill_sums l x (x + Top x) k
 rw [hs.1, hs.2]
 rw [hs.2] at h1 h2
 dsimp only at hq h1 h2 ⊢
 have e1 := cost_part h x (x + Top x) hx.1 (by omega) k hk q hq0 (by omega) hp
 have e2 := cost_part h x (x + Top x) hx.1 (by omega) k hk (q + 1) (by omega) (by omega) hp
 have hb := many_bd h x (x + Top x) hx.1 (by omega) k (by omega)
 have hb2 := many_bd h x (x + Top x) hx.1 (by omega) (k + 1) (by omega)
 rw [many_next] at hb2
 rw [e1]
 refine ⟨⟨⟨by omega, by omega⟩, by rw [e1]; exact h1, .inr ?_⟩, rfl⟩
 rw [show manyK l x (x + Top x) k + q + 1 = manyK l x (x + Top x) k + (q + 1) by omega, e2]
 exact h2
theorem sums_bd (l : List Tr) (h : ∀ t ∈ l, LineOk t) : (0 ≤ sumA l ∧ sumA l ≤ (l.length : Int) * 10000000) ∧ 0 ≤ sumC l := by
 induction l with
 | nil => exact ⟨⟨Int.le_refl _, Int.le_refl _⟩, Int.le_refl _⟩
 | cons t l ih =>
  have h1 := ih fun x hx => h x (List.mem_cons_of_mem _ hx)
  obtain ⟨a1, a2, a3, a4, a5⟩ := h t List.mem_cons_self
  have h2 := prod_bd (show 0 ≤ t.a by omega) a2 a3 a4
  rw [← a5] at h2
  have e : ((t :: l).length : Int) = (l.length : Int) + 1 := by simp
  rw [e, Int.add_mul]
  exact ⟨⟨by show 0 ≤ t.a + sumA l; omega, by show t.a + sumA l ≤ _; omega⟩, by show 0 ≤ t.c + sumC l; omega⟩
theorem quo_bd {d p q : Int} (hd : 0 ≤ d) (hp : 1 ≤ p) (hq : d / p = q) : 0 ≤ q ∧ q * p ≤ d ∧ d < (q + 1) * p ∧ q ≤ d := by
 subst hq
 have h1 := Int.ediv_nonneg hd (show 0 ≤ p by omega)
 have h2 := Int.mul_ediv_self_le (x := d) (k := p) (by omega)
 have h3 := Int.lt_mul_ediv_self_add (x := d) (k := p) (by omega)
 have h4 : d / p ≤ d := Int.ediv_le_self _ hd
 rw [Int.mul_comm] at h2 h3
 exact ⟨h1, h2, by rw [Int.add_mul]; omega, h4⟩
theorem snoc_one {p : List Ln} {t : Ln} : lns (p ++ [t]) = lns p ++ [t.1] := by rw [lns_app]; rfl
theorem sums_one (p : List Ln) (t : Ln) : sumA (lns (p ++ [t])) = sumA (lns p) + t.1.a ∧ sumC (lns (p ++ [t])) = sumC (lns p) + t.1.c := by
 rw [snoc_one, sumA_app, sumC_app]
 exact ⟨by show _ + (t.1.a + 0) = _; omega, by show _ + (t.1.c + 0) = _; omega⟩
end tar
section
open Go.RowKit
theorem operIn_round {F : Fence} {n : Nat} {P : Program} (hro : F.round = none) (l : Nat) {o : Oper} (hd : ∀ c, o.op ≠ .defer c) {a : Act} {w : World} {K K' : Act → World → Prop} {Q : Exit → Act → World → Prop} (hK : ∀ a w, K a w → K' a w) (h : o.wpIn F n P a w K Q) : o.wpIn (F.inRound l) n P a w K' Q := by
 have h2 := Oper.wpIn_mono hK h
 unfold Oper.wpIn at *
 refine ⟨h2.1, ?_⟩
 have h3 := h2.2
 rw [hro, Oper.semAt_none] at h3
 rw [Fence.inRound_round, Oper.semAt_some l _ _ hd]
 generalize (execOp a.eval o).run P w = r at *
 cases r with
 | ok x w' => cases x <;> exact h3
 | halt x w' => cases x <;> exact h3
theorem opsIn_round {F : Fence} {n : Nat} {P : Program} {ops : Array Oper} {Q : Exit → Act → World → Prop} (hro : F.round = none) (l : Nat) (hd : ∀ (i : Nat) (o : Oper), ops[i]? = some o → ∀ c, o.op ≠ .defer c) : ∀ (s : List Nat) (a : Act) (w : World), wpOpsIn F n P ops Q s a w → wpOpsIn (F.inRound l) n P ops Q s a w
 | [], _, _, h => h
 | i :: s, a, w, h => by
  unfold wpOpsIn at h ⊢
  cases hi : ops[i]? with
  | none => rw [hi] at h; exact opsIn_round hro l hd s a w h
  | some o =>
   rw [hi] at h
   dsimp only at h ⊢
   by_cases hw : Region.wanted o (yielded ops a.tmps) = true
   ·rw [if_pos hw] at h ⊢
    exact operIn_round hro l (hd i o hi) (fun a w h => opsIn_round hro l hd s a w h) h
   ·rw [if_neg hw] at h ⊢
    exact ⟨h.1, opsIn_round hro l hd s _ w h.2⟩
def noDefer (l : List Oper) : Bool := l.all fun o => match o.op with | .defer _ => false | _ => true
theorem noDefer_spec {l : List Oper} (h : noDefer l = true) (i : Nat) (o : Oper) (ho : l.toArray[i]? = some o) (c : Call) : o.op ≠ .defer c := by
 intro e
 have h1 : o ∈ l := by
  have : l[i]? = some o := by simpa using ho
  exact List.mem_of_getElem? this
 have h2 := List.all_eq_true.1 h o h1
 rw [e] at h2
 exact Bool.noConfusion h2
theorem round_quiet {F : Fence} {n : Nat} {P : Program} {id : Nat} {Q : Exit → Act → World → Prop} {a : Act} {w : World} {l : List Oper} {r : Nat} (hro : F.round = none) (hm : P.follows .mixedOrders = true) (hB : Region.lexB .any l.toArray = true) (hd : noDefer l = true)
  (h : wpQuietIn F n P l.toArray (fun w' => ∃ n, w' = w.drewN n) (fun a' => ∀ w', (∃ n, w' = w.drewN n) → Q .normal a' w') l a) : (Code.region id l.toArray true).wpIn (F.inRound r) n P Q a w := by
 simp only [Region.lexB, Bool.and_eq_true] at hB
 refine wpIn_region_draw fun t => opsIn_round hro r (noDefer_spec hd) _ _ _ ?_
 simp only [Region.schedule, hm, Bool.true_or, if_true]
 refine wpAnyIn_sound _ t _ a _ ?_
 refine wpAnyIn_of_quiet (C := fun w' => ∃ n, w' = w.drewN n) (Q := fun a' => ∀ w', (∃ n, w' = w.drewN n) → Q .normal a' w') hro (fun _ w' hw' h => h w' hw') _ _ _ _ ⟨1, rfl⟩ ?_
 have := wpAnyQIn_lex (F := F) (n := n) (C := fun w' => ∃ n, w' = w.drewN n) (md := .any) hB.1 l 0 (Array.replicate l.toArray.size false) a (by simp) (by simpa using hB.2) h
 simpa using this
end
namespace tar
open Go.RowKit
def KtMost : Prop := ∀ (W : World) (a : Option Addr) (len cap : Nat) (ls : List Du) (x n : Int), Came W a len cap ls → (Lit.int .i64 x).wf = true → (Lit.int .i64 n).wf = true → Calls Tryz.prog 116 #[.slice a len cap, .int .i64 x, .int .i64 n] W fun e w' => ThreePost W (MostIs ls x n) e w'
end tar
end Go.Proofs.YtomibnggmhjdfaaGreat
