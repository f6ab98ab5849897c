import Derived.Test.YtomibnggmhjdfaaGreatVVRrs5
set_option linter.unusedVariables false
set_option linter.unusedSimpArgs false
namespace Go.Proofs.YtomibnggmhjdfaaGreat
namespace book
open Go.RowKit
open acc (Ac Tm Bi APost BPost OweIs SellIs GrantIs RekeyIs)
set_option maxRecDepth 100000
theorem drew_fresh {w : World} {base : Nat} {a : Option Addr} {n cap : Nat} {zs : List tar.Du} (h : deb.Fresh w base a n cap zs) : deb.Fresh w.drew base a n cap zs := h.below (Below.refl _ _).drew
theorem bill_ne {l : Bi} {v : Ev} (h : l ≠ billOf v) : ¬ (l.id = v.id ∧ l.te = v.te ∧ l.de = v.de ∧ l.fe = v.fe ∧ l.pr = v.pr ∧ l.ch = v.ch ∧ l.un = v.un) := fun ⟨h1, h2, h3, h4, h5, h6, h7⟩ => h (by
 cases l
 unfold billOf
 simp only at h1 h2 h3 h4 h5 h6 h7
 rw [h1, h2, h3, h4, h5, h6, h7])
theorem lo_upd {w W : World} {base g : Nat} {cs : Array Value} {t : TypeId} {v : Value} {l : List So} (h : Lo w base v l) (hU : Upd w W g cs t) (hg : ∀ k, v.ownBlock = some k → k ≠ g) : Lo W base v l := by
 refine ⟨h.1, ?_⟩
 rcases h.2 with hn | ⟨g', cap, cur, hv, hb, hc, rest⟩
 ·exact .inl hn
 ·exact .inr ⟨g', cap, cur, hv, hb, by rw [hU.oth g' (hg g' (by rw [hv]; rfl))]; exact hc, rest⟩
theorem grown_upd {w w9 W : World} {g : Nat} {cs : Array Value} {t : TypeId} {own : Option Nat} (h : w.grownBy w9 own) (hU : Upd w9 W g cs t) (hg : w.heap.size ≤ g) : w.grownBy W own := by
 have hb := hU.bel w.heap.size w9 hg (Below.refl _ _)
 exact ⟨hb.os.trans h.os, hb.tape.trans h.tape, hb.output.trans h.output, Nat.le_trans h.size (by rw [hU.size]; exact Nat.le_refl _), fun k hk hne => by rw [hU.oth k (by omega)]; exact h.block k hk hne⟩
open acc (TFault TRight OpenIs)
theorem lc_upd2 {w W : World} {base g : Nat} {cs : Array Value} {t : TypeId} {v : Value} {l : List Cu} (h : Lc w base v l) (hU : Upd w W g cs t) (hg : g < base) : Lc W base v l := by
 refine ⟨h.1, ?_⟩
 rcases h.2 with hn | ⟨g', cap, cur, hv, hb, hc, rest⟩
 ·exact .inl hn
 ·exact .inr ⟨g', cap, cur, hv, hb, by rw [hU.oth g' (by omega)]; exact hc, rest⟩
theorem Holds.upd {w W : World} {base g : Nat} {cs : Array Value} {t : TypeId} {V : Value} {xs : List Cu} {bk : List Cm} (h : Holds w base V xs bk) (hU : Upd w W g cs t) (hg : g < base) : Holds W base V xs bk :=
 ⟨lc_upd2 h.row hU hg, h.len, fun i hi => ⟨(h.has i hi).num, ⟨acc_upd (h.has i hi).ds.came hU (fun hn y hy q => by have := (h.has i hi).ds.new hn y hy; omega), (h.has i hi).ds.new⟩, lo_upd (h.has i hi).so hU (fun k hk q => by have := (World.ownsRow.lt (h.has i hi).so k hk).1; omega)⟩, h.off, h.self, h.apart⟩
theorem Turned.next {w w' w'' : World} {base : Nat} {x x' : Cu} {c' : Cm} (h : Turned w w' base x x' c') (hb : Below w'.heap.size w' w'') : Turned w w'' base x x' c' := ⟨h.grown.trans (grown_of hb _), h.has.next hb, h.own, h.new, h.self⟩
theorem Turned.upd {w w' w'' : World} {base g : Nat} {cs : Array Value} {ty : TypeId} {x x' : Cu} {c' : Cm} (h : Turned w w' base x x' c') (hU : Upd w' w'' g cs ty) (hg : w.heap.size ≤ g) (h1 : ∀ k, x'.sold.ownBlock = some k → k ≠ g) (h2 : 0 < x'.dn → ∀ p, x'.dp = some p → p.block ≠ g) : Turned w w'' base x x' c' := ⟨grown_upd h.grown hU hg, ⟨h.has.num, ⟨acc_upd h.has.ds.came hU h2, h.has.ds.new⟩, lo_upd h.has.so hU h1⟩, h.own, h.new, h.self⟩
theorem Turned.prev {w0 w w' : World} {base : Nat} {x x' : Cu} {c' : Cm} (h : Turned w w' base x x' c') (hb : Below w0.heap.size w0 w) : Turned w0 w' base x x' c' := ⟨(grown_of hb _).trans h.grown, h.has, fun g hg => (h.own g hg).imp id (fun q => Nat.le_trans hb.size q), fun hn p hp => Nat.le_trans hb.size (h.new hn p hp), h.self⟩
theorem Turned.lt {w w' : World} {base : Nat} {x x' : Cu} {c' : Cm} (h : Turned w w' base x x' c') : (∀ k, x'.sold.ownBlock = some k → k < w'.heap.size) ∧ (0 < x'.dn → ∀ p, x'.dp = some p → p.block < w'.heap.size) := ⟨fun k hk => (World.ownsRow.lt h.has.so k hk).2, fun hn p hp => by
 obtain ⟨b, off, e, lb, _⟩ := h.has.ds.came.row.at hn
 rw [hp] at e
 rw [Option.some.inj e]; exact lb⟩
theorem blk_kept {w w' : World} {own : Option Nat} {g : Nat} {cs : Array Value} {ty : TypeId} (h : Blk w g cs ty) (hg : w.grownBy w' own) (hne : some g ≠ own) : Blk w' g cs ty := by
 show w'.heap[g]? = _
 rw [hg.block g h.lt hne]; exact h
theorem lc_kept {w w' : World} {base : Nat} {own : Option Nat} {v : Value} {l : List Cu} (h : Lc w base v l) (hg : w.grownBy w' own) (hne : ∀ g, v.ownBlock = some g → own ≠ some g) : Lc w' base v l := by
 refine World.ownsRow.kept h hg ?_
 cases e : v.ownBlock with
 | none => exact .inl rfl
 | some g => exact .inr (fun q => hne g e q.symm)
theorem upd_grown {w W : World} {g : Nat} {cs : Array Value} {t : TypeId} (hU : Upd w W g cs t) : w.grownBy W (some g) := by
 have hb := hU.bel 0 w (Nat.zero_le _) (Below.refl _ _)
 exact ⟨hb.os, hb.tape, hb.output, by rw [hU.size]; exact Nat.le_refl _, fun k hk hne => hU.oth k (fun e => hne (by rw [e]))⟩
theorem bel_turned {w0 w w' : World} {B : Nat} {own : Option Nat} (h : Below B w0 w) (hg : w.grownBy w' own) (hs : B ≤ w.heap.size) (ho : ∀ k, own = some k → B ≤ k) : Below B w0 w' := h.grown hg hs ho
def BookPost (w : World) (t : Tm) (l : List Ev) (e : Ending) (w' : World) : Prop := ∃ p m cap xs bk at_ f, e = .returned (.tuple #[.agg #[.slice p m cap], .int .i64 at_, .int .i64 f]) ∧ BookIs t l bk at_ f ∧ Sees w' p m xs bk ∧ m ≤ 120 ∧ Below w.heap.size w w'
theorem getD_mem {bk : List Cm} {j : Nat} (h : j < bk.length) : bk.getD j cm0 ∈ bk := by
 have e : bk.getD j cm0 = bk[j] := by simp [List.getD, List.getElem?_eq_getElem h]
 rw [e]; exact List.getElem_mem _
theorem sees_nil (w : World) : Sees w none 0 [] [] := ⟨⟨rfl, .inl rfl⟩, rfl, (fun i hi => by cases hi), (fun i hi => by cases hi), (fun i hi => by cases hi)⟩
structure Mid (w : World) (t : Tm) (pt : Option Addr) (lt ct : Nat) (l : List Ev) (g8 base k : Nat) (st : Nat → List Cm) (xs : List Cu) (pa : Option Addr) (pc : Nat) (wr : World) : Prop where
 s0 : st 0 = []
 steps : ∀ i, i < k → StepIs t (st i) (l.getD i ev0) (st (i + 1)) 0
 small : Small (st k) k
 bt : Blk wr w.heap.size #[.slice pt lt ct, .int .i64 t.ff, .int .i64 t.fb, .int .i64 t.db, .int .i64 t.al] 24
 br : Blk wr (w.heap.size + 1) #[.slice none 0 0] 29
 bb : Blk wr g8 #[.slice pa xs.length pc] 29
 hold : Holds wr base (.slice pa xs.length pc) xs (st k)
 bel : Below w.heap.size w wr
 sz : base ≤ wr.heap.size
theorem Mid.next {w : World} {t : Tm} {pt : Option Addr} {lt ct : Nat} {l : List Ev} {g8 base k : Nat} {st : Nat → List Cm} {xs : List Cu} {pa : Option Addr} {pc : Nat} {wr wr' : World} (h : Mid w t pt lt ct l g8 base k st xs pa pc wr) (hb : Below wr.heap.size wr wr') : Mid w t pt lt ct l g8 base k st xs pa pc wr' := ⟨h.s0, h.steps, h.small, h.bt.next hb, h.br.next hb, h.bb.next hb, h.hold.next hb, h.bel.trans (hb.mono h.bel.size), Nat.le_trans h.sz hb.size⟩
theorem Mid.few {w : World} {t : Tm} {pt : Option Addr} {lt ct : Nat} {l : List Ev} {g8 base k : Nat} {st : Nat → List Cm} {xs : List Cu} {pa : Option Addr} {pc : Nat} {wr : World} (h : Mid w t pt lt ct l g8 base k st xs pa pc wr) : xs.length ≤ k := by rw [h.hold.len]; exact h.small.1
theorem Mid.stop {w : World} {t : Tm} {pt : Option Addr} {lt ct : Nat} {l : List Ev} {g8 base k : Nat} {st : Nat → List Cm} {xs : List Cu} {pa : Option Addr} {pc : Nat} {wr : World} (h : Mid w t pt lt ct l g8 base k st xs pa pc wr) (hT : TRight t) (hl : l.length ≤ 120) (hk : k < l.length) {x : List Cm} {f : Int} (hs : StepIs t (st k) (l.getD k ev0) x f) (hf : f ≠ 0) : BookIs t l [] (k : Int) f := .inr (.inr ⟨hT, hl, k, st, h.s0, h.steps, .inr ⟨hk, ⟨x, hs⟩, hf, rfl, rfl⟩⟩)
theorem eqI (d : Nat) (a b : Int) (w : World) : (Op.equalIn (d + 1) 3 (.int .i64 a) (.int .i64 b)).run Tryz.prog w = .ok (a == b) w := run_equalIn_int w d _ _ _ a b Tryz.underlying3
theorem eqBi_f0 (a0 a1 a2 a3 a4 a5 a6 : Int) (w : World) : (part 3 #[.int .i64 a0, .int .i64 a1, .int .i64 a2, .int .i64 a3, .int .i64 a4, .int .i64 a5, .int .i64 a6] 0).run Tryz.prog w = .ok (.int .i64 a0) w := by kernel_rfl
theorem eqBi_f1 (a0 a1 a2 a3 a4 a5 a6 : Int) (w : World) : (part 3 #[.int .i64 a0, .int .i64 a1, .int .i64 a2, .int .i64 a3, .int .i64 a4, .int .i64 a5, .int .i64 a6] 1).run Tryz.prog w = .ok (.int .i64 a1) w := by kernel_rfl
theorem eqBi_f2 (a0 a1 a2 a3 a4 a5 a6 : Int) (w : World) : (part 3 #[.int .i64 a0, .int .i64 a1, .int .i64 a2, .int .i64 a3, .int .i64 a4, .int .i64 a5, .int .i64 a6] 2).run Tryz.prog w = .ok (.int .i64 a2) w := by kernel_rfl
theorem eqBi_f3 (a0 a1 a2 a3 a4 a5 a6 : Int) (w : World) : (part 3 #[.int .i64 a0, .int .i64 a1, .int .i64 a2, .int .i64 a3, .int .i64 a4, .int .i64 a5, .int .i64 a6] 3).run Tryz.prog w = .ok (.int .i64 a3) w := by kernel_rfl
theorem eqBi_f4 (a0 a1 a2 a3 a4 a5 a6 : Int) (w : World) : (part 3 #[.int .i64 a0, .int .i64 a1, .int .i64 a2, .int .i64 a3, .int .i64 a4, .int .i64 a5, .int .i64 a6] 4).run Tryz.prog w = .ok (.int .i64 a4) w := by kernel_rfl
theorem eqBi_f5 (a0 a1 a2 a3 a4 a5 a6 : Int) (w : World) : (part 3 #[.int .i64 a0, .int .i64 a1, .int .i64 a2, .int .i64 a3, .int .i64 a4, .int .i64 a5, .int .i64 a6] 5).run Tryz.prog w = .ok (.int .i64 a5) w := by kernel_rfl
theorem eqBi_f6 (a0 a1 a2 a3 a4 a5 a6 : Int) (w : World) : (part 3 #[.int .i64 a0, .int .i64 a1, .int .i64 a2, .int .i64 a3, .int .i64 a4, .int .i64 a5, .int .i64 a6] 6).run Tryz.prog w = .ok (.int .i64 a6) w := by kernel_rfl
theorem eqBi (d : Nat) (a0 a1 a2 a3 a4 a5 a6 b0 b1 b2 b3 b4 b5 b6 : Int) (w : World) : (Op.equalIn (d + 2) 69 (.agg #[.int .i64 a0, .int .i64 a1, .int .i64 a2, .int .i64 a3, .int .i64 a4, .int .i64 a5, .int .i64 a6]) (.agg #[.int .i64 b0, .int .i64 b1, .int .i64 b2, .int .i64 b3, .int .i64 b4, .int .i64 b5, .int .i64 b6])).run Tryz.prog w = .ok (decide (a0 = b0 ∧ a1 = b1 ∧ a2 = b2 ∧ a3 = b3 ∧ a4 = b4 ∧ a5 = b5 ∧ a6 = b6)) w := by
 rw [run_equalIn_agg w (d + 1) 69 _ _ (by kernel_rfl) (by kernel_rfl)]
 simp only [Program.fieldsOf, Tryz.underlying69, Op.eqFields, Sem.run_bind, Sem.run_ite, eqBi_f0, eqBi_f1, eqBi_f2, eqBi_f3, eqBi_f4, eqBi_f5, eqBi_f6, Result.andThen_ok, eqI]
 by_cases h0 : a0 = b0
 case neg => simp [h0]
 subst h0
 by_cases h1 : a1 = b1
 case neg => simp [h1]
 subst h1
 by_cases h2 : a2 = b2
 case neg => simp [h2]
 subst h2
 by_cases h3 : a3 = b3
 case neg => simp [h3]
 subst h3
 by_cases h4 : a4 = b4
 case neg => simp [h4]
 subst h4
 by_cases h5 : a5 = b5
 case neg => simp [h5]
 subst h5
 by_cases h6 : a6 = b6
 case neg => simp [h6]
 subst h6
 simp
theorem eqDe_f0 (a0 a1 : Int) (w : World) : (part 3 #[.int .i64 a0, .int .i64 a1] 0).run Tryz.prog w = .ok (.int .i64 a0) w := by kernel_rfl
theorem eqDe_f1 (a0 a1 : Int) (w : World) : (part 3 #[.int .i64 a0, .int .i64 a1] 1).run Tryz.prog w = .ok (.int .i64 a1) w := by kernel_rfl
theorem eqDe (d : Nat) (a0 a1 b0 b1 : Int) (w : World) : (Op.equalIn (d + 2) 43 (.agg #[.int .i64 a0, .int .i64 a1]) (.agg #[.int .i64 b0, .int .i64 b1])).run Tryz.prog w = .ok (decide (a0 = b0 ∧ a1 = b1)) w := by
 rw [run_equalIn_agg w (d + 1) 43 _ _ (by kernel_rfl) (by kernel_rfl)]
 simp only [Program.fieldsOf, Tryz.underlying43, Op.eqFields, Sem.run_bind, Sem.run_ite, eqDe_f0, eqDe_f1, Result.andThen_ok, eqI]
 by_cases h0 : a0 = b0
 case neg => simp [h0]
 subst h0
 by_cases h1 : a1 = b1
 case neg => simp [h1]
 subst h1
 simp
theorem eqEv_f0 (a0 a1 a2 a3 a4 a5 a6 a7 a8 a9 a10 a11 a12 : Int) (w : World) : (part 3 #[.int .i64 a0, .int .i64 a1, .int .i64 a2, .int .i64 a3, .int .i64 a4, .int .i64 a5, .int .i64 a6, .int .i64 a7, .int .i64 a8, .int .i64 a9, .int .i64 a10, .int .i64 a11, .int .i64 a12] 0).run Tryz.prog w = .ok (.int .i64 a0) w := by kernel_rfl
theorem eqEv_f1 (a0 a1 a2 a3 a4 a5 a6 a7 a8 a9 a10 a11 a12 : Int) (w : World) : (part 3 #[.int .i64 a0, .int .i64 a1, .int .i64 a2, .int .i64 a3, .int .i64 a4, .int .i64 a5, .int .i64 a6, .int .i64 a7, .int .i64 a8, .int .i64 a9, .int .i64 a10, .int .i64 a11, .int .i64 a12] 1).run Tryz.prog w = .ok (.int .i64 a1) w := by kernel_rfl
theorem eqEv_f2 (a0 a1 a2 a3 a4 a5 a6 a7 a8 a9 a10 a11 a12 : Int) (w : World) : (part 3 #[.int .i64 a0, .int .i64 a1, .int .i64 a2, .int .i64 a3, .int .i64 a4, .int .i64 a5, .int .i64 a6, .int .i64 a7, .int .i64 a8, .int .i64 a9, .int .i64 a10, .int .i64 a11, .int .i64 a12] 2).run Tryz.prog w = .ok (.int .i64 a2) w := by kernel_rfl
theorem eqEv_f3 (a0 a1 a2 a3 a4 a5 a6 a7 a8 a9 a10 a11 a12 : Int) (w : World) : (part 69 #[.int .i64 a0, .int .i64 a1, .int .i64 a2, .int .i64 a3, .int .i64 a4, .int .i64 a5, .int .i64 a6, .int .i64 a7, .int .i64 a8, .int .i64 a9, .int .i64 a10, .int .i64 a11, .int .i64 a12] 3).run Tryz.prog w = .ok (.agg #[.int .i64 a3, .int .i64 a4, .int .i64 a5, .int .i64 a6, .int .i64 a7, .int .i64 a8, .int .i64 a9]) w := by kernel_rfl
theorem eqEv_f10 (a0 a1 a2 a3 a4 a5 a6 a7 a8 a9 a10 a11 a12 : Int) (w : World) : (part 3 #[.int .i64 a0, .int .i64 a1, .int .i64 a2, .int .i64 a3, .int .i64 a4, .int .i64 a5, .int .i64 a6, .int .i64 a7, .int .i64 a8, .int .i64 a9, .int .i64 a10, .int .i64 a11, .int .i64 a12] 10).run Tryz.prog w = .ok (.int .i64 a10) w := by kernel_rfl
theorem eqEv_f11 (a0 a1 a2 a3 a4 a5 a6 a7 a8 a9 a10 a11 a12 : Int) (w : World) : (part 43 #[.int .i64 a0, .int .i64 a1, .int .i64 a2, .int .i64 a3, .int .i64 a4, .int .i64 a5, .int .i64 a6, .int .i64 a7, .int .i64 a8, .int .i64 a9, .int .i64 a10, .int .i64 a11, .int .i64 a12] 11).run Tryz.prog w = .ok (.agg #[.int .i64 a11, .int .i64 a12]) w := by kernel_rfl
theorem eqEv (d : Nat) (a0 a1 a2 a3 a4 a5 a6 a7 a8 a9 a10 a11 a12 b0 b1 b2 b3 b4 b5 b6 b7 b8 b9 b10 b11 b12 : Int) (w : World) : (Op.equalIn (d + 3) 71 (.agg #[.int .i64 a0, .int .i64 a1, .int .i64 a2, .int .i64 a3, .int .i64 a4, .int .i64 a5, .int .i64 a6, .int .i64 a7, .int .i64 a8, .int .i64 a9, .int .i64 a10, .int .i64 a11, .int .i64 a12]) (.agg #[.int .i64 b0, .int .i64 b1, .int .i64 b2, .int .i64 b3, .int .i64 b4, .int .i64 b5, .int .i64 b6, .int .i64 b7, .int .i64 b8, .int .i64 b9, .int .i64 b10, .int .i64 b11, .int .i64 b12])).run Tryz.prog w = .ok (decide (a0 = b0 ∧ a1 = b1 ∧ a2 = b2 ∧ a3 = b3 ∧ a4 = b4 ∧ a5 = b5 ∧ a6 = b6 ∧ a7 = b7 ∧ a8 = b8 ∧ a9 = b9 ∧ a10 = b10 ∧ a11 = b11 ∧ a12 = b12)) w := by
 rw [run_equalIn_agg w (d + 2) 71 _ _ (by kernel_rfl) (by kernel_rfl)]
 simp only [Program.fieldsOf, Tryz.underlying71, Op.eqFields, Sem.run_bind, Sem.run_ite, eqEv_f0, eqEv_f1, eqEv_f2, eqEv_f3, eqEv_f10, eqEv_f11, Result.andThen_ok, eqI, eqBi, eqDe]
 by_cases h0 : a0 = b0
 case neg => simp [h0]
 subst h0
 by_cases h1 : a1 = b1
 case neg => simp [h1]
 subst h1
 by_cases h2 : a2 = b2
 case neg => simp [h2]
 subst h2
 by_cases h3 : a3 = b3 ∧ a4 = b4 ∧ a5 = b5 ∧ a6 = b6 ∧ a7 = b7 ∧ a8 = b8 ∧ a9 = b9
 case neg =>
  have h3d := decide_eq_false h3
  have hx : ¬ (a0 = a0 ∧ a1 = a1 ∧ a2 = a2 ∧ a3 = b3 ∧ a4 = b4 ∧ a5 = b5 ∧ a6 = b6 ∧ a7 = b7 ∧ a8 = b8 ∧ a9 = b9 ∧ a10 = b10 ∧ a11 = b11 ∧ a12 = b12) := fun h => h3 ⟨h.2.2.2.1, h.2.2.2.2.1, h.2.2.2.2.2.1, h.2.2.2.2.2.2.1, h.2.2.2.2.2.2.2.1, h.2.2.2.2.2.2.2.2.1, h.2.2.2.2.2.2.2.2.2.1⟩
  simp only [h3d, decide_eq_false hx]
  simp
  intro e3 e4 e5 e6 e7 e8 e9
  exact absurd ⟨e3, e4, e5, e6, e7, e8, e9⟩ h3
 obtain ⟨rfl, rfl, rfl, rfl, rfl, rfl, rfl⟩ := h3
 by_cases h10 : a10 = b10
 case neg => simp [h10]
 subst h10
 by_cases h11 : a11 = b11
 case neg => simp [h11]
 subst h11
 by_cases h12 : a12 = b12
 case neg => simp [h12]
 subst h12
 simp
end book
namespace cal
open Go.RowKit
theorem cin (n lo hi : Int) (w : World) : Calls Tryz.prog 25 #[.int .i64 n, .int .i64 lo, .int .i64 hi] w fun e w' => e = .returned (.bool (decide (lo ≤ n ∧ n ≤ hi))) ∧ w' = w := by
 by_cases h1 : lo ≤ n
 ·by_cases h2 : n ≤ hi
  ·have h3 : decide (lo ≤ n ∧ n ≤ hi) = true := by simp; omega
   rw [h3]; clear h3
   go_enter Tryz.func25, Tryz.ntmps25
   go_wp2
   go_ret
   exact ⟨rfl, rfl⟩
  ·have h3 : decide (lo ≤ n ∧ n ≤ hi) = false := by simp; omega
   have h4 : decide (n ≤ hi) = false := by simp; omega
   rw [h3]; clear h3 h2
   go_enter Tryz.func25, Tryz.ntmps25
   go_wp2
   go_ret
   exact ⟨rfl, rfl⟩
 ·have h3 : decide (lo ≤ n ∧ n ≤ hi) = false := by simp; omega
  have h4 : decide (lo ≤ n) = false := by simp; omega
  rw [h3]; clear h3 h1
  go_enter Tryz.func25, Tryz.ntmps25
  go_wp2
  go_ret
  exact ⟨rfl, rfl⟩
end cal
section
open Go.RowKit
theorem wp_runOp {P : Program} {o : Oper} {a : Act} {w w' : World} {v : Value} {K : Act → World → Prop} {Q : Exit → Act → World → Prop} (d : Nat) (hd : o.dst = some d) (hrun : (execOp a.eval o).run P w = .ok (.value v) w') (h : K (a.put (some d) v) w') : o.wp P a w K Q := by
 rw [← hd] at h
 unfold Oper.wp
 rw [hrun, Oper.upon_value]
 exact h
theorem wp_callOp {P : Program} {o : Oper} {a : Act} {w : World} {f : FuncId} {args : Array Value} {R : Ending → World → Prop} {K : Act → World → Prop} {Q : Exit → Act → World → Prop} (d : Nat) (hd : o.dst = some d) (hrun : (execOp a.eval o).run P w = .ok (.enter f args) w) (hc : Calls P f args w R)
  (h : ∀ e w', R e w' → ∃ v, e = .returned v ∧ K (a.put (some d) v) w') : o.wp P a w K Q := by
 rw [← hd] at h
 unfold Oper.wp
 rw [hrun, Oper.upon_enter]
 refine hc.mono fun e w' hr => ?_
 obtain ⟨v, rfl, hk⟩ := h e w' hr
 exact hk
end
section
open Go.RowKit
theorem run_eqOp {P : Program} {o : Oper} {a : Act} {w : World} (ty rt : TypeId) (x y : Operand) (ho : o.op = .binOp .eql ty x y rt) (ca cb : Array Value) (hx : a.eval x = .agg ca) (hy : a.eval y = .agg cb) (hg : P.eqGuardType P.depth ty = false) (b : Bool)
  (hr : (Op.equalIn 10000 ty (.agg ca) (.agg cb)).run P w = .ok b w) : (execOp a.eval o).run P w = .ok (.value (.bool b)) w := by
 have hr' : (Op.equal ty (.agg ca) (.agg cb)).run P w = .ok b w := hr
 unfold execOp
 simp only [ho, hx, hy]
 have hp : ∀ w' : World, (program : Sem Program).run P w' = .ok P w' := fun _ => rfl
 simp [eqGuard, hg, binOp, hr', hp, Sem.run_bind]
theorem wp_eqE {P : Program} {ops : Array Oper} {rest : List Oper} {o : Oper} {a : Act} {w : World} {Q : Exit → Act → World → Prop} (hw : Region.wanted o (yielded ops a.tmps) = true) (ty rt : TypeId) (x y : Operand) (ho : o.op = .binOp .eql ty x y rt) (ca cb : Array Value) (hx : a.eval x = .agg ca) (hy : a.eval y = .agg cb) (hg : P.eqGuardType P.depth ty = false) (b : Bool)
  (hr : (Op.equalIn 10000 ty (.agg ca) (.agg cb)).run P w = .ok b w) (d : Nat) (hd : o.dst = some d) (h : wpList P ops Q rest (a.put (some d) (.bool b)) w) : wpList P ops Q (o :: rest) a w :=
 wpList_step fun K hK => by
  rw [if_pos hw]
  exact wp_runOp d hd (run_eqOp ty rt x y ho ca cb hx hy hg b hr) (hK _ _ h)
end
end Go.Proofs.YtomibnggmhjdfaaGreat
