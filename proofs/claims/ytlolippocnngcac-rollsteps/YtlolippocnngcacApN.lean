/- An account at work: it lies in a block of its own. -/
import Derived.Test.YtlolippocnngcacAcU
import Derived.Test.YtlolippocnngcacLetS
import Derived.Test.YtlolippocnngcacBlk
namespace Go.Proofs.Ytlolippocnngcac.acc
open Go.Proofs.Ytlolippocnngcac.tar (Du du0 Came RowD Ld PairT)
open Go.RowKit
set_option maxRecDepth 100000
set_option linter.unusedVariables false
set_option linter.unusedSimpArgs false

/-- Nothing that was there is changed but the block g. -/
structure Chg (w W : World) (g : Nat) : Prop where
  os : W.os = w.os
  tape : W.tape = w.tape
  output : W.output = w.output
  size : w.heap.size ≤ W.heap.size
  oth : ∀ k, k < w.heap.size → k ≠ g → W.heap[k]? = w.heap[k]?
theorem Chg.refl (w : World) (g : Nat) : Chg w w g := ⟨rfl, rfl, rfl, Nat.le_refl _, fun _ _ _ => rfl⟩
theorem Chg.trans {w W V : World} {g : Nat} (h : Chg w W g) (h' : Chg W V g) : Chg w V g :=
  ⟨h'.os.trans h.os, h'.tape.trans h.tape, h'.output.trans h.output, Nat.le_trans h.size h'.size, fun k hk hne => (h'.oth k (Nat.lt_of_lt_of_le hk h.size) hne).trans (h.oth k hk hne)⟩
theorem Chg.of {w W : World} {g : Nat} (hb : Below w.heap.size w W) : Chg w W g := ⟨hb.os, hb.tape, hb.output, hb.size, fun k hk _ => hb.block k hk⟩
theorem Chg.upd {w W : World} {g : Nat} {cs : Array Value} {t : TypeId} (hu : Upd w W g cs t) : Chg w W g := by
  have h := hu.bel 0 w (Nat.zero_le _) (Below.refl _ _)
  exact ⟨h.os, h.tape, h.output, h.size, fun k _ hne => hu.oth k hne⟩
theorem Chg.keep {w W : World} {g G : Nat} {cs : Array Value} {t : TypeId} (h : Chg w W g) (hb : Blk w G cs t) (hne : G ≠ g) : Blk W G cs t := by
  have hl := hb.lt
  unfold Blk at *
  rw [h.oth G hl hne]; exact hb
theorem Chg.bel {w W : World} {g : Nat} (h : Chg w W g) (hl : g ≤ w.heap.size) : Below g w W :=
  ⟨h.os, h.tape, h.output, h.size, fun k hk => h.oth k (by omega) (by omega)⟩
/-- A slice does not lie in the block g. -/
def Far (p : Option Addr) (len g : Nat) : Prop := 0 < len → ∀ y, p = some y → y.block ≠ g
theorem row_chg {w W : World} {g : Nat} {p : Option Addr} {len : Nat} {l : List Du} (h : RowD w p len l) (hc : Chg w W g) (hf : Far p len g) : RowD W p len l := by
  refine ⟨h.1, ?_⟩
  rcases Nat.eq_zero_or_pos len with h0 | h0
  · exact .inl h0
  · obtain ⟨b, off, rfl, hb, hcs⟩ := h.at h0
    have hne : b ≠ g := hf h0 _ rfl
    refine .inr ⟨b, off, rfl, fun i hi => ?_⟩
    have e : ∀ o, W.cell? ⟨b, o, none⟩ = w.cell? ⟨b, o, none⟩ := fun o => by simp only [World.cell?, hc.oth b hb hne]
    rw [e, e]; exact hcs i hi
theorem came_chg {w W : World} {g : Nat} {p : Option Addr} {len cap : Nat} {l : List Du} (h : Came w p len cap l) (hc : Chg w W g) (hf : Far p len g) : Came W p len cap l := ⟨row_chg h.row hc hf, h.nil, h.room, h.bytes, h.wf⟩
theorem fresh_far {w : World} {g : Nat} {p : Option Addr} {len cap : Nat} {l : List Du} (h : deb.Fresh w (g + 1) p len cap l) : Far p len g := fun hn y hy => by have := h.new hn y hy; omega
theorem fresh_chg {w W : World} {g : Nat} {p : Option Addr} {len cap : Nat} {l : List Du} (h : deb.Fresh w (g + 1) p len cap l) (hc : Chg w W g) : deb.Fresh W (g + 1) p len cap l := ⟨came_chg h.came hc (fresh_far h), h.new⟩
/-- An account and its bill, cell by cell. -/
def wcs (x : Ac) (b : Bi) (p : Option Addr) (len cap : Nat) : Array Value := #[.int .i64 x.me, .int .i64 x.rv, .int .i64 x.nx, .int .i64 x.mo, .int .i64 x.bo, .int .i64 x.fr, .slice p len cap, .int .i64 b.id, .int .i64 b.te, .int .i64 b.de, .int .i64 b.fe, .int .i64 b.pr, .int .i64 b.ch, .int .i64 b.un]
/-- What a deed leaves: the account and the bill in the block g, the debts in memory that is newer. -/
def WPost (w : World) (g : Nat) (R : Ac → Bi → Int → Prop) (e : Ending) (w' : World) : Prop := ∃ y b q n c f, e = .returned (.int .i64 f) ∧ R y b f ∧ Blk w' g (wcs y b q n c) 49 ∧ deb.Fresh w' (g + 1) q n c y.ds ∧ Below g w w'
def DPost (w : World) (g : Nat) (R : Ac → Bi → Int → Prop) (e : Ending) (w' : World) : Prop := ∃ y b q n c f, e = .returned (.int .i64 f) ∧ R y b f ∧ Blk w' g (wcs y b q n c) 49 ∧ deb.Fresh w' (g + 1) q n c y.ds ∧ Chg w w' g
theorem DPost.w {w w' : World} {g : Nat} {R : Ac → Bi → Int → Prop} {e : Ending} (h : DPost w g R e w') (hl : g ≤ w.heap.size) : WPost w g R e w' := by
  obtain ⟨y, b, q, n, c, f, h1, h2, h3, h4, h5⟩ := h
  exact ⟨y, b, q, n, c, f, h1, h2, h3, h4, h5.bel hl⟩
/-- What is asked, where a refusal gives nothing. -/
def Or0 (Is : Ac → Bi → Int → Prop) (y : Ac) (b : Bi) (f : Int) : Prop := (f ≠ 0 ∧ Is ac0 bi0 f) ∨ (f = 0 ∧ Is y b 0)
theorem blk_new4 (w : World) (o p q r : Obj) (cs : Array Value) (t : TypeId) : Blk (((((w.alloc o).alloc p).alloc q).alloc r).alloc (.cells cs t)) (w.heap.size + 1 + 1 + 1 + 1) cs t := by
  have h := Blk.new ((((w.alloc o).alloc p).alloc q).alloc r) cs t
  rwa [show ((((w.alloc o).alloc p).alloc q).alloc r).heap.size = w.heap.size + 1 + 1 + 1 + 1 by simp] at h
theorem blk_new5 (w : World) (o p q r s : Obj) (cs : Array Value) (t : TypeId) : Blk ((((((w.alloc o).alloc p).alloc q).alloc r).alloc s).alloc (.cells cs t)) (w.heap.size + 1 + 1 + 1 + 1 + 1) cs t := by
  have h := Blk.new (((((w.alloc o).alloc p).alloc q).alloc r).alloc s) cs t
  rwa [show (((((w.alloc o).alloc p).alloc q).alloc r).alloc s).heap.size = w.heap.size + 1 + 1 + 1 + 1 + 1 by simp] at h
/-- One cell is stored, where the order is open. -/
theorem wp_letOp1 {P : Program} {o : Oper} {a : Act} {w : World} {K : Act → World → Prop} {Q : Exit → Act → World → Prop} (ty : TypeId) (x y : Operand) (ho : o.op = .store ty x y)
    (g off : Nat) (hx : a.eval x = .pointer (some ⟨g, off, none⟩)) (v : Value) (hy : a.eval y = v) (hv : v.cells = #[v]) (hi : (P.info? ty).map (·.size) = some 1) (h1 : v.oneCell' = true)
    (cs : Array Value) (t : TypeId) (hB : Blk w g cs t) (hin : off < cs.size) (hd : o.dst = none)
    (h : ∀ W, Upd w W g (cs.setIfInBounds off v) t → K a W) : o.wp P a w K Q := by
  have hs := run_storeVar_let (P := P) (w := w) (g := g) (off := off) (ty := ty) (t := t) (v := v) (cells := #[v]) (cs := cs) hv (by simpa using hi) (by simpa using h1) hB (by simp; omega)
  have hu := upd_cells g t [v] off w cs hB
  unfold Oper.wp execOp
  simp only [ho, hx, hy, Instr.storeAt, Instr.sureAddr, Sem.run_bind, Sem.run_pure, Result.andThen_ok, hs]
  have := h _ hu
  have e : a.put o.dst undef = a := by rw [hd]; rfl
  rw [← e] at this
  exact this

end Go.Proofs.Ytlolippocnngcac.acc
