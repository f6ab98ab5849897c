import Derived.Test.YtomibnggmhjdfaaGreatVVCes10
import Derived.Test.YtomibnggmhjdfaaGreatVVCes11
set_option linter.unusedVariables false
set_option linter.unusedSimpArgs false
namespace Go.Proofs.YtomibnggmhjdfaaGreat
namespace vnd
open book (Ev ev0 Cm cm0 So so0 Sees)
open acc (Ac Tm Bi)
open cell (Wr RowU)
open Go.RowKit
set_option maxRecDepth 100000
def LoadPost (w : World) (t : Tm) (c : List Int) (e : Ending) (w' : World) : Prop := ∃ p m cap xs bk f, e = .returned (.tuple #[.agg #[.slice p m cap], .int .i64 f]) ∧ LoadIs t c bk f ∧ Sees w' p m xs bk ∧ m ≤ 120 ∧ Below w.heap.size w w'
structure Dk (w : World) (a : Option Addr) (n cap : Nat) (c : List Int) : Prop where
 row : RowU w a n c
 nil : a = none → cap = 0
 room : n ≤ cap
 bytes : n * 4 ≤ 140737488351232
 wd : ∀ x ∈ c, 0 ≤ x ∧ x < 4294967296
theorem Dk.below {w w' : World} {a : Option Addr} {n cap : Nat} {c : List Int} (h : Dk w a n cap c) (hb : Below w.heap.size w w') : Dk w' a n cap c := ⟨h.row.below hb, h.nil, h.room, h.bytes, h.wd⟩
end vnd
namespace disk
open Go.RowKit cell
set_option maxRecDepth 100000
set_option maxHeartbeats 1000000 in
theorem length_any (a : Option Addr) (n cap p : Nat) (c : List Int) (w : World) (h : RowU w a n c) (hn : n ≤ 2048) (hp : p ≤ n) (hw : ∀ x ∈ c, 0 ≤ x ∧ x < 4294967296) :
  Calls Tryz.prog 55 #[.slice a n cap, .int .i64 (p : Int)] w fun e w' => e = .returned (.int .i64 (lenAt c p)) ∧ w' = w := by
 have hl := h.1
 by_cases h0 : p = n
 ·have hz : lenAt c p = 0 := by unfold lenAt; rw [if_pos (.inl (by omega))]
  rw [hz]
  have e0 : ((p : Int) == (n : Int)) = true := by simp; omega
  clear hz h hw hl hp
  go_enter Tryz.func55, Tryz.ntmps55
  go_wp2_with fail
  go_ret
  exact ⟨rfl, rfl⟩
 ·obtain ⟨b, o, rfl, lb, hc⟩ := h.at (by omega)
  have c0 := hc p (by omega)
  have hlt : p < n := by omega
  have e0 : ((p : Int) == (n : Int)) = false := by simp; omega
  have hz := hw (c.getD p 0) (by rw [List.getD_eq_getElem?_getD, List.getElem?_eq_getElem (by omega)]; exact List.getElem_mem _)
  have HL : Hid (lenAt c p = if p = c.length ∨ c.getD p 0 = 0 then 0 else if 64 < c.getD p 0 then -1 else if (c.length : Int) ≤ p + c.getD p 0 then -1 else c.getD p 0) := rfl
  have HN : Hid (c.length = n) := hl
  generalize c.getD p 0 = z at *
  obtain ⟨z0, z1⟩ := hz
  clear h hw hc lb hp h0 hl
  by_cases h1 : z = 0
  ·have hv : lenAt c p = 0 := by rw [HL.out, if_pos (.inr h1)]
   rw [hv]
   subst h1
   clear hv HL
   go_enter Tryz.func55, Tryz.ntmps55
   go_wp2_with fail
   go_ret
   exact ⟨rfl, rfl⟩
  ·have e1 : (z == 0) = false := by simpa using h1
   by_cases h2 : 64 < z
   ·have hv : lenAt c p = -1 := by rw [HL.out, if_neg (by have := HN.out; omega), if_pos h2]
    rw [hv]
    clear hv HL h1
    go_enter Tryz.func55, Tryz.ntmps55
    go_wp2_with fail
    go_ret
    exact ⟨rfl, rfl⟩
   ·have h64 : z ≤ 64 := by omega
    by_cases h3 : (n : Int) ≤ p + z
    ·have hv : lenAt c p = -1 := by rw [HL.out, if_neg (by have := HN.out; omega), if_neg h2, if_pos (by have := HN.out; omega)]
     rw [hv]
     clear hv HL h1
     go_enter Tryz.func55, Tryz.ntmps55
     go_wp2_with fail
     go_ret
     exact ⟨rfl, rfl⟩
    ·have hv : lenAt c p = z := by rw [HL.out, if_neg (by have := HN.out; omega), if_neg h2, if_neg (by have := HN.out; omega)]
     rw [hv]
     clear hv HL h1
     go_enter Tryz.func55, Tryz.ntmps55
     go_wp2_with fail
     go_ret
     exact ⟨rfl, rfl⟩
end disk
namespace book
open Go.RowKit
open acc (Ac Tm Bi APost BPost OweIs SellIs GrantIs RekeyIs)
set_option maxRecDepth 100000
def cuA (a : Ac) (dp : Option Addr) (dn dc : Nat) (sp : Option Addr) (sn sc : Nat) : Cu := ⟨a.me, a.rv, a.nx, a.mo, a.bo, a.fr, dp, dn, dc, sp, sn, sc⟩
theorem cuA_num (a : Ac) (dp : Option Addr) (dn dc : Nat) (sp : Option Addr) (sn sc : Nat) : Nums (cuA a dp dn dc sp sn sc) a := ⟨rfl, rfl, rfl, rfl, rfl, rfl⟩
def HapPost (w : World) (base : Nat) (t : Tm) (x : Cu) (c : Cm) (v : Ev) (e : Ending) (w' : World) : Prop := ∃ x' c' f, e = .returned (.tuple #[Cu.v x', .int .i64 f]) ∧ HapIs t c v c' f ∧ (f = 0 → Turned w w' base x x' c') ∧ w.grownBy w' x.sold.ownBlock
theorem grown_of {w w' : World} (h : Below w.heap.size w w') (own : Option Nat) : w.grownBy w' own := ⟨h.os, h.tape, h.output, h.size, fun k hk _ => h.block k hk⟩
theorem acc_upd {w W : World} {g : Nat} {cs : Array Value} {ty : TypeId} {a : Option Addr} {n cap : Nat} {zs : List tar.Du} (h : tar.Came w a n cap zs) (hU : Upd w W g cs ty) (hne : 0 < n → ∀ x, a = some x → x.block ≠ g) : tar.Came W a n cap zs := by
 refine ⟨⟨h.row.1, ?_⟩, h.nil, h.room, h.bytes, h.wf⟩
 rcases h.row.2 with h0 | ⟨b, off, rfl, hc⟩
 ·exact .inl h0
 ·refine .inr ⟨b, off, rfl, fun i hi => ?_⟩
  have h1 := hc i hi
  have hb : b ≠ g := hne (by omega) ⟨b, off, none⟩ rfl
  rw [hU.cell ⟨b, off + i * 2, none⟩ hb rfl, hU.cell ⟨b, off + i * 2 + 1, none⟩ hb rfl]
  exact h1
theorem drew_fresh {w : World} {base : Nat} {a : Option Addr} {n cap : Nat} {zs : List tar.Du} (h : deb.Fresh w base a n cap zs) : deb.Fresh w.drew base a n cap zs := h.below (Below.refl _ _).drew
theorem bill_ne {l : Bi} {v : Ev} (h : l ≠ billOf v) : ¬ (l.id = v.id ∧ l.te = v.te ∧ l.de = v.de ∧ l.fe = v.fe ∧ l.pr = v.pr ∧ l.ch = v.ch ∧ l.un = v.un) := fun ⟨h1, h2, h3, h4, h5, h6, h7⟩ => h (by
 cases l
 unfold billOf
 simp only at h1 h2 h3 h4 h5 h6 h7
 rw [h1, h2, h3, h4, h5, h6, h7])
theorem lo_upd {w W : World} {base g : Nat} {cs : Array Value} {t : TypeId} {v : Value} {l : List So} (h : Lo w base v l) (hU : Upd w W g cs t) (hg : ∀ k, v.ownBlock = some k → k ≠ g) : Lo W base v l := by
 refine ⟨h.1, ?_⟩
 rcases h.2 with hn | ⟨g', cap, cur, hv, hb, hc, rest⟩
 ·exact .inl hn
 ·exact .inr ⟨g', cap, cur, hv, hb, by rw [hU.oth g' (hg g' (by rw [hv]; rfl))]; exact hc, rest⟩
theorem grown_upd {w w9 W : World} {g : Nat} {cs : Array Value} {t : TypeId} {own : Option Nat} (h : w.grownBy w9 own) (hU : Upd w9 W g cs t) (hg : w.heap.size ≤ g) : w.grownBy W own := by
 have hb := hU.bel w.heap.size w9 hg (Below.refl _ _)
 exact ⟨hb.os.trans h.os, hb.tape.trans h.tape, hb.output.trans h.output, Nat.le_trans h.size (by rw [hU.size]; exact Nat.le_refl _), fun k hk hne => by rw [hU.oth k (by omega)]; exact h.block k hk hne⟩
theorem eqBi_f0 (a0 a1 a2 a3 a4 a5 a6 : Int) (w : World) : (part 3 #[.int .i64 a0, .int .i64 a1, .int .i64 a2, .int .i64 a3, .int .i64 a4, .int .i64 a5, .int .i64 a6] 0).run Tryz.prog w = .ok (.int .i64 a0) w := by kernel_rfl
theorem eqBi_f1 (a0 a1 a2 a3 a4 a5 a6 : Int) (w : World) : (part 3 #[.int .i64 a0, .int .i64 a1, .int .i64 a2, .int .i64 a3, .int .i64 a4, .int .i64 a5, .int .i64 a6] 1).run Tryz.prog w = .ok (.int .i64 a1) w := by kernel_rfl
theorem eqBi_f2 (a0 a1 a2 a3 a4 a5 a6 : Int) (w : World) : (part 3 #[.int .i64 a0, .int .i64 a1, .int .i64 a2, .int .i64 a3, .int .i64 a4, .int .i64 a5, .int .i64 a6] 2).run Tryz.prog w = .ok (.int .i64 a2) w := by kernel_rfl
theorem eqBi_f3 (a0 a1 a2 a3 a4 a5 a6 : Int) (w : World) : (part 3 #[.int .i64 a0, .int .i64 a1, .int .i64 a2, .int .i64 a3, .int .i64 a4, .int .i64 a5, .int .i64 a6] 3).run Tryz.prog w = .ok (.int .i64 a3) w := by kernel_rfl
theorem eqBi_f4 (a0 a1 a2 a3 a4 a5 a6 : Int) (w : World) : (part 3 #[.int .i64 a0, .int .i64 a1, .int .i64 a2, .int .i64 a3, .int .i64 a4, .int .i64 a5, .int .i64 a6] 4).run Tryz.prog w = .ok (.int .i64 a4) w := by kernel_rfl
theorem eqBi_f5 (a0 a1 a2 a3 a4 a5 a6 : Int) (w : World) : (part 3 #[.int .i64 a0, .int .i64 a1, .int .i64 a2, .int .i64 a3, .int .i64 a4, .int .i64 a5, .int .i64 a6] 5).run Tryz.prog w = .ok (.int .i64 a5) w := by kernel_rfl
theorem eqBi_f6 (a0 a1 a2 a3 a4 a5 a6 : Int) (w : World) : (part 3 #[.int .i64 a0, .int .i64 a1, .int .i64 a2, .int .i64 a3, .int .i64 a4, .int .i64 a5, .int .i64 a6] 6).run Tryz.prog w = .ok (.int .i64 a6) w := by kernel_rfl
theorem eqBi (d : Nat) (a0 a1 a2 a3 a4 a5 a6 b0 b1 b2 b3 b4 b5 b6 : Int) (w : World) : (Op.equalIn (d + 2) 69 (.agg #[.int .i64 a0, .int .i64 a1, .int .i64 a2, .int .i64 a3, .int .i64 a4, .int .i64 a5, .int .i64 a6]) (.agg #[.int .i64 b0, .int .i64 b1, .int .i64 b2, .int .i64 b3, .int .i64 b4, .int .i64 b5, .int .i64 b6])).run Tryz.prog w = .ok (decide (a0 = b0 ∧ a1 = b1 ∧ a2 = b2 ∧ a3 = b3 ∧ a4 = b4 ∧ a5 = b5 ∧ a6 = b6)) w := by
 rw [run_equalIn_agg w (d + 1) 69 _ _ (by kernel_rfl) (by kernel_rfl)]
 simp only [Program.fieldsOf, Tryz.underlying69, Op.eqFields, Sem.run_bind, Sem.run_ite, eqBi_f0, eqBi_f1, eqBi_f2, eqBi_f3, eqBi_f4, eqBi_f5, eqBi_f6, Result.andThen_ok, eqI]
 by_cases h0 : a0 = b0
 case neg => simp [h0]
 subst h0
 by_cases h1 : a1 = b1
 case neg => simp [h1]
 subst h1
 by_cases h2 : a2 = b2
 case neg => simp [h2]
 subst h2
 by_cases h3 : a3 = b3
 case neg => simp [h3]
 subst h3
 by_cases h4 : a4 = b4
 case neg => simp [h4]
 subst h4
 by_cases h5 : a5 = b5
 case neg => simp [h5]
 subst h5
 by_cases h6 : a6 = b6
 case neg => simp [h6]
 subst h6
 simp
theorem eqDe_f0 (a0 a1 : Int) (w : World) : (part 3 #[.int .i64 a0, .int .i64 a1] 0).run Tryz.prog w = .ok (.int .i64 a0) w := by kernel_rfl
theorem eqDe_f1 (a0 a1 : Int) (w : World) : (part 3 #[.int .i64 a0, .int .i64 a1] 1).run Tryz.prog w = .ok (.int .i64 a1) w := by kernel_rfl
theorem eqDe (d : Nat) (a0 a1 b0 b1 : Int) (w : World) : (Op.equalIn (d + 2) 43 (.agg #[.int .i64 a0, .int .i64 a1]) (.agg #[.int .i64 b0, .int .i64 b1])).run Tryz.prog w = .ok (decide (a0 = b0 ∧ a1 = b1)) w := by
 rw [run_equalIn_agg w (d + 1) 43 _ _ (by kernel_rfl) (by kernel_rfl)]
 simp only [Program.fieldsOf, Tryz.underlying43, Op.eqFields, Sem.run_bind, Sem.run_ite, eqDe_f0, eqDe_f1, Result.andThen_ok, eqI]
 by_cases h0 : a0 = b0
 case neg => simp [h0]
 subst h0
 by_cases h1 : a1 = b1
 case neg => simp [h1]
 subst h1
 simp
theorem eqEv_f0 (a0 a1 a2 a3 a4 a5 a6 a7 a8 a9 a10 a11 a12 : Int) (w : World) : (part 3 #[.int .i64 a0, .int .i64 a1, .int .i64 a2, .int .i64 a3, .int .i64 a4, .int .i64 a5, .int .i64 a6, .int .i64 a7, .int .i64 a8, .int .i64 a9, .int .i64 a10, .int .i64 a11, .int .i64 a12] 0).run Tryz.prog w = .ok (.int .i64 a0) w := by kernel_rfl
theorem eqEv_f1 (a0 a1 a2 a3 a4 a5 a6 a7 a8 a9 a10 a11 a12 : Int) (w : World) : (part 3 #[.int .i64 a0, .int .i64 a1, .int .i64 a2, .int .i64 a3, .int .i64 a4, .int .i64 a5, .int .i64 a6, .int .i64 a7, .int .i64 a8, .int .i64 a9, .int .i64 a10, .int .i64 a11, .int .i64 a12] 1).run Tryz.prog w = .ok (.int .i64 a1) w := by kernel_rfl
theorem eqEv_f2 (a0 a1 a2 a3 a4 a5 a6 a7 a8 a9 a10 a11 a12 : Int) (w : World) : (part 3 #[.int .i64 a0, .int .i64 a1, .int .i64 a2, .int .i64 a3, .int .i64 a4, .int .i64 a5, .int .i64 a6, .int .i64 a7, .int .i64 a8, .int .i64 a9, .int .i64 a10, .int .i64 a11, .int .i64 a12] 2).run Tryz.prog w = .ok (.int .i64 a2) w := by kernel_rfl
theorem eqEv_f3 (a0 a1 a2 a3 a4 a5 a6 a7 a8 a9 a10 a11 a12 : Int) (w : World) : (part 69 #[.int .i64 a0, .int .i64 a1, .int .i64 a2, .int .i64 a3, .int .i64 a4, .int .i64 a5, .int .i64 a6, .int .i64 a7, .int .i64 a8, .int .i64 a9, .int .i64 a10, .int .i64 a11, .int .i64 a12] 3).run Tryz.prog w = .ok (.agg #[.int .i64 a3, .int .i64 a4, .int .i64 a5, .int .i64 a6, .int .i64 a7, .int .i64 a8, .int .i64 a9]) w := by kernel_rfl
theorem eqEv_f10 (a0 a1 a2 a3 a4 a5 a6 a7 a8 a9 a10 a11 a12 : Int) (w : World) : (part 3 #[.int .i64 a0, .int .i64 a1, .int .i64 a2, .int .i64 a3, .int .i64 a4, .int .i64 a5, .int .i64 a6, .int .i64 a7, .int .i64 a8, .int .i64 a9, .int .i64 a10, .int .i64 a11, .int .i64 a12] 10).run Tryz.prog w = .ok (.int .i64 a10) w := by kernel_rfl
theorem eqEv_f11 (a0 a1 a2 a3 a4 a5 a6 a7 a8 a9 a10 a11 a12 : Int) (w : World) : (part 43 #[.int .i64 a0, .int .i64 a1, .int .i64 a2, .int .i64 a3, .int .i64 a4, .int .i64 a5, .int .i64 a6, .int .i64 a7, .int .i64 a8, .int .i64 a9, .int .i64 a10, .int .i64 a11, .int .i64 a12] 11).run Tryz.prog w = .ok (.agg #[.int .i64 a11, .int .i64 a12]) w := by kernel_rfl
theorem eqEv (d : Nat) (a0 a1 a2 a3 a4 a5 a6 a7 a8 a9 a10 a11 a12 b0 b1 b2 b3 b4 b5 b6 b7 b8 b9 b10 b11 b12 : Int) (w : World) : (Op.equalIn (d + 3) 71 (.agg #[.int .i64 a0, .int .i64 a1, .int .i64 a2, .int .i64 a3, .int .i64 a4, .int .i64 a5, .int .i64 a6, .int .i64 a7, .int .i64 a8, .int .i64 a9, .int .i64 a10, .int .i64 a11, .int .i64 a12]) (.agg #[.int .i64 b0, .int .i64 b1, .int .i64 b2, .int .i64 b3, .int .i64 b4, .int .i64 b5, .int .i64 b6, .int .i64 b7, .int .i64 b8, .int .i64 b9, .int .i64 b10, .int .i64 b11, .int .i64 b12])).run Tryz.prog w = .ok (decide (a0 = b0 ∧ a1 = b1 ∧ a2 = b2 ∧ a3 = b3 ∧ a4 = b4 ∧ a5 = b5 ∧ a6 = b6 ∧ a7 = b7 ∧ a8 = b8 ∧ a9 = b9 ∧ a10 = b10 ∧ a11 = b11 ∧ a12 = b12)) w := by
 rw [run_equalIn_agg w (d + 2) 71 _ _ (by kernel_rfl) (by kernel_rfl)]
 simp only [Program.fieldsOf, Tryz.underlying71, Op.eqFields, Sem.run_bind, Sem.run_ite, eqEv_f0, eqEv_f1, eqEv_f2, eqEv_f3, eqEv_f10, eqEv_f11, Result.andThen_ok, eqI, eqBi, eqDe]
 by_cases h0 : a0 = b0
 case neg => simp [h0]
 subst h0
 by_cases h1 : a1 = b1
 case neg => simp [h1]
 subst h1
 by_cases h2 : a2 = b2
 case neg => simp [h2]
 subst h2
 by_cases h3 : a3 = b3 ∧ a4 = b4 ∧ a5 = b5 ∧ a6 = b6 ∧ a7 = b7 ∧ a8 = b8 ∧ a9 = b9
 case neg =>
  have h3d := decide_eq_false h3
  have hx : ¬ (a0 = a0 ∧ a1 = a1 ∧ a2 = a2 ∧ a3 = b3 ∧ a4 = b4 ∧ a5 = b5 ∧ a6 = b6 ∧ a7 = b7 ∧ a8 = b8 ∧ a9 = b9 ∧ a10 = b10 ∧ a11 = b11 ∧ a12 = b12) := fun h => h3 ⟨h.2.2.2.1, h.2.2.2.2.1, h.2.2.2.2.2.1, h.2.2.2.2.2.2.1, h.2.2.2.2.2.2.2.1, h.2.2.2.2.2.2.2.2.1, h.2.2.2.2.2.2.2.2.2.1⟩
  simp only [h3d, decide_eq_false hx]
  simp
  intro e3 e4 e5 e6 e7 e8 e9
  exact absurd ⟨e3, e4, e5, e6, e7, e8, e9⟩ h3
 obtain ⟨rfl, rfl, rfl, rfl, rfl, rfl, rfl⟩ := h3
 by_cases h10 : a10 = b10
 case neg => simp [h10]
 subst h10
 by_cases h11 : a11 = b11
 case neg => simp [h11]
 subst h11
 by_cases h12 : a12 = b12
 case neg => simp [h12]
 subst h12
 simp
end book
namespace acc
open tar (Du du0 Came RowD Ld PairT)
open Go.RowKit
set_option maxRecDepth 100000
set_option maxHeartbeats 8000000 in
theorem rrekeyed (x : Ac) (p : Option Addr) (len cap : Nat) (w : World) (h : RowD w p len x.ds) (hl : len ≤ maxLen) : Calls Tryz.prog 59 #[.agg #[.int .i64 x.me, .int .i64 x.rv, .int .i64 x.nx, .int .i64 x.mo, .int .i64 x.bo, .int .i64 x.fr, .slice p len cap]] w fun e w' => BPost w (RekeyIs x) e w' := by
 by_cases hm : AMay x
 ·have HM : Hid (AMay x) := hm
  have hdm := hm.1
  have hnx := hm.2.2.2.1
  have hrv := hm.2.2.1
  obtain ⟨W0, HWW, H0d, H0r, H0l, H0B, hs0⟩ := sh3 w #[.int .i64 x.me, .int .i64 x.rv, .int .i64 x.nx, .int .i64 x.mo, .int .i64 x.bo, .int .i64 x.fr, .slice p len cap] 59 #[.int .i64 0, .int .i64 0, .int .i64 0, .int .i64 0, .int .i64 0, .int .i64 0, .slice none 0 0] 59 #[.int .i64 0, .int .i64 0, .int .i64 0, .int .i64 0, .int .i64 0, .int .i64 0, .int .i64 0] 69
  have H0R : Hid (RowD W0 p len x.ds) := h.below H0B.out
  go_enter Tryz.func59, Tryz.ntmps59
  go_upto_region 1 with fail
  rw [HWW.out]
  clear HWW
  have HAM : Hid (Calls Tryz.prog 47 #[.agg #[.int .i64 x.me, .int .i64 x.rv, .int .i64 x.nx, .int .i64 x.mo, .int .i64 x.bo, .int .i64 x.fr, .slice p len cap]] W0 fun e w' => e = .returned (.bool true) ∧ Below W0.heap.size W0 w') := ramay x p len cap _ H0R.out hl hm
  go_wp2_with (first
   | (refine zqw rfl rfl rfl H0d zqu59 ?_)
   | (refine zqw rfl rfl rfl H0r zqu59 ?_)
   | (refine zqw rfl rfl rfl H0l zqu69 ?_)
   | fail)
  refine HAM.out.mono ?_
  rintro e w1 ⟨rfl, hb1⟩
  have H1d := shN H0d hb1
  have H1r := shN H0r hb1
  have H1l := shN H0l hb1
  have H1R : Hid (RowD w1 p len x.ds) := H0R.out.below hb1
  have H1B := shB H0B hb1
  have hsw1 : W0.heap.size ≤ w1.heap.size := hb1.size
  clear hb1 H0d H0r H0l H0R H0B
  clear HAM hm
  by_cases h1 : x.rv < 15
  ·have d1 : decide (15 ≤ x.rv) = false := decide_eq_false (by omega)
   by_cases h2 : x.nx ≤ 1048575
   ·have d2 : (x.nx == 1048576) = false := by simp; omega
    have HCP : Hid (Calls Tryz.prog 48 #[.agg #[.int .i64 x.me, .int .i64 x.rv, .int .i64 x.nx, .int .i64 x.mo, .int .i64 x.bo, .int .i64 x.fr, .slice p len cap]] w1 fun e w' => ∃ p' cap', e = .returned (Ac.v x p' len cap') ∧ deb.Fresh w' w1.heap.size p' len cap' x.ds ∧ Below w1.heap.size w1 w') := rcopy x p len cap w1 H1R.out hdm
    have qd1 : w1.cell? ⟨w.heap.size, 1, none⟩ = some (.int .i64 x.rv) := H1d.out.cell 1
    have qd2 : w1.cell? ⟨w.heap.size, 2, none⟩ = some (.int .i64 x.nx) := H1d.out.cell 2
    go_wp2_with (first
     | (refine zqw rfl rfl rfl H1d zqu59 ?_)
     | (refine zqw rfl rfl rfl H1r zqu59 ?_)
     | (refine zqw rfl rfl rfl H1l zqu69 ?_)
     | fail)
    refine HCP.out.mono ?_
    rintro e w3 ⟨p3, cap3, rfl, hf3, hb3⟩
    have H2d := shN H1d hb3
    have H2r := shN H1r hb3
    have H2l := shN H1l hb3
    have H2R : Hid (RowD w3 p len x.ds) := H1R.out.below hb3
    have H2B := shB H1B hb3
    have hsw3 : w1.heap.size ≤ w3.heap.size := hb3.size
    clear hb3 H1d H1r H1l H1R H1B
    clear qd1 qd2
    unfold Ac.v Ac.cs
    have H3F : Hid (deb.Fresh w3 w1.heap.size p3 len cap3 x.ds) := hf3
    have HUPF : Hid (0 < len → ∀ y, p3 = some y → y.block < w3.heap.size) := came_lt H3F.out.came
    clear hf3 HCP
    obtain ⟨W4, HWW, H4n, HBB, hsW4⟩ := sh1 w3 #[.int .i64 x.me, .int .i64 x.rv, .int .i64 x.nx, .int .i64 x.mo, .int .i64 x.bo, .int .i64 x.fr, .slice p3 len cap3] 59
    have H4d := shN H2d HBB.out
    have H4r := shN H2r HBB.out
    have H4l := shN H2l HBB.out
    have H4F : Hid (deb.Fresh W4 w1.heap.size p3 len cap3 x.ds) := H3F.out.below HBB.out
    have H4B := shB H2B HBB.out
    clear H2d H2r H2l H3F H2B
    go_upto_region 8 with fail
    rw [HWW.out]
    clear HWW HBB
    have qd1 : W4.cell? ⟨w.heap.size, 1, none⟩ = some (.int .i64 x.rv) := H4d.out.cell 1
    go_wp2_with (first
     | (refine wp_let1 rfl 3 _ _ rfl (w3.heap.size) 1 rfl .i64 (x.rv + 1) rfl (by kernel_rfl) #[.int .i64 x.me, .int .i64 x.rv, .int .i64 x.nx, .int .i64 x.mo, .int .i64 x.bo, .int .i64 x.fr, .slice p3 len cap3] 59 H4n.out (by simp) ?_)
     | (refine zqw rfl rfl rfl H4d zqu59 ?_)
     | (refine zqw rfl rfl rfl H4r zqu59 ?_)
     | (refine zqw rfl rfl rfl H4l zqu69 ?_)
     | (refine zqw rfl rfl rfl H4n zqu59 ?_)
     | fail)
    intro W5 hU
    have H5d := shK hU H4d (by omega)
    have H5r := shK hU H4r (by omega)
    have H5l := shK hU H4l (by omega)
    have H5n : Hid (Blk W5 (w3.heap.size) #[.int .i64 x.me, .int .i64 (x.rv + 1), .int .i64 x.nx, .int .i64 x.mo, .int .i64 x.bo, .int .i64 x.fr, .slice p3 len cap3] 59) := hU.blk
    have H5F : Hid (deb.Fresh W5 w1.heap.size p3 len cap3 x.ds) := fresh_updN H4F.out hU (fun hn y hy => by have f1 := H4F.out.new hn y hy; have f2 := HUPF.out hn y hy; omega)
    have H5B := shV hU H4B (by omega)
    have hsW5 : W5.heap.size = W4.heap.size := hU.size
    clear hU H4d H4r H4l H4n H4F H4B
    clear qd1
    have qd2 : W5.cell? ⟨w.heap.size, 2, none⟩ = some (.int .i64 x.nx) := H5d.out.cell 2
    go_wp2_with (first
     | (refine wp_let1 rfl 3 _ _ rfl (w3.heap.size) 2 rfl .i64 (x.nx + 1) rfl (by kernel_rfl) #[.int .i64 x.me, .int .i64 (x.rv + 1), .int .i64 x.nx, .int .i64 x.mo, .int .i64 x.bo, .int .i64 x.fr, .slice p3 len cap3] 59 H5n.out (by simp) ?_)
     | (refine zqw rfl rfl rfl H5d zqu59 ?_)
     | (refine zqw rfl rfl rfl H5r zqu59 ?_)
     | (refine zqw rfl rfl rfl H5l zqu69 ?_)
     | (refine zqw rfl rfl rfl H5n zqu59 ?_)
     | fail)
    intro W6 hU
    have H6d := shK hU H5d (by omega)
    have H6r := shK hU H5r (by omega)
    have H6l := shK hU H5l (by omega)
    have H6n : Hid (Blk W6 (w3.heap.size) #[.int .i64 x.me, .int .i64 (x.rv + 1), .int .i64 (x.nx + 1), .int .i64 x.mo, .int .i64 x.bo, .int .i64 x.fr, .slice p3 len cap3] 59) := hU.blk
    have H6F : Hid (deb.Fresh W6 w1.heap.size p3 len cap3 x.ds) := fresh_updN H5F.out hU (fun hn y hy => by have f1 := H5F.out.new hn y hy; have f2 := HUPF.out hn y hy; omega)
    have H6B := shV hU H5B (by omega)
    have hsW6 : W6.heap.size = W5.heap.size := hU.size
    clear hU H5d H5r H5l H5n H5F H5B
    clear qd2
    go_upto_region 10 with fail
    refine wp_region_held_drew (S := fun v => Blk v (w3.heap.size) #[.int .i64 x.me, .int .i64 (x.rv + 1), .int .i64 (x.nx + 1), .int .i64 x.mo, .int .i64 x.bo, .int .i64 x.fr, .slice p3 len cap3] 59 ∧ Blk v (w.heap.size) #[.int .i64 x.me, .int .i64 x.rv, .int .i64 x.nx, .int .i64 x.mo, .int .i64 x.bo, .int .i64 x.fr, .slice p len cap] 59) (by kernel_rfl) ⟨Blk.drew H6n.out 1, Blk.drew H6d.out 1⟩ (fun hHeld => ?_)
    refine zqt 0 31 (.agg #[.int .i64 x.me, .int .i64 (x.rv + 1), .int .i64 (x.nx + 1), .int .i64 x.mo, .int .i64 x.bo, .int .i64 x.fr, .slice p3 len cap3]) rfl rfl (by kernel_rfl) (fun _ _ _ h => h) (Or.inl ⟨by rfl, fun v hv => by have g0 := hv.1.cell 0; have g1 := hv.1.cell 1; have g2 := hv.1.cell 2; have g3 := hv.1.cell 3; have g4 := hv.1.cell 4; have g5 := hv.1.cell 5; have g6 := hv.1.cell 6; clear hv; go_simp⟩) hHeld ?_
    simp only [Act.put, zqa, zqb, zqc]
    refine zqs 1 32 (.pointer (some ⟨w.heap.size, 2, none⟩)) rfl rfl (by kernel_rfl) (fun _ _ _ h => h) rfl (fun v hv => by clear hv; go_simp) hHeld ?_
    simp only [Act.put, zqa, zqb, zqc]
    refine zqt 2 33 (.int .i64 x.nx) rfl rfl (by kernel_rfl) (fun _ _ _ h => h) (Or.inl ⟨by rfl, fun v hv => by have g := hv.2.cell 2; clear hv; go_simp⟩) hHeld ?_
    simp only [Act.put, zqa, zqb, zqc]
    refine zqs 3 34 (.agg #[.int .i64 x.nx, .int .i64 0, .int .i64 0, .int .i64 0, .int .i64 0, .int .i64 0, .int .i64 0]) rfl rfl (by kernel_rfl) (fun _ _ _ h => h) rfl (fun v hv => by clear hv; go_simp) hHeld ?_
    simp only [Act.put, zqa, zqb, zqc]
    refine zqo 4 (by kernel_rfl) rfl (fun K hK => ?_)
    rw [if_pos (by rfl)]
    refine wp_letOp 59 _ _ rfl (w.heap.size + 1) rfl #[.int .i64 x.me, .int .i64 (x.rv + 1), .int .i64 (x.nx + 1), .int .i64 x.mo, .int .i64 x.bo, .int .i64 x.fr, .slice p3 len cap3] rfl (by kernel_rfl) (by simp [Value.oneCell']) #[.int .i64 0, .int .i64 0, .int .i64 0, .int .i64 0, .int .i64 0, .int .i64 0, .slice none 0 0] 59 (Blk.drew H6r.out 1) rfl rfl ?_
    intro V1 hU
    have H7d : Hid (Blk V1 (w.heap.size) #[.int .i64 x.me, .int .i64 x.rv, .int .i64 x.nx, .int .i64 x.mo, .int .i64 x.bo, .int .i64 x.fr, .slice p len cap] 59) := hU.keep (Blk.drew H6d.out 1) (by omega)
    have H7r : Hid (Blk V1 (w.heap.size + 1) #[.int .i64 x.me, .int .i64 (x.rv + 1), .int .i64 (x.nx + 1), .int .i64 x.mo, .int .i64 x.bo, .int .i64 x.fr, .slice p3 len cap3] 59) := hU.blk
    have H7l : Hid (Blk V1 (w.heap.size + 1 + 1) #[.int .i64 0, .int .i64 0, .int .i64 0, .int .i64 0, .int .i64 0, .int .i64 0, .int .i64 0] 69) := hU.keep (Blk.drew H6l.out 1) (by omega)
    have H7n : Hid (Blk V1 (w3.heap.size) #[.int .i64 x.me, .int .i64 (x.rv + 1), .int .i64 (x.nx + 1), .int .i64 x.mo, .int .i64 x.bo, .int .i64 x.fr, .slice p3 len cap3] 59) := hU.keep (Blk.drew H6n.out 1) (by omega)
    have H7F : Hid (deb.Fresh V1 w1.heap.size p3 len cap3 x.ds) := fresh_updN (fresh_drew H6F.out) hU (fun hn y hy => by have f1 := H6F.out.new hn y hy; have f2 := HUPF.out hn y hy; omega)
    have H7B : Hid (Below w.heap.size w V1) := hU.bel _ _ (by omega) H6B.out.drew
    clear hU H6d H6r H6l H6n H6F H6B
    refine hK.out _ _ ⟨H7n.out, H7d.out⟩ (fun hHeld => ?_)
    clear hK K
    refine zqo 5 (by kernel_rfl) rfl (fun K hK => ?_)
    rw [if_pos (by rfl)]
    refine wp_letOp 69 _ _ rfl (w.heap.size + 1 + 1) rfl #[.int .i64 x.nx, .int .i64 0, .int .i64 0, .int .i64 0, .int .i64 0, .int .i64 0, .int .i64 0] rfl (by kernel_rfl) (by simp [Value.oneCell']) #[.int .i64 0, .int .i64 0, .int .i64 0, .int .i64 0, .int .i64 0, .int .i64 0, .int .i64 0] 69 H7l.out rfl rfl ?_
    intro V2 hU
    have H8d := shK hU H7d (by omega)
    have H8r := shK hU H7r (by omega)
    have H8l : Hid (Blk V2 (w.heap.size + 1 + 1) #[.int .i64 x.nx, .int .i64 0, .int .i64 0, .int .i64 0, .int .i64 0, .int .i64 0, .int .i64 0] 69) := hU.blk
    have H8n := shK hU H7n (by omega)
    have H8F : Hid (deb.Fresh V2 w1.heap.size p3 len cap3 x.ds) := fresh_updN H7F.out hU (fun hn y hy => by have f1 := H7F.out.new hn y hy; have f2 := HUPF.out hn y hy; omega)
    have H8B := shV hU H7B (by omega)
    clear hU H7d H7r H7l H7n H7F H7B
    refine hK.out _ _ ⟨H8n.out, H8d.out⟩ (fun hHeld => ?_)
    clear hK K
    refine zqs 6 4 (.int .i64 0) rfl rfl (by kernel_rfl) (fun _ _ _ h => h) rfl (fun v hv => by clear hv; go_simp) hHeld ?_
    simp only [Act.put, zqa, zqb, zqc]
    refine wpAnyH_done (by kernel_rfl) ?_ _
    clear hHeld
    obtain ⟨Rr0, Rr1, Rr2, Rr3, Rr4, Rr5, Rr6⟩ := shc7 H8r
    obtain ⟨Rl0, Rl1, Rl2, Rl3, Rl4, Rl5, Rl6⟩ := shc7 H8l
    go_wp2_with fail
    exact bodyPost_ret (v := .tuple #[.agg #[.int .i64 x.me, .int .i64 (x.rv + 1), .int .i64 (x.nx + 1), .int .i64 x.mo, .int .i64 x.bo, .int .i64 x.fr, .slice p3 len cap3], .agg #[.int .i64 x.nx, .int .i64 0, .int .i64 0, .int .i64 0, .int .i64 0, .int .i64 0, .int .i64 0], .int .i64 0]) (by simp [results, Tryz.results59, Rr0.out, Rr1.out, Rr2.out, Rr3.out, Rr4.out, Rr5.out, Rr6.out, Rl0.out, Rl1.out, Rl2.out, Rl3.out, Rl4.out, Rl5.out, Rl6.out, go_sem]) rfl ⟨⟨x.me, x.rv + 1, x.nx + 1, x.mo, x.bo, x.fr, x.ds⟩, ⟨x.nx, 0, 0, 0, 0, 0, 0⟩, p3, len, cap3, _, rfl, .inr (.inr (.inr ⟨HM.out, h1, h2, rfl, rfl, rfl⟩)), H8F.out.low (by omega), H8B.out⟩
   ·have d2 : (x.nx == 1048576) = true := by simp; omega
    have HV : Hid (RekeyIs x ac0 bi0 20) := .inr (.inr (.inl ⟨HM.out, h1, h2, rfl, rfl, rfl⟩))
    clear h2
    have q1 : w1.cell? ⟨w.heap.size, 1, none⟩ = some (.int .i64 x.rv) := H1d.out.cell 1
    have q2 : w1.cell? ⟨w.heap.size, 2, none⟩ = some (.int .i64 x.nx) := H1d.out.cell 2
    go_wp2_with (first
     | (refine zql rfl rfl rfl rfl zqu59 (by simp [Value.oneCell']) H1r rfl ?_)
     | (refine zqw rfl rfl rfl H1d zqu59 ?_)
     | (refine zqw rfl rfl rfl H1r zqu59 ?_)
     | (refine zqw rfl rfl rfl H1l zqu69 ?_)
     | fail)
    intro w1a hU
    have H2d := shK hU H1d (by omega)
    have H2r : Hid (Blk w1a (w.heap.size + 1) #[.int .i64 0, .int .i64 0, .int .i64 0, .int .i64 0, .int .i64 0, .int .i64 0, .slice none 0 0] 59) := hU.blk
    have H2l := shK hU H1l (by omega)
    have H2B := shV hU H1B (by omega)
    have hsw1a : w1a.heap.size = w1.heap.size := hU.size
    clear hU H1d H1r H1l H1R H1B
    go_wp2_with (first
     | (refine zql rfl rfl rfl rfl zqu69 (by simp [Value.oneCell']) H2l rfl ?_)
     | (refine zqw rfl rfl rfl H2d zqu59 ?_)
     | (refine zqw rfl rfl rfl H2r zqu59 ?_)
     | (refine zqw rfl rfl rfl H2l zqu69 ?_)
     | fail)
    intro w1ab hU
    have H3d := shK hU H2d (by omega)
    have H3r := shK hU H2r (by omega)
    have H3l : Hid (Blk w1ab (w.heap.size + 1 + 1) #[.int .i64 0, .int .i64 0, .int .i64 0, .int .i64 0, .int .i64 0, .int .i64 0, .int .i64 0] 69) := hU.blk
    have H3B := shV hU H2B (by omega)
    have hsw1ab : w1ab.heap.size = w1a.heap.size := hU.size
    clear hU H2d H2r H2l H2B
    obtain ⟨Rr0, Rr1, Rr2, Rr3, Rr4, Rr5, Rr6⟩ := shc7 H3r
    obtain ⟨Rl0, Rl1, Rl2, Rl3, Rl4, Rl5, Rl6⟩ := shc7 H3l
    go_wp2_with fail
    exact bodyPost_ret (v := .tuple #[.agg #[.int .i64 0, .int .i64 0, .int .i64 0, .int .i64 0, .int .i64 0, .int .i64 0, .slice none 0 0], .agg #[.int .i64 0, .int .i64 0, .int .i64 0, .int .i64 0, .int .i64 0, .int .i64 0, .int .i64 0], .int .i64 20]) (by simp [results, Tryz.results59, Rr0.out, Rr1.out, Rr2.out, Rr3.out, Rr4.out, Rr5.out, Rr6.out, Rl0.out, Rl1.out, Rl2.out, Rl3.out, Rl4.out, Rl5.out, Rl6.out, go_sem]) rfl ⟨ac0, bi0, none, 0, 0, _, rfl, HV.out, deb.fresh_nil _ _, H3B.out⟩
  ·have d1 : decide (15 ≤ x.rv) = true := decide_eq_true (by omega)
   have HV : Hid (RekeyIs x ac0 bi0 24) := .inr (.inl ⟨HM.out, h1, rfl, rfl, rfl⟩)
   clear h1
   have q1 : w1.cell? ⟨w.heap.size, 1, none⟩ = some (.int .i64 x.rv) := H1d.out.cell 1
   go_wp2_with (first
    | (refine zql rfl rfl rfl rfl zqu59 (by simp [Value.oneCell']) H1r rfl ?_)
    | (refine zqw rfl rfl rfl H1d zqu59 ?_)
    | (refine zqw rfl rfl rfl H1r zqu59 ?_)
    | (refine zqw rfl rfl rfl H1l zqu69 ?_)
    | fail)
   intro w1a hU
   have H2d := shK hU H1d (by omega)
   have H2r : Hid (Blk w1a (w.heap.size + 1) #[.int .i64 0, .int .i64 0, .int .i64 0, .int .i64 0, .int .i64 0, .int .i64 0, .slice none 0 0] 59) := hU.blk
   have H2l := shK hU H1l (by omega)
   have H2B := shV hU H1B (by omega)
   have hsw1a : w1a.heap.size = w1.heap.size := hU.size
   clear hU H1d H1r H1l H1R H1B
   go_wp2_with (first
    | (refine zql rfl rfl rfl rfl zqu69 (by simp [Value.oneCell']) H2l rfl ?_)
    | (refine zqw rfl rfl rfl H2d zqu59 ?_)
    | (refine zqw rfl rfl rfl H2r zqu59 ?_)
    | (refine zqw rfl rfl rfl H2l zqu69 ?_)
    | fail)
   intro w1ab hU
   have H3d := shK hU H2d (by omega)
   have H3r := shK hU H2r (by omega)
   have H3l : Hid (Blk w1ab (w.heap.size + 1 + 1) #[.int .i64 0, .int .i64 0, .int .i64 0, .int .i64 0, .int .i64 0, .int .i64 0, .int .i64 0] 69) := hU.blk
   have H3B := shV hU H2B (by omega)
   have hsw1ab : w1ab.heap.size = w1a.heap.size := hU.size
   clear hU H2d H2r H2l H2B
   obtain ⟨Rr0, Rr1, Rr2, Rr3, Rr4, Rr5, Rr6⟩ := shc7 H3r
   obtain ⟨Rl0, Rl1, Rl2, Rl3, Rl4, Rl5, Rl6⟩ := shc7 H3l
   go_wp2_with fail
   exact bodyPost_ret (v := .tuple #[.agg #[.int .i64 0, .int .i64 0, .int .i64 0, .int .i64 0, .int .i64 0, .int .i64 0, .slice none 0 0], .agg #[.int .i64 0, .int .i64 0, .int .i64 0, .int .i64 0, .int .i64 0, .int .i64 0, .int .i64 0], .int .i64 24]) (by simp [results, Tryz.results59, Rr0.out, Rr1.out, Rr2.out, Rr3.out, Rr4.out, Rr5.out, Rr6.out, Rl0.out, Rl1.out, Rl2.out, Rl3.out, Rl4.out, Rl5.out, Rl6.out, go_sem]) rfl ⟨ac0, bi0, none, 0, 0, _, rfl, HV.out, deb.fresh_nil _ _, H3B.out⟩
 ·have HM : Hid (¬ AMay x) := hm
  obtain ⟨W0, HWW, H0d, H0r, H0l, H0B, hs0⟩ := sh3 w #[.int .i64 x.me, .int .i64 x.rv, .int .i64 x.nx, .int .i64 x.mo, .int .i64 x.bo, .int .i64 x.fr, .slice p len cap] 59 #[.int .i64 0, .int .i64 0, .int .i64 0, .int .i64 0, .int .i64 0, .int .i64 0, .slice none 0 0] 59 #[.int .i64 0, .int .i64 0, .int .i64 0, .int .i64 0, .int .i64 0, .int .i64 0, .int .i64 0] 69
  have H0R : Hid (RowD W0 p len x.ds) := h.below H0B.out
  go_enter Tryz.func59, Tryz.ntmps59
  go_upto_region 1 with fail
  rw [HWW.out]
  clear HWW
  have HAM : Hid (Calls Tryz.prog 47 #[.agg #[.int .i64 x.me, .int .i64 x.rv, .int .i64 x.nx, .int .i64 x.mo, .int .i64 x.bo, .int .i64 x.fr, .slice p len cap]] W0 fun e w' => e = .returned (.bool false) ∧ Below W0.heap.size W0 w') := ranot x p len cap _ H0R.out hl hm
  go_wp2_with (first
   | (refine zqw rfl rfl rfl H0d zqu59 ?_)
   | (refine zqw rfl rfl rfl H0r zqu59 ?_)
   | (refine zqw rfl rfl rfl H0l zqu69 ?_)
   | fail)
  refine HAM.out.mono ?_
  rintro e w1 ⟨rfl, hb1⟩
  have H1d := shN H0d hb1
  have H1r := shN H0r hb1
  have H1l := shN H0l hb1
  have H1R : Hid (RowD w1 p len x.ds) := H0R.out.below hb1
  have H1B := shB H0B hb1
  have hsw1 : W0.heap.size ≤ w1.heap.size := hb1.size
  clear hb1 H0d H0r H0l H0R H0B
  clear HAM
  go_wp2_with (first
   | (refine zql rfl rfl rfl rfl zqu59 (by simp [Value.oneCell']) H1r rfl ?_)
   | (refine zqw rfl rfl rfl H1d zqu59 ?_)
   | (refine zqw rfl rfl rfl H1r zqu59 ?_)
   | (refine zqw rfl rfl rfl H1l zqu69 ?_)
   | fail)
  intro w1a hU
  have H2d := shK hU H1d (by omega)
  have H2r : Hid (Blk w1a (w.heap.size + 1) #[.int .i64 0, .int .i64 0, .int .i64 0, .int .i64 0, .int .i64 0, .int .i64 0, .slice none 0 0] 59) := hU.blk
  have H2l := shK hU H1l (by omega)
  have H2B := shV hU H1B (by omega)
  have hsw1a : w1a.heap.size = w1.heap.size := hU.size
  clear hU H1d H1r H1l H1R H1B
  go_wp2_with (first
   | (refine zql rfl rfl rfl rfl zqu69 (by simp [Value.oneCell']) H2l rfl ?_)
   | (refine zqw rfl rfl rfl H2d zqu59 ?_)
   | (refine zqw rfl rfl rfl H2r zqu59 ?_)
   | (refine zqw rfl rfl rfl H2l zqu69 ?_)
   | fail)
  intro w1ab hU
  have H3d := shK hU H2d (by omega)
  have H3r := shK hU H2r (by omega)
  have H3l : Hid (Blk w1ab (w.heap.size + 1 + 1) #[.int .i64 0, .int .i64 0, .int .i64 0, .int .i64 0, .int .i64 0, .int .i64 0, .int .i64 0] 69) := hU.blk
  have H3B := shV hU H2B (by omega)
  have hsw1ab : w1ab.heap.size = w1a.heap.size := hU.size
  clear hU H2d H2r H2l H2B
  obtain ⟨Rr0, Rr1, Rr2, Rr3, Rr4, Rr5, Rr6⟩ := shc7 H3r
  obtain ⟨Rl0, Rl1, Rl2, Rl3, Rl4, Rl5, Rl6⟩ := shc7 H3l
  go_wp2_with fail
  exact bodyPost_ret (v := .tuple #[.agg #[.int .i64 0, .int .i64 0, .int .i64 0, .int .i64 0, .int .i64 0, .int .i64 0, .slice none 0 0], .agg #[.int .i64 0, .int .i64 0, .int .i64 0, .int .i64 0, .int .i64 0, .int .i64 0, .int .i64 0], .int .i64 5]) (by simp [results, Tryz.results59, Rr0.out, Rr1.out, Rr2.out, Rr3.out, Rr4.out, Rr5.out, Rr6.out, Rl0.out, Rl1.out, Rl2.out, Rl3.out, Rl4.out, Rl5.out, Rl6.out, go_sem]) rfl ⟨ac0, bi0, none, 0, 0, _, rfl, .inl ⟨HM.out, rfl, rfl, rfl⟩, deb.fresh_nil _ _, H3B.out⟩
end acc
namespace vnd
open disk (RepIs AppIs May repD lenAt appW)
open book (Ev ev0 EMay evL evOf EncIs DecIs Cm cm0 So so0 BookIs FirstAt NoneAt Tells billOf soldOf StepIs HapIs)
open acc (Ac Tm Bi SellIs GrantIs RekeyIs OweIs)
open cell (Wr)
theorem book_ok {t : Tm} {l : List Ev} {bk : List Cm} {a : Int} (h : BookIs t l bk a 0) : acc.TRight t ∧ l.length ≤ 120 ∧ a = 0 ∧ ∃ st : Nat → List Cm, st 0 = [] ∧ (∀ i, i < l.length → StepIs t (st i) (l.getD i ev0) (st (i + 1)) 0) ∧ bk = st l.length := by
 rcases h with ⟨_, p, _⟩ | ⟨_, _, _, _, p⟩ | ⟨p, q, k, st, s0, s1, ⟨rfl, s2, s3, _⟩ | ⟨_, _, s2, _⟩⟩
 ·exact absurd rfl p
 ·cases p
 ·exact ⟨p, q, s3, st, s0, s1, s2⟩
 ·exact absurd rfl s2
end vnd
end Go.Proofs.YtomibnggmhjdfaaGreat
