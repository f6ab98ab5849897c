import Derived.Test.YtnpblpbohcegoaaGreatDoorVBNrs32
import Derived.Test.YtnpblpbohcegoaaGreatDoorVBNrs38
import Derived.Test.YtnpblpbohcegoaaGreatDoorVBNrs39
set_option linter.unusedVariables false
set_option linter.unusedSimpArgs false
set_option maxHeartbeats 4000000
set_option maxRecDepth 100000
namespace Go.Proofs.YtnpblpbohcegoaaGreatDoor
namespace ora
open Go.RowKit
set_option maxRecDepth 100000
theorem step_pr {w : World} {ops : Array Oper} {o : Oper} {a : Act} {K : Act → World → Prop} {Q : Exit → Act → World → Prop} {E : Prop} (hgd : o.guard = none) (s x : Operand)
  (ho : o.op = .call { callee := .builtin .append, args := #[s, x], argTypes := #[37, 37] })
  (base G : Nat) (v : Value) (l : List Pr) (r : Pr) (hs : a.eval s = v) (hx : a.eval x = .slice (some ⟨G, 0, none⟩) 1 1) (hv : Pw w base v l) (hu : PrAt w G 0 r) (hn : l.length ≤ 1000000) (hbase : base ≤ w.heap.size)
  (h : ∀ v' w', Pw w' base v' (l ++ [r]) → w.grownBy w' v.ownBlock → K (a.put o.dst v') w') : if Region.wanted o (yielded ops a.tmps) = true then Oper.wp Tryz.prog o a w K Q else E := by
 have hw : Region.wanted o (yielded ops a.tmps) = true := by simp [Region.wanted, hgd]
 rw [if_pos hw]
 obtain ⟨i0, hi, hz0, hz1, hz2⟩ := info_parts info_pr
 obtain ⟨v', w', hr, h2, h3, _⟩ := run_append_own (P := Tryz.prog) w base 37 o.type 279 i0 (.agg #[.int .i64 0, .int .i64 0, .int .i64 0, .int .i64 0]) 4 32 Tryz.underlying37 hi hz0 hz1 hz2 rfl (by decide) v l.length (cellsP l) hv ⟨G, 0, none⟩ 1 1 (cellsP [r]) rfl (by
  intro j u hj
  match j, hj with
  | 0, hj => simp [cellsP] at hj; subst hj; simpa [Addr.add] using hu.1
  | 1, hj => simp [cellsP] at hj; subst hj; simpa [Addr.add] using hu.2.1
  | 2, hj => simp [cellsP] at hj; subst hj; simpa [Addr.add] using hu.2.2.1
  | 3, hj => simp [cellsP] at hj; subst hj; simpa [Addr.add] using hu.2.2.2
  | j + 4, hj => simp [cellsP] at hj) (oneP [r]) (by unfold maxLen; omega) (by omega) hbase
 unfold Oper.wp execOp
 simp only [ho, resolve, invoke, builtin, Sem.run_bind, Sem.run_pure, Result.andThen_ok, List.map_toArray, List.map_cons, List.map_nil, hs, hx, hr]
 refine h v' w' ?_ h3
 unfold Pw
 rw [List.length_append, cellsP_app]
 exact h2
def IssueQ (w : World) (l : List Pr) (m r b d : Int) (e : Ending) (w' : World) : Prop :=
 ∃ v ls x c, e = .returned (.tuple #[.agg #[v], .int .i64 x, .int .i64 c]) ∧ Pw w' w.heap.size v ls ∧ IssueIs l m r b d ls x c ∧ Below w.heap.size w w'
theorem Pw.lies {w : World} {base : Nat} {v : Value} {l : List Pr} (h : Pw w base v l) : ∃ a cap, v = .slice a l.length cap ∧ RowP w a l.length l ∧ (a = none → cap = 0) ∧ l.length ≤ cap ∧ (∀ y, a = some y → base ≤ y.block ∧ y.block < w.heap.size) := by
 obtain ⟨a, cap, hv, h1, h2, h3⟩ := h.row
 refine ⟨a, cap, hv, h1, h2, h3, fun y hy => ?_⟩
 subst hy
 have := World.ownsRow.lt h y.block (by rw [hv]; rfl)
 exact ⟨this.1, this.2⟩
structure Bj (w wr : World) (a : Option Addr) (n cap : Nat) (l : List Pr) (G : Nat) (m r b d : Int) : Prop where
 bi : Bi w wr a n cap l
 pr : Blk wr G #[.int .i64 m, .int .i64 r, .int .i64 b, .int .i64 d] 279
theorem Bj.next {w wr w' : World} {a : Option Addr} {n cap : Nat} {l : List Pr} {G : Nat} {m r b d : Int} (h : Bj w wr a n cap l G m r b d) (hb : Below wr.heap.size wr w') : Bj w w' a n cap l G m r b d := ⟨h.bi.next hb, h.pr.next hb⟩
theorem Bj.alloc {w wr : World} {a : Option Addr} {n cap : Nat} {l : List Pr} {G : Nat} {m r b d : Int} (h : Bj w wr a n cap l G m r b d) (o : Obj) : Bj w (wr.alloc o) a n cap l G m r b d := h.next ((Below.refl _ _).alloc (Nat.le_refl _) _)
theorem Bj.drew {w wr : World} {a : Option Addr} {n cap : Nat} {l : List Pr} {G : Nat} {m r b d : Int} (h : Bj w wr a n cap l G m r b d) (q : Nat) : Bj w (wr.drewN q) a n cap l G m r b d := h.next (bel_drew (Below.refl _ _) q)
theorem Bj.cells {w wr : World} {a : Option Addr} {n cap : Nat} {l : List Pr} {G : Nat} {m r b d : Int} (h : Bj w wr a n cap l G m r b d) : wr.cell? ⟨w.heap.size, 0, none⟩ = some (.slice a n cap) ∧ wr.cell? ⟨G, 0, none⟩ = some (.int .i64 m) ∧ wr.cell? ⟨G, 0 + 1, none⟩ = some (.int .i64 r) ∧ wr.cell? ⟨G, 0 + 2, none⟩ = some (.int .i64 b) ∧ wr.cell? ⟨G, 0 + 3, none⟩ = some (.int .i64 d) :=
 ⟨h.bi.bo.box.cell 0, h.pr.cell 0, h.pr.cell 1, h.pr.cell 2, h.pr.cell 3⟩
theorem Bj.ne {w wr : World} {a : Option Addr} {n cap : Nat} {l : List Pr} {G : Nat} {m r b d : Int} (h : Bj w wr a n cap l G m r b d) : w.heap.size + 1 ≠ G := by
 rintro rfl
 have h1 := h.pr; have h2 := h.bi.out
 unfold Blk at h1 h2
 rw [h1] at h2; simp at h2
theorem Bj.put {w wr : World} {a : Option Addr} {n cap : Nat} {l : List Pr} {G : Nat} {m r b d : Int} (h : Bj w wr a n cap l G m r b d) (u : Value) : (wr.setCell ⟨w.heap.size + 1, 0, none⟩ u).cell? ⟨w.heap.size, 0, none⟩ = some (.slice a n cap) ∧ (wr.setCell ⟨w.heap.size + 1, 0, none⟩ u).cell? ⟨G, 0, none⟩ = some (.int .i64 m) ∧ (wr.setCell ⟨w.heap.size + 1, 0, none⟩ u).cell? ⟨G, 0 + 1, none⟩ = some (.int .i64 r) ∧ (wr.setCell ⟨w.heap.size + 1, 0, none⟩ u).cell? ⟨G, 0 + 2, none⟩ = some (.int .i64 b) ∧ (wr.setCell ⟨w.heap.size + 1, 0, none⟩ u).cell? ⟨G, 0 + 3, none⟩ = some (.int .i64 d) := by
 have h1 := Blk.other h.bi.bo.box 0 u (G' := w.heap.size + 1) (by omega)
 have h2 := Blk.other h.pr 0 u h.ne
 exact ⟨h1.cell 0, h2.cell 0, h2.cell 1, h2.cell 2, h2.cell 3⟩
structure En (w W : World) (v : Value) (ls : List Pr) : Prop where
 pw : Pw W w.heap.size v ls
 cell : W.cell? ⟨w.heap.size + 1, 0, none⟩ = some v
 bel : Below w.heap.size w W
theorem En.of {w w6 : World} {a : Option Addr} {n cap : Nat} {l : List Pr} {v : Value} {ls : List Pr} (hi : Bi w w6 a n cap l) (hp : Pw w6 w.heap.size v ls) : En w (w6.setCell ⟨w.heap.size + 1, 0, none⟩ v) v ls :=
 ⟨hp.put2 hi.out (by decide) 0 v, by have := (hi.out.set 0 v).cell 0; exact this, bel_set hi.bo.bel _ _ _ (by omega)⟩
set_option maxHeartbeats 2000000 in
theorem poi (a : Option Addr) (n cap : Nat) (l : List Pr) (m r b d : Int) (w : World) (hr : RowP w a n l) :
  Calls Tryz.prog 163 #[.agg #[.slice a n cap], .int .i64 m, .int .i64 r, .int .i64 b, .int .i64 d] w fun e w' => IssueQ w l m r b d e w' := by
 have HB0 : Hid (Bi w ((w.alloc (.cells #[.slice a n cap] 39)).alloc (.cells #[.slice none 0 0] 39)) a n cap l) := ⟨(Bo.new hr).alloc _, Blk.new1 w _ _ _⟩
 have HL : Hid (l.length = n) := hr.1
 have HG : Hid (∀ W, RowP W a n l → Calls Tryz.prog 187 #[.agg #[.slice a n cap]] W fun e w' => Given W l e w') := fun W h => given_any a n cap l W h
 have HCL : Hid (∀ W, n ≤ 500 → RowP W a n l → Calls Tryz.prog 190 #[.slice a n cap] W fun e w' => GaveV W l e w') := fun W h0 h => pclone_any a n cap l W h (by omega)
 have HPM : Hid (∀ W, Calls Tryz.prog 188 #[.agg #[.int .i64 m, .int .i64 r, .int .i64 b, .int .i64 d]] W fun e w' => Told W (Pr.mk m r b d).may e w') := fun W => within_any m r b d W
 have HOF : Hid (∀ W, Calls Tryz.prog 189 #[.agg #[.int .i64 m, .int .i64 r, .int .i64 b, .int .i64 d]] W fun e w' => e = .returned (.agg #[.int .i64 m, .int .i64 r, .int .i64 b]) ∧ Below W.heap.size W w') := fun W => of_any m r b d W
 clear hr
 have c0 := HB0.out.bo.box.cell 0
 go_enter Tryz.func163, Tryz.ntmps163
 go_wp2_with fail
 refine (HG.out _ HB0.out.bo.row).mono ?_
 rintro e w1 ⟨hb1, ⟨hm, B, rfl, hmp⟩ | ⟨hm, rfl⟩⟩
 ·have HI1 : Hid (Bi w w1 a n cap l) := HB0.out.next hb1
  have hn : n ≤ 500 := by rw [← HL.out]; exact hm.few
  have HMY : Hid (May l) := hm
  have HJ2 : Hid (Bj w (w1.alloc (.cells #[.int .i64 m, .int .i64 r, .int .i64 b, .int .i64 d] 279)) a n cap l w1.heap.size m r b d) := ⟨HI1.out.alloc _, Blk.new w1 _ _⟩
  have HM2 : Hid (Mp (w1.alloc (.cells #[.int .i64 m, .int .i64 r, .int .i64 b, .int .i64 d] 279)) B l) := hmp.below ((Below.refl _ _).alloc (Nat.le_refl _) _)
  have p0 := HJ2.out.pr.cell 0
  have p1 := HJ2.out.pr.cell 1
  have p2 := HJ2.out.pr.cell 2
  have p3 := HJ2.out.pr.cell 3
  clear hb1 hm hmp HB0 c0 HI1
  go_wp2_with fail
  refine (HPM.out _).mono ?_
  rintro e w2 ⟨rr, rfl, hrr, hb2⟩
  have HJ3 : Hid (Bj w w2 a n cap l w1.heap.size m r b d) := HJ2.out.next hb2
  have HM3 : Hid (Mp w2 B l) := HM2.out.below hb2
  clear hb2 HJ2 HM2 p0 p1 p2 p3
  generalize w1.heap.size = gp at *
  have z0 := HJ3.out.bi.out.cell 0
  have y0 := HJ3.out.bi.out.free 0
  cases rr with
  | false =>
   have HN : Hid (¬ (Pr.mk m r b d).may) := fun h => by have := hrr.2 h; cases this
   have HE : Hid (En w (w2.setCell ⟨w.heap.size + 1, 0, none⟩ (.slice none 0 0)) (.slice none 0 0) []) := En.of HJ3.out.bi (Pw.zero _ _)
   have R0 : Hid (_ = _) := HE.out.cell
   clear hrr
   go_wp2_with fail
   exact bodyPost_ret (v := .tuple #[.agg #[.slice none 0 0], .int .i64 0, .int .i64 2]) (by simp [results, Tryz.results163, R0.out, go_sem]) rfl ⟨_, [], 0, 2, rfl, HE.out.pw, .inr (.inl ⟨HMY.out, HN.out, rfl, rfl, rfl⟩), HE.out.bel⟩
  | true =>
   have HPY : Hid ((Pr.mk m r b d).may) := hrr.1 rfl
   clear hrr z0 y0
   have p0 := HJ3.out.pr.cell 0
   have p1 := HJ3.out.pr.cell 1
   have p2 := HJ3.out.pr.cell 2
   have p3 := HJ3.out.pr.cell 3
   go_wp2_with fail
   refine (HOF.out _).mono ?_
   rintro e w3 ⟨rfl, hb3⟩
   have HJ4 : Hid (Bj w w3 a n cap l gp m r b d) := HJ3.out.next hb3
   have hlk := look_run (HM3.out.below hb3) m r b
   clear hb3 HJ3 HM3 p0 p1 p2 p3
   have c0 := HJ4.out.bi.bo.box.cell 0
   rcases find_or l m r b with ⟨i, hi⟩ | hno
   ·rw [look_at hi] at hlk
    simp only [Option.getD_some, Option.isSome_some] at hlk
    have HAT : Hid (∃ i, At l m r b i ∧ (l.getD i pr0).t = (l.getD i pr0).t) := ⟨i, hi, rfl⟩
    have HIS : Hid (IssueIs l m r b d l (l.getD i pr0).t 0) := .inr (.inr (.inl ⟨HMY.out, HPY.out, ⟨i, hi, rfl⟩, rfl, rfl⟩))
    clear hi HAT
    generalize (l.getD i pr0).t = pt at *
    go_wp2_with fail
    refine (HCL.out _ hn HJ4.out.bi.bo.row).mono ?_
    rintro e w4 ⟨v4, rfl, hp4, hb4⟩
    have HI5 : Hid (Bi w w4 a n cap l) := HJ4.out.bi.next hb4
    have hp5 : Pw w4 w.heap.size v4 l := hp4.low HJ4.out.bi.bo.bel.size
    obtain ⟨a4, k4, rfl, _⟩ := hp5.lies
    have HE : Hid (En w (w4.setCell ⟨w.heap.size + 1, 0, none⟩ (.slice a4 l.length k4)) (.slice a4 l.length k4) l) := En.of HI5.out hp5
    have R0 : Hid (_ = _) := HE.out.cell
    have z0 := HI5.out.out.cell 0
    have y0 := HI5.out.out.free 0
    clear hb4 hp4 hp5 HJ4 c0 hlk
    generalize l.length = ln at *
    go_wp2_with fail
    exact bodyPost_ret (v := .tuple #[.agg #[.slice a4 ln k4], .int .i64 pt, .int .i64 0]) (by simp [results, Tryz.results163, R0.out, go_sem]) rfl ⟨_, l, pt, 0, rfl, HE.out.pw, HIS.out, HE.out.bel⟩
   ·rw [look_no hno] at hlk
    simp only [Option.getD_none, Option.isSome_none] at hlk
    have HNO : Hid (No l m r b) := hno
    clear hno
    by_cases h5 : n = 500
    ·have hq : ((n : Int) == 500) = true := by simp; omega
     have HL5 : Hid (l.length = 500) := by rw [← h5]; exact HL.out
     have HE : Hid (En w (w3.setCell ⟨w.heap.size + 1, 0, none⟩ (.slice none 0 0)) (.slice none 0 0) []) := En.of HJ4.out.bi (Pw.zero _ _)
     have R0 : Hid (_ = _) := HE.out.cell
     have z0 := HJ4.out.bi.out.cell 0
     have y0 := HJ4.out.bi.out.free 0
     clear h5
     go_wp2_with fail
     exact bodyPost_ret (v := .tuple #[.agg #[.slice none 0 0], .int .i64 0, .int .i64 16]) (by simp [results, Tryz.results163, R0.out, go_sem]) rfl ⟨_, [], 0, 16, rfl, HE.out.pw, .inr (.inr (.inr (.inl ⟨HMY.out, HPY.out, HNO.out, HL5.out, rfl, rfl, rfl⟩))), HE.out.bel⟩
    ·have hq : ((n : Int) == 500) = false := by simp; omega
     have HL5 : Hid (l.length < 500) := by have := HL.out; show _ < _; omega
     have HLN : Hid (l.length ≤ 1000000) := by have := HL5.out; show _ ≤ _; omega
     have HIS : Hid (IssueIs l m r b d (l ++ [⟨m, r, b, d⟩]) d 0) := .inr (.inr (.inr (.inr ⟨HMY.out, HPY.out, HNO.out, HL5.out, rfl, rfl, rfl⟩)))
     obtain ⟨l2, hl2⟩ : ∃ l2, l2 = l ++ [Pr.mk m r b d] := ⟨_, rfl⟩
     have HL2 : Hid (l2 = l ++ [Pr.mk m r b d]) := hl2
     rw [← hl2] at HIS
     clear hl2
     have HJD : Hid (Bj w w3.drew a n cap l gp m r b d) := HJ4.out.drew 1
     have HRD : Hid (RowP w3.drew a n l) := HJD.out.bi.bo.row
     have HBD : Hid (Below w3.heap.size w3 w3.drew) := bel_drew (Below.refl _ _) 1
     have HJX : Hid (Bj w (w3.alloc (.cells #[.int .i64 m, .int .i64 r, .int .i64 b, .int .i64 d] 279)).drew a n cap l gp m r b d) := (HJ4.out.alloc _).drew 1
     have HRX : Hid (RowP (w3.alloc (.cells #[.int .i64 m, .int .i64 r, .int .i64 b, .int .i64 d] 279)).drew a n l) := HJX.out.bi.bo.row
     have HBX : Hid (Below w3.heap.size w3 (w3.alloc (.cells #[.int .i64 m, .int .i64 r, .int .i64 b, .int .i64 d] 279)).drew) := bel_drew ((Below.refl _ _).alloc (Nat.le_refl _) _) 1
     have HPX : Hid (PrAt (w3.alloc (.cells #[.int .i64 m, .int .i64 r, .int .i64 b, .int .i64 d] 279)).drew w3.heap.size 0 ⟨m, r, b, d⟩) := pr_cell w3 m r b d
     have HWW : Hid (w.heap.size ≤ w3.heap.size) := HJ4.out.bi.bo.bel.size
     have KD : Hid (w3.drew.cell? ⟨w.heap.size, 0, none⟩ = some (.slice a n cap) ∧ w3.drew.cell? ⟨gp, 0, none⟩ = some (.int .i64 m) ∧ w3.drew.cell? ⟨gp, 0 + 1, none⟩ = some (.int .i64 r) ∧ w3.drew.cell? ⟨gp, 0 + 2, none⟩ = some (.int .i64 b) ∧ w3.drew.cell? ⟨gp, 0 + 3, none⟩ = some (.int .i64 d)) := HJD.out.cells
     have KX : Hid ((w3.alloc (.cells #[.int .i64 m, .int .i64 r, .int .i64 b, .int .i64 d] 279)).drew.cell? ⟨w.heap.size, 0, none⟩ = some (.slice a n cap) ∧ (w3.alloc (.cells #[.int .i64 m, .int .i64 r, .int .i64 b, .int .i64 d] 279)).drew.cell? ⟨gp, 0, none⟩ = some (.int .i64 m) ∧ (w3.alloc (.cells #[.int .i64 m, .int .i64 r, .int .i64 b, .int .i64 d] 279)).drew.cell? ⟨gp, 0 + 1, none⟩ = some (.int .i64 r) ∧ (w3.alloc (.cells #[.int .i64 m, .int .i64 r, .int .i64 b, .int .i64 d] 279)).drew.cell? ⟨gp, 0 + 2, none⟩ = some (.int .i64 b) ∧ (w3.alloc (.cells #[.int .i64 m, .int .i64 r, .int .i64 b, .int .i64 d] 279)).drew.cell? ⟨gp, 0 + 3, none⟩ = some (.int .i64 d)) := HJX.out.cells
     clear h5
     go_wp2_with fail
     clear hlk hq c0
     go_region_held_law (fun v => v.cell? ⟨w.heap.size, 0, none⟩ = some (.slice a n cap) ∧ v.cell? ⟨gp, 0, none⟩ = some (.int .i64 m) ∧ v.cell? ⟨gp, 0 + 1, none⟩ = some (.int .i64 r) ∧ v.cell? ⟨gp, 0 + 2, none⟩ = some (.int .i64 b) ∧ v.cell? ⟨gp, 0 + 3, none⟩ = some (.int .i64 d))
      (first | with_reducible exact KD.out | with_reducible exact KX.out | with_reducible exact K5.out | with_reducible exact K6.out | with_reducible exact K7.out | with_reducible exact K8.out)
      (first
       | (go_at_call 190; refine (HCL.out _ hn (by with_reducible exact HRD.out)).mono ?_; rintro e w5 ⟨v5, rfl, hp5, hb5⟩
          have HB5 := shB HBD hb5
          have HB6 : Hid (Below w3.heap.size w3 (w5.alloc (.cells #[.int .i64 m, .int .i64 r, .int .i64 b, .int .i64 d] 279))) := HB5.out.alloc HB5.out.size _
          have K5 : Hid (w5.cell? ⟨w.heap.size, 0, none⟩ = some (.slice a n cap) ∧ w5.cell? ⟨gp, 0, none⟩ = some (.int .i64 m) ∧ w5.cell? ⟨gp, 0 + 1, none⟩ = some (.int .i64 r) ∧ w5.cell? ⟨gp, 0 + 2, none⟩ = some (.int .i64 b) ∧ w5.cell? ⟨gp, 0 + 3, none⟩ = some (.int .i64 d)) := (HJ4.out.next HB5.out).cells
          have K6 : Hid ((w5.alloc (.cells #[.int .i64 m, .int .i64 r, .int .i64 b, .int .i64 d] 279)).cell? ⟨w.heap.size, 0, none⟩ = some (.slice a n cap) ∧ (w5.alloc (.cells #[.int .i64 m, .int .i64 r, .int .i64 b, .int .i64 d] 279)).cell? ⟨gp, 0, none⟩ = some (.int .i64 m) ∧ (w5.alloc (.cells #[.int .i64 m, .int .i64 r, .int .i64 b, .int .i64 d] 279)).cell? ⟨gp, 0 + 1, none⟩ = some (.int .i64 r) ∧ (w5.alloc (.cells #[.int .i64 m, .int .i64 r, .int .i64 b, .int .i64 d] 279)).cell? ⟨gp, 0 + 2, none⟩ = some (.int .i64 b) ∧ (w5.alloc (.cells #[.int .i64 m, .int .i64 r, .int .i64 b, .int .i64 d] 279)).cell? ⟨gp, 0 + 3, none⟩ = some (.int .i64 d)) := (HJ4.out.next HB6.out).cells
          have HP6 : Hid (Pw (w5.alloc (.cells #[.int .i64 m, .int .i64 r, .int .i64 b, .int .i64 d] 279)) w3.heap.size v5 l) := Pw.alloc hp5 _
          have HPA : Hid (PrAt (w5.alloc (.cells #[.int .i64 m, .int .i64 r, .int .i64 b, .int .i64 d] 279)) w5.heap.size 0 ⟨m, r, b, d⟩) := pr_cell w5 m r b d
          have HSZ : Hid (w3.heap.size ≤ (w5.alloc (.cells #[.int .i64 m, .int .i64 r, .int .i64 b, .int .i64 d] 279)).heap.size) := HB6.out.size
          clear hp5 hb5)
       | (go_at_call 190; refine (HCL.out _ hn (by with_reducible exact HRX.out)).mono ?_; rintro e w5 ⟨v5, rfl, hp5, hb5⟩
          have HB6 := shB HBX hb5
          have K6 : Hid (w5.cell? ⟨w.heap.size, 0, none⟩ = some (.slice a n cap) ∧ w5.cell? ⟨gp, 0, none⟩ = some (.int .i64 m) ∧ w5.cell? ⟨gp, 0 + 1, none⟩ = some (.int .i64 r) ∧ w5.cell? ⟨gp, 0 + 2, none⟩ = some (.int .i64 b) ∧ w5.cell? ⟨gp, 0 + 3, none⟩ = some (.int .i64 d)) := (HJ4.out.next HB6.out).cells
          have HP6 : Hid (Pw w5 w3.heap.size v5 l) := hp5.low HBX.out.size
          have HPB : Hid (PrAt w5 w3.heap.size 0 ⟨m, r, b, d⟩) := HPX.out.below hb5
          have HSZ : Hid (w3.heap.size ≤ w5.heap.size) := HB6.out.size
          clear hp5 hb5)
       | (first
         | refine step_pr rfl _ _ rfl w3.heap.size w5.heap.size _ l ⟨m, r, b, d⟩ rfl rfl HP6.out HPA.out HLN.out HSZ.out ?_
         | refine step_pr rfl _ _ rfl w3.heap.size w3.heap.size _ l ⟨m, r, b, d⟩ rfl rfl HP6.out HPB.out HLN.out HSZ.out ?_
          intro v7 w7 hp7 hg7
          have hB7 : Below w3.heap.size w3 w7 := pown_bel HP6.out hg7 HB6.out (Nat.le_refl _) HSZ.out
          have HJ7 : Hid (Bj w w7 a n cap l gp m r b d) := HJ4.out.next hB7
          have hp8 : Pw w7 w.heap.size v7 l2 := by rw [HL2.out]; exact hp7.low HWW.out
          obtain ⟨a7, k7, rfl, _⟩ := hp8.lies
          have HE : Hid (En w (w7.setCell ⟨w.heap.size + 1, 0, none⟩ (.slice a7 l2.length k7)) (.slice a7 l2.length k7) l2) := En.of HJ7.out.bi hp8
          have K7 : Hid (w7.cell? ⟨w.heap.size, 0, none⟩ = some (.slice a n cap) ∧ w7.cell? ⟨gp, 0, none⟩ = some (.int .i64 m) ∧ w7.cell? ⟨gp, 0 + 1, none⟩ = some (.int .i64 r) ∧ w7.cell? ⟨gp, 0 + 2, none⟩ = some (.int .i64 b) ∧ w7.cell? ⟨gp, 0 + 3, none⟩ = some (.int .i64 d)) := HJ7.out.cells
          have K8 : Hid ((w7.setCell ⟨w.heap.size + 1, 0, none⟩ (.slice a7 l2.length k7)).cell? ⟨w.heap.size, 0, none⟩ = some (.slice a n cap) ∧ (w7.setCell ⟨w.heap.size + 1, 0, none⟩ (.slice a7 l2.length k7)).cell? ⟨gp, 0, none⟩ = some (.int .i64 m) ∧ (w7.setCell ⟨w.heap.size + 1, 0, none⟩ (.slice a7 l2.length k7)).cell? ⟨gp, 0 + 1, none⟩ = some (.int .i64 r) ∧ (w7.setCell ⟨w.heap.size + 1, 0, none⟩ (.slice a7 l2.length k7)).cell? ⟨gp, 0 + 2, none⟩ = some (.int .i64 b) ∧ (w7.setCell ⟨w.heap.size + 1, 0, none⟩ (.slice a7 l2.length k7)).cell? ⟨gp, 0 + 3, none⟩ = some (.int .i64 d)) := HJ7.out.put _
          have z0 := HJ7.out.bi.out.cell 0
          have y0 := HJ7.out.bi.out.free 0
          have R0 : Hid (_ = _) := HE.out.cell
          clear hp7 hg7 hB7 hp8
          generalize l2.length = ln at *))
     all_goals go_wp2_with fail
     all_goals exact bodyPost_ret (v := .tuple #[.agg #[.slice a7 ln k7], .int .i64 d, .int .i64 0]) (by simp [results, Tryz.results163, R0.out, go_sem]) rfl ⟨_, l2, d, 0, rfl, HE.out.pw, HIS.out, HE.out.bel⟩
 ·have HI1 : Hid (Bi w w1 a n cap l) := HB0.out.next hb1
  have HN : Hid (¬ May l) := hm
  have HE : Hid (En w (w1.setCell ⟨w.heap.size + 1, 0, none⟩ (.slice none 0 0)) (.slice none 0 0) []) := En.of HI1.out (Pw.zero _ _)
  have R0 : Hid (_ = _) := HE.out.cell
  have z0 := HI1.out.out.cell 0
  have y0 := HI1.out.out.free 0
  clear hb1 hm HB0 c0
  go_wp2_with fail
  exact bodyPost_ret (v := .tuple #[.agg #[.slice none 0 0], .int .i64 0, .int .i64 5]) (by simp [results, Tryz.results163, R0.out, go_sem]) rfl ⟨_, [], 0, 5, rfl, HE.out.pw, .inl ⟨HN.out, rfl, rfl, rfl⟩, HE.out.bel⟩
end ora
namespace book
open Go.RowKit
open acc (Ac Tm Bi APost BPost TFault TRight OpenIs OweIs SellIs GrantIs RekeyIs wf6 ACame TCame fresh_updN fresh_drew came_lt)
theorem ev_me {v:Ev} (h:EMay v):0≤v.me∧v.me≤49:=by unfold EMay at h;omega
theorem ev_kd {v:Ev} (h:EMay v) (h1:v.kd≠1) (h5:v.kd≠5):v.kd=2∨v.kd=3∨v.kd=4:=by unfold EMay at h;omega
theorem ev_ow {v:Ev} (h:EMay v):(Lit.int .i64 v.ow).wf=true∧(Lit.int .i64 v.bp).wf=true:=by
 have:(0≤v.ow∧v.ow≤1000000000)∧0≤v.bp∧v.bp≤10000:=by unfold EMay at h;omega
 exact ⟨wf_i (by omega) (by omega),wf_i (by omega) (by omega)⟩
theorem charge_wr {w0:World} {base gW B:Nat} {t:Tm} {pt:Option Addr} {lt ct g n cap:Nat} {xs:List Cu} {bk:List Cm} {k:Nat} {v:Ev} {y b:Ac} {sol:List So} {dp pb:Option Addr} {dn dc lb cb:Nat} {sp:Option Addr} {sn sc:Nat} {cur:Array Value} {w w1 WF:World}
  (h:Wr w0 base gW B t pt lt ct (.slice (some ⟨g,0,none⟩) n cap) xs bk w) (hk:k<xs.length) (hx:xs.getD k cu0=⟨y.me,y.rv,y.nx,y.mo,y.bo,y.fr,dp,dn,dc,sp,sn,sc⟩) (hc:bk.getD k cm0=⟨y,sol⟩) (hcb:Blk w g cur 54) (hcs:k*8+8≤cur.size) (hc7:cur[k*8+7]?=some (.slice sp sn sc))
  (hm:EMay v) (hh:HapIs t ⟨y,sol⟩ v ⟨b,sol⟩ 0) (hb:Below w.heap.size w w1) (hf:deb.Fresh w1 w.heap.size pb lb cb b.ds) (hU:Upd w1 WF g (putAll cur (k*8) [zI b.me,zI b.rv,zI b.nx,zI b.mo,zI b.bo,zI b.fr,.slice pb lb cb]) 54) :
  WPost w0 base gW B t pt lt ct (HapR t bk k v) w (.returned (.tuple #[])) WF:=by
 have hx0:=h.hold.has k hk;have hoff:=h.hold.off k hk;rw [hc] at hx0;rw [hx] at hx0 hoff;have HOI:∀ i,(Value.slice sp sn sc).ownBlock=some i→i<w.heap.size∧base≤i∧i≠g:=fun i hi=>⟨(World.ownsRow.lt hx0.so i hi).2,(World.ownsRow.lt hx0.so i hi).1,fun e=>hoff.1 i hi (by rw [e];rfl)⟩;have hgb:base≤g:=(World.ownsRow.lt h.hold.row g rfl).1;have hgl:=hcb.lt;have hsz0:=h.sz;have hbb:=hU.bel 0 w1 (Nat.zero_le _) (Below.refl _ _);have hO:∀ i,i<w.heap.size→i≠g→WF.heap[i]?=w.heap[i]?:=fun i h1 h2=>by rw [hU.oth i h2];exact hb.block i h1
 have hos:WF.os=w.os∧WF.tape=w.tape∧WF.output=w.output:=⟨hbb.os.trans hb.os,hbb.tape.trans hb.tape,hbb.output.trans hb.output⟩
 have hsz:w.heap.size≤WF.heap.size:=by rw [hU.size];exact hb.size
 have hw:=hap_wf hh hm;refine ⟨⟨hos.1,hos.2.1,hos.2.2,hsz,fun i h1 _ _=>hO i (by omega) (by omega)⟩,.inl ⟨.slice (some ⟨g,0,none⟩) n cap,xs.set k ⟨b.me,b.rv,b.nx,b.mo,b.bo,b.fr,pb,lb,cb,sp,sn,sc⟩,bk.set k ⟨b,sol⟩,rfl,⟨⟨b,sol⟩,by rw [hc];exact hh,fun _=>rfl⟩,fun hsm=>?_⟩⟩;refine put_wr h hk hx hcb (fun i h1 h2 _=>hO i h1 h2) hsz hos (x':=⟨b.me,b.rv,b.nx,b.mo,b.bo,b.fr,pb,lb,cb,sp,sn,sc⟩) ⟨⟨rfl,rfl,rfl,rfl,rfl,rfl⟩,⟨acc_upd hf.came hU (fun hn p hp q=>by have:=hf.new hn p hp;omega),fun hn p hp=>by have:=hf.new hn p hp;omega⟩,?_⟩ hw.1 (by rw [hc];exact hw.2) (fun i hi=> .inl hi) (fun hn p hp=>hf.new hn p hp) (fun i hi hn p hp q=>by have h1:=(HOI i hi).1;have h2:=hf.new hn p hp;omega) ?_ hsm
 ·exact lo_upd (hx0.so.next hb) hU (fun i hi=>(HOI i hi).2.2)
 ·have e1:putAll cur (k*8) ([zI b.me,zI b.rv,zI b.nx,zI b.mo,zI b.bo,zI b.fr,.slice pb lb cb]++[.slice sp sn sc])=putAll cur (k*8) [zI b.me,zI b.rv,zI b.nx,zI b.mo,zI b.bo,zI b.fr,.slice pb lb cb]:=by
   rw [← putAll_more];apply Array.ext_getElem?;intro j;by_cases hj:j=k*8+7
   ·subst hj;rw [show k*8+([zI b.me,zI b.rv,zI b.nx,zI b.mo,zI b.bo,zI b.fr,.slice pb lb cb]:List Value).length=k*8+7 from rfl,Array.getElem?_setIfInBounds_self_of_lt (by rw [putAll_size];omega),putAll_get _ _ _ _ (by simp;omega),if_neg (by simp only [List.length_cons,List.length_nil];omega),hc7]
   ·rw [Array.getElem?_setIfInBounds_ne (by simp only [List.length_cons,List.length_nil];omega)]
  have e2:(⟨b.me,b.rv,b.nx,b.mo,b.bo,b.fr,pb,lb,cb,sp,sn,sc⟩:Cu).cs=[zI b.me,zI b.rv,zI b.nx,zI b.mo,zI b.bo,zI b.fr,.slice pb lb cb]++[.slice sp sn sc]:=rfl;rw [e2,e1];exact hU.blk
theorem bhappen (w0:World) (base gW B:Nat) (t:Tm) (pt:Option Addr) (lt ct:Nat) (a:Option Addr) (n cap:Nat) (xs:List Cu) (bk:List Cm) (v:Ev) (w:World) (h:Wr w0 base gW B t pt lt ct (.slice a n cap) xs bk w) (ht:TCame w0 t pt lt ct):Calls Tryz.prog 40 #[.pointer (some ⟨gW,0,none⟩),.agg #[zI v.kd,zI v.me,zI v.mo,zI v.id,zI v.te,zI v.de,zI v.fe,zI v.pr,zI v.ch,zI v.un,zI v.tg,zI v.ow,zI v.bp]] w fun e w'=>WPost w0 base gW B t pt lt ct (StepIs t bk v) w e w':=by
 have HMU:Hid (∀ W,Calls Tryz.prog 67 #[.agg #[zI v.kd,zI v.me,zI v.mo,zI v.id,zI v.te,zI v.de,zI v.fe,zI v.pr,zI v.ch,zI v.un,zI v.tg,zI v.ow,zI v.bp]] W fun e w'=>MustPost W v e w'):=fun W=>bmust v W;have HR:Hid (Wr w0 base gW B t pt lt ct (.slice a n cap) xs bk w):=h;have HT:Hid (TCame w0 t pt lt ct):=ht;have HSZ:Hid (base≤w.heap.size):=h.sz;clear h ht;obtain ⟨W0,HWW,H0v,H0B,-⟩:=sh1 w #[zI v.kd,zI v.me,zI v.mo,zI v.id,zI v.te,zI v.de,zI v.fe,zI v.pr,zI v.ch,zI v.un,zI v.tg,zI v.ow,zI v.bp] 72;go_enter Tryz.func40,Tryz.ntmps40;go_upto_region 1 with fail
 rw [HWW.o];clear HWW
 go_wp2_with (first
  | (refine zqw rfl rfl rfl H0v zqu72 ?_)
  | fail)
 refine (HMU.o _).mono ?_;rintro e W1 ⟨hm,hb⟩;have H1v:=shN H0v hb;have H1B:=shB H0B hb;clear H0v H0B;clear hb HMU;rcases hm with ⟨hm,rfl⟩ | ⟨hm,rfl⟩
 case inr=>
  exact ⟨rfl,.of H1B.o HSZ.o,.inr ⟨5,[],by decide,rfl,.inl ⟨hm,rfl⟩⟩⟩
 have HMA:Hid (EMay v):=hm;have HGN:Hid (∀ cur,¬ Blk W1 w.heap.size cur 54):=fun cur q=>by have h1:W1.heap[w.heap.size]?=_:=H1v.o;have h2:W1.heap[w.heap.size]?=_:=q;rw [h1] at h2;simp at h2
 clear hm;have HR1:Hid (Wr w0 base gW B t pt lt ct (.slice a n cap) xs bk W1):=HR.o.next H1B.o;have HK1:Hid (Kp base gW B w W1):= .of H1B.o HSZ.o;clear HR;have hgv:w.heap.size<W1.heap.size:=H1v.o.lt;have c0:W1.cell? ⟨w.heap.size,0,none⟩=some (zI v.kd):=H1v.o.cell 0;have c1:W1.cell? ⟨w.heap.size,1,none⟩=some (zI v.me):=H1v.o.cell 1;by_cases k1:v.kd=1
 case pos=>
  have q1:(v.kd == 1)=true:=by simpa using k1
  have HK:Hid (v.kd=1):=k1;clear k1;have HRG:Hid (Calls Tryz.prog 70 #[.pointer (some ⟨gW,0,none⟩),zI v.me] W1 fun e w'=>WPost w0 base gW B t pt lt ct (RegR bk v.me) W1 e w'):=breg w0 base gW B t pt lt ct a n cap xs bk v.me W1 HR1.o (ev_me HMA.o);go_wp2_with fail;refine HRG.o.mono ?_;intro e w9 hp;have hq:=hp.back (R':=StepIs t bk v) HK1.o (fun b f hr=>by rcases hr with ⟨h1,rfl⟩ | ⟨h1,rfl,rfl⟩;exact .inr (.inl ⟨HMA.o,HK.o,h1,rfl⟩);exact .inr (.inr (.inl ⟨HMA.o,HK.o,h1,rfl,rfl⟩)));have HQ:Hid (WPost w0 base gW B t pt lt ct (StepIs t bk v) w e w9):=hq;clear hp hq;rcases HQ.o.2 with ⟨V3,xs3,bk3,rfl,_⟩ | ⟨f,bk3,_,rfl,_⟩
  ·go_wp2_with fail;go_end0;exact HQ.o
  ·exact ⟨rfl,HQ.o⟩
 have q1:(v.kd == 1)=false:=by simpa using k1
 have HN1:Hid (v.kd≠1):=k1;clear k1
 have HCU:Hid (Calls Tryz.prog 71 #[.pointer (some ⟨gW,0,none⟩),zI v.me] W1 fun e w'=>CuPost W1 a bk v.me e w'):=by
  have hl:xs.length=n:=by obtain ⟨_,_,hv,_⟩:=HR1.o.hold.row.row;injection hv with _ e1 _;exact e1.symm
  refine bcust gW B t pt lt ct a n cap bk v.me W1 HR1.o.blk HR1.o.mp (by rw [← HR1.o.hold.len,hl]) (fun hn=>?_) (by have:=HR1.o.few.1;have:=HR1.o.hold.len;omega);obtain ⟨g,cur,e1,_⟩:=at_cust HR1.o.hold.row (k:=0) (by omega);exact ⟨g,e1⟩
 go_wp2_with fail;refine HCU.o.mono ?_;rintro e w9 ⟨hw9,hcu⟩;obtain rfl:W1=w9:=hw9.symm;clear HCU;rcases hcu with ⟨k,g,hfa,rfl,rfl⟩ | ⟨hno,rfl⟩
 case inr=>
  exact ⟨rfl,HK1.o,.inr ⟨18,[],by decide,rfl,.inr (.inr (.inr (.inl ⟨HMA.o,HN1.o,hno,rfl⟩)))⟩⟩
 have HFA:Hid (FirstAt bk v.me k):=hfa;have HKL:Hid (k<xs.length):=by show _<_;rw [HR1.o.hold.len];exact hfa.1
 clear hfa;by_cases k5:v.kd=5
 case neg=>
  have q5:(v.kd == 5)=false:=by simpa using k5
  have HN5:Hid (v.kd≠5):=k5;clear k5;have HSE:Hid (Calls Tryz.prog 73 #[.pointer (some ⟨gW,0,none⟩),.pointer (some ⟨g,k*8,none⟩),.agg #[zI v.kd,zI v.me,zI v.mo,zI v.id,zI v.te,zI v.de,zI v.fe,zI v.pr,zI v.ch,zI v.un,zI v.tg,zI v.ow,zI v.bp]] W1 fun e w'=>WPost w0 base gW B t pt lt ct (HapR t bk k v) W1 e w'):=bsell w0 base gW B t pt lt ct g n cap xs bk k v W1 HR1.o HKL.o HT.o HMA.o (ev_kd HMA.o HN1.o HN5.o);generalize k*8=O at *
  go_wp2_with (first
   | (refine zqw rfl rfl rfl H1v zqu72 ?_)
   | fail)
  refine HSE.o.mono ?_;intro e w9 hp;have hq:=hp.back (R':=StepIs t bk v) HK1.o (fun b f hr=>by obtain ⟨c',h1,h2⟩:=hr;exact .inr (.inr (.inr (.inr ⟨HMA.o,HN1.o,k,c',HFA.o,h1,h2⟩))));have HQ:Hid (WPost w0 base gW B t pt lt ct (StepIs t bk v) w e w9):=hq;clear hp hq;rcases HQ.o.2 with ⟨V3,xs3,bk3,rfl,_⟩ | ⟨f,bk3,_,rfl,_⟩
  ·go_wp2_with fail;go_end0;exact HQ.o
  ·exact ⟨rfl,HQ.o⟩
 have q5:(v.kd == 5)=true:=by simpa using k5
 have HK5:Hid (v.kd=5):=k5;clear k5;have hx0:=HR1.o.hold.has k HKL.o;have hwf0:wf6 (bk.getD k cm0).a:=HR1.o.wf _ (getD_in (by rw [← HR1.o.hold.len];exact HKL.o));obtain ⟨c,hc⟩:∃ c,bk.getD k cm0=c:=⟨_,rfl⟩
 obtain ⟨x,hx⟩:∃ x,xs.getD k cu0=x:=⟨_,rfl⟩
 obtain ⟨g',cur,e1,hgb,hcb,hcs,hcc⟩:=at_cust HR1.o.hold.row HKL.o;obtain rfl:g=g':=by injection e1 with e1;injection e1
 clear e1;rw [hc] at hx0 hwf0;rw [hx] at hx0 hcc;obtain ⟨y,sol⟩:=c;obtain ⟨dp,dn,dc,sp,sn,sc,rfl⟩:=cuA_of hx0.num;have HX:Hid (xs.getD k cu0=(⟨y.me,y.rv,y.nx,y.mo,y.bo,y.fr,dp,dn,dc,sp,sn,sc⟩:Cu)):=hx;have HC:Hid (bk.getD k cm0=⟨y,sol⟩):=hc;have HCB:Hid (Blk W1 g cur 54):=hcb;have HCS:Hid (k*8+8≤cur.size):=hcs;have hgl:g<W1.heap.size:=hcb.lt;have hgv2:g≠w.heap.size:=fun q=>HGN.o cur (by rw [← q];exact hcb);have HOW:Hid (Calls Tryz.prog 72 #[.agg #[zI y.me,zI y.rv,zI y.nx,zI y.mo,zI y.bo,zI y.fr,.slice dp dn dc],.agg #[zI v.ow,zI v.bp]] W1.drew fun e w'=>OwPost W1.drew y ⟨v.ow,v.bp⟩ e w'):=bowing y dp dn dc ⟨v.ow,v.bp⟩ W1.drew ⟨hx0.ds.came.below (Below.refl _ _).drew,hwf0⟩ (ev_ow HMA.o);have HC0:Hid (cur[k*8+0]?=some (zI y.me)):=hcc 0 (by decide);have HC1:Hid (cur[k*8+1]?=some (zI y.rv)):=hcc 1 (by decide);have HC2:Hid (cur[k*8+2]?=some (zI y.nx)):=hcc 2 (by decide);have HC3:Hid (cur[k*8+3]?=some (zI y.mo)):=hcc 3 (by decide);have HC4:Hid (cur[k*8+4]?=some (zI y.bo)):=hcc 4 (by decide);have HC5:Hid (cur[k*8+5]?=some (zI y.fr)):=hcc 5 (by decide);have HC6:Hid (cur[k*8+6]?=some (.slice dp dn dc)):=hcc 6 (by decide);have HC7:Hid (cur[k*8+7]?=some (.slice sp sn sc)):=hcc 7 (by decide);clear hcc hx hc hx0 hwf0 hgb hcs;obtain ⟨O,hO⟩:∃ O,k*8=O:=⟨_,rfl⟩
 have HO:Hid (k*8=O):=hO;rw [hO] at HCS HC0 HC1 HC2 HC3 HC4 HC5 HC6 HC7;rw [hO];clear hO;go_wp2_with fail;clear q1 q5 c0 c1;refine wp_region_held_drew (S:=fun u=>Blk u w.heap.size #[zI v.kd,zI v.me,zI v.mo,zI v.id,zI v.te,zI v.de,zI v.fe,zI v.pr,zI v.ch,zI v.un,zI v.tg,zI v.ow,zI v.bp] 72) (by kernel_rfl) (show _ from Blk.drew H1v.o 1) (fun hHeld=>?_);have z0:W1.drew.cell? ⟨g,O,none⟩=some (zI y.me):=(HCB.o.cell (O+0)).trans HC0.o;have z1:W1.drew.cell? ⟨g,O+1,none⟩=some (zI y.rv):=(HCB.o.cell (O+1)).trans HC1.o;have z2:W1.drew.cell? ⟨g,O+2,none⟩=some (zI y.nx):=(HCB.o.cell (O+2)).trans HC2.o;have z3:W1.drew.cell? ⟨g,O+3,none⟩=some (zI y.mo):=(HCB.o.cell (O+3)).trans HC3.o;have z4:W1.drew.cell? ⟨g,O+4,none⟩=some (zI y.bo):=(HCB.o.cell (O+4)).trans HC4.o;have z5:W1.drew.cell? ⟨g,O+5,none⟩=some (zI y.fr):=(HCB.o.cell (O+5)).trans HC5.o;have z6:W1.drew.cell? ⟨g,O+6,none⟩=some (.slice dp dn dc):=(HCB.o.cell (O+6)).trans HC6.o;refine zqs 0 21 (.pointer (some ⟨g,O,none⟩)) rfl rfl (by kernel_rfl) zid rfl (fun v hv=>by clear hv;go_simp) hHeld ?_;simp only [zq];refine zqs 1 22 (.pointer (some ⟨g,O,none⟩)) rfl rfl (by kernel_rfl) zid rfl (fun v hv=>by clear hv;go_simp) hHeld ?_;simp only [zq];refine zqs 2 23 (.pointer (some ⟨g,O,none⟩)) rfl rfl (by kernel_rfl) zid rfl (fun v hv=>by clear hv;go_simp) hHeld ?_;simp only [zq];refine zqs 3 24 (.pointer (some ⟨g,O,none⟩)) rfl rfl (by kernel_rfl) zid rfl (fun v hv=>by clear hv;go_simp) hHeld ?_;simp only [zq];refine zqs 5 26 (.pointer (some ⟨w.heap.size,11,none⟩)) rfl rfl (by kernel_rfl) zid rfl (fun v hv=>by clear hv;go_simp) hHeld ?_;simp only [zq];refine zqt 6 27 (.agg #[zI v.ow,zI v.bp]) rfl rfl (by kernel_rfl) zid (Or.inl ⟨by rfl,fun v hv=>by have g0:=hv.cell 11;have g1:=hv.cell 12;clear hv;go_simp⟩) hHeld ?_;simp only [zq];refine zqo 4 (by kernel_rfl) rfl (fun K hK=>?_);rw [if_pos (by rfl)]
 refine wp_runOp (v:= .agg #[zI y.me,zI y.rv,zI y.nx,zI y.mo,zI y.bo,zI y.fr,.slice dp dn dc]) (w':=W1.drew) 25 rfl (by clear hK;go_simp) ?_;refine hK.o _ _ (Blk.drew H1v.o 1) (fun hHeld=>?_);clear hK K z0 z1 z2 z3 z4 z5 z6;simp only [zq];refine zqo 7 (by kernel_rfl) rfl (fun K hK=>?_);rw [if_pos (by rfl)];refine wp_callOpP 28 rfl (by clear hK;go_simp) HOW.o ?_;rintro e w2 ⟨hb,hp⟩;rcases hp with ⟨b,pb,lb,cb,rfl,hi,hf⟩ | ⟨b,f,hf,rfl,hi⟩
 case inr=>
  exact .inr ⟨_,rfl,rfl,HK1.o.trans (.of ((Below.refl W1.heap.size W1).drew.trans hb) HR1.o.sz),.inr ⟨f,[],hf,rfl,.inr (.inr (.inr (.inr ⟨HMA.o,HN1.o,k,⟨y,sol⟩,HFA.o,by rw [HC.o];exact .inl ⟨HK5.o,b,hi,fun q=>absurd q hf⟩,fun q=>absurd q hf⟩)))⟩⟩
 refine .inl ⟨_,rfl,?_⟩;have hb2:Below W1.heap.size W1 w2:=(Below.refl W1.heap.size W1).drew.trans hb;have HV2:=shN H1v hb2;have HC2:=shN HCB hb2;have HB2:Hid (Below W1.heap.size W1 w2):=hb2;have HI:Hid (OweIs y ⟨v.ow,v.bp⟩ b 0):=hi;have HF:Hid (deb.Fresh w2 W1.heap.size pb lb cb b.ds):=hf;refine hK.o _ _ HV2.o (fun hHeld=>?_);clear hK K hi hf hb hb2 HOW;unfold acc.Ac.v acc.Ac.cs;simp only [zq];refine zqs 8 29 (.pointer (some ⟨g,O,none⟩)) rfl rfl (by kernel_rfl) zid rfl (fun v hv=>by clear hv;go_simp) hHeld ?_;simp only [zq];refine zqs 9 30 (.pointer (some ⟨g,O,none⟩)) rfl rfl (by kernel_rfl) zid rfl (fun v hv=>by clear hv;go_simp) hHeld ?_;simp only [zq];refine zqo 10 (by kernel_rfl) rfl (fun K hK=>?_);rw [if_pos (by rfl)];refine wp_letOpN 51 _ _ rfl g O rfl (.agg #[zI b.me,zI b.rv,zI b.nx,zI b.mo,zI b.bo,zI b.fr,.slice pb lb cb]) rfl #[zI b.me,zI b.rv,zI b.nx,zI b.mo,zI b.bo,zI b.fr,.slice pb lb cb] rfl (by kernel_rfl) (by simp [Value.oneCell']) cur 54 HC2.o (by have:=HCS.o;simp;omega) (putAll cur O [zI b.me,zI b.rv,zI b.nx,zI b.mo,zI b.bo,zI b.fr,.slice pb lb cb]) rfl rfl ?_;intro WF hU;have M1:Hid (Blk WF w.heap.size #[zI v.kd,zI v.me,zI v.mo,zI v.id,zI v.te,zI v.de,zI v.fe,zI v.pr,zI v.ch,zI v.un,zI v.tg,zI v.ow,zI v.bp] 72):=hU.keep HV2.o (Ne.symm hgv2)
 have MF:Hid (WPost w0 base gW B t pt lt ct (StepIs t bk v) w (.returned (.tuple #[])) WF):=by
  have hh:HapIs t ⟨y,sol⟩ v ⟨b,sol⟩ 0:= .inl ⟨HK5.o,b,HI.o,fun _=>rfl⟩;refine (charge_wr HR1.o HKL.o HX.o HC.o HCB.o (by rw [HO.o];exact HCS.o) (by rw [HO.o];exact HC7.o) HMA.o hh HB2.o HF.o (by rw [HO.o];exact hU)).back HK1.o (fun bb f hr=>?_);obtain ⟨c',h1,h2⟩:=hr;exact .inr (.inr (.inr (.inr ⟨HMA.o,HN1.o,k,c',HFA.o,h1,h2⟩)))
 refine hK.o _ _ M1.o (fun hHeld=>?_);clear hK K hU;refine wpAnyH_done (by kernel_rfl) ?_ _;clear hHeld;go_wp2_with fail;go_end0;exact MF.o
end book
end Go.Proofs.YtnpblpbohcegoaaGreatDoor
