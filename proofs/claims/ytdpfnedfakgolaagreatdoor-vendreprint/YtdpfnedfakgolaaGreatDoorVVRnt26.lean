import Derived.Test.YtdpfnedfakgolaaGreatDoorVVRnt13
import Derived.Test.YtdpfnedfakgolaaGreatDoorVVRnt17
set_option linter.unusedVariables false
set_option linter.unusedSimpArgs false
set_option maxHeartbeats 4000000
set_option maxRecDepth 100000
namespace Go.Proofs.YtdpfnedfakgolaaGreatDoor
namespace ora
open Go.RowKit
set_option maxRecDepth 100000
theorem step_pr {w : World} {ops : Array Oper} {o : Oper} {a : Act} {K : Act → World → Prop} {Q : Exit → Act → World → Prop} {E : Prop} (hgd : o.guard = none) (s x : Operand)
  (ho : o.op = .call { callee := .builtin .append, args := #[s, x], argTypes := #[32, 32] })
  (base G : Nat) (v : Value) (l : List Pr) (r : Pr) (hs : a.eval s = v) (hx : a.eval x = .slice (some ⟨G, 0, none⟩) 1 1) (hv : Pw w base v l) (hu : PrAt w G 0 r) (hn : l.length ≤ 1000000) (hbase : base ≤ w.heap.size)
  (h : ∀ v' w', Pw w' base v' (l ++ [r]) → w.grownBy w' v.ownBlock → K (a.put o.dst v') w') : if Region.wanted o (yielded ops a.tmps) = true then Oper.wp Tryz.prog o a w K Q else E := by
 have hw : Region.wanted o (yielded ops a.tmps) = true := by simp [Region.wanted, hgd]
 rw [if_pos hw]
 obtain ⟨i0, hi, hz0, hz1, hz2⟩ := info_parts info_pr
 obtain ⟨v', w', hr, h2, h3, _⟩ := run_append_own (P := Tryz.prog) w base 32 o.type 158 i0 (.agg #[.int .i64 0, .int .i64 0, .int .i64 0, .int .i64 0]) 4 32 Tryz.underlying32 hi hz0 hz1 hz2 rfl (by decide) v l.length (cellsP l) hv ⟨G, 0, none⟩ 1 1 (cellsP [r]) rfl (by
  intro j u hj
  match j, hj with
  | 0, hj => simp [cellsP] at hj; subst hj; simpa [Addr.add] using hu.1
  | 1, hj => simp [cellsP] at hj; subst hj; simpa [Addr.add] using hu.2.1
  | 2, hj => simp [cellsP] at hj; subst hj; simpa [Addr.add] using hu.2.2.1
  | 3, hj => simp [cellsP] at hj; subst hj; simpa [Addr.add] using hu.2.2.2
  | j + 4, hj => simp [cellsP] at hj) (oneP [r]) (by unfold maxLen; omega) (by omega) hbase
 unfold Oper.wp execOp
 simp only [ho, resolve, invoke, builtin, Sem.run_bind, Sem.run_pure, Result.andThen_ok, List.map_toArray, List.map_cons, List.map_nil, hs, hx, hr]
 refine h v' w' ?_ h3
 unfold Pw
 rw [List.length_append, cellsP_app]
 exact h2
def IssueQ (w : World) (l : List Pr) (m r b d : Int) (e : Ending) (w' : World) : Prop :=
 ∃ v ls x c, e = .returned (.tuple #[.agg #[v], .int .i64 x, .int .i64 c]) ∧ Pw w' w.heap.size v ls ∧ IssueIs l m r b d ls x c ∧ Below w.heap.size w w'
theorem Pw.lies {w : World} {base : Nat} {v : Value} {l : List Pr} (h : Pw w base v l) : ∃ a cap, v = .slice a l.length cap ∧ RowP w a l.length l ∧ (a = none → cap = 0) ∧ l.length ≤ cap ∧ (∀ y, a = some y → base ≤ y.block ∧ y.block < w.heap.size) := by
 obtain ⟨a, cap, hv, h1, h2, h3⟩ := h.row
 refine ⟨a, cap, hv, h1, h2, h3, fun y hy => ?_⟩
 subst hy
 have := World.ownsRow.lt h y.block (by rw [hv]; rfl)
 exact ⟨this.1, this.2⟩
structure Bj (w wr : World) (a : Option Addr) (n cap : Nat) (l : List Pr) (G : Nat) (m r b d : Int) : Prop where
 bi : Bi w wr a n cap l
 pr : Blk wr G #[.int .i64 m, .int .i64 r, .int .i64 b, .int .i64 d] 158
theorem Bj.next {w wr w' : World} {a : Option Addr} {n cap : Nat} {l : List Pr} {G : Nat} {m r b d : Int} (h : Bj w wr a n cap l G m r b d) (hb : Below wr.heap.size wr w') : Bj w w' a n cap l G m r b d := ⟨h.bi.next hb, h.pr.next hb⟩
theorem Bj.alloc {w wr : World} {a : Option Addr} {n cap : Nat} {l : List Pr} {G : Nat} {m r b d : Int} (h : Bj w wr a n cap l G m r b d) (o : Obj) : Bj w (wr.alloc o) a n cap l G m r b d := h.next ((Below.refl _ _).alloc (Nat.le_refl _) _)
theorem Bj.drew {w wr : World} {a : Option Addr} {n cap : Nat} {l : List Pr} {G : Nat} {m r b d : Int} (h : Bj w wr a n cap l G m r b d) (q : Nat) : Bj w (wr.drewN q) a n cap l G m r b d := h.next (bel_drew (Below.refl _ _) q)
theorem Bj.cells {w wr : World} {a : Option Addr} {n cap : Nat} {l : List Pr} {G : Nat} {m r b d : Int} (h : Bj w wr a n cap l G m r b d) : wr.cell? ⟨w.heap.size, 0, none⟩ = some (.slice a n cap) ∧ wr.cell? ⟨G, 0, none⟩ = some (.int .i64 m) ∧ wr.cell? ⟨G, 0 + 1, none⟩ = some (.int .i64 r) ∧ wr.cell? ⟨G, 0 + 2, none⟩ = some (.int .i64 b) ∧ wr.cell? ⟨G, 0 + 3, none⟩ = some (.int .i64 d) :=
 ⟨h.bi.bo.box.cell 0, h.pr.cell 0, h.pr.cell 1, h.pr.cell 2, h.pr.cell 3⟩
theorem Bj.ne {w wr : World} {a : Option Addr} {n cap : Nat} {l : List Pr} {G : Nat} {m r b d : Int} (h : Bj w wr a n cap l G m r b d) : w.heap.size + 1 ≠ G := by
 rintro rfl
 have h1 := h.pr; have h2 := h.bi.out
 unfold Blk at h1 h2
 rw [h1] at h2; simp at h2
theorem Bj.put {w wr : World} {a : Option Addr} {n cap : Nat} {l : List Pr} {G : Nat} {m r b d : Int} (h : Bj w wr a n cap l G m r b d) (u : Value) : (wr.setCell ⟨w.heap.size + 1, 0, none⟩ u).cell? ⟨w.heap.size, 0, none⟩ = some (.slice a n cap) ∧ (wr.setCell ⟨w.heap.size + 1, 0, none⟩ u).cell? ⟨G, 0, none⟩ = some (.int .i64 m) ∧ (wr.setCell ⟨w.heap.size + 1, 0, none⟩ u).cell? ⟨G, 0 + 1, none⟩ = some (.int .i64 r) ∧ (wr.setCell ⟨w.heap.size + 1, 0, none⟩ u).cell? ⟨G, 0 + 2, none⟩ = some (.int .i64 b) ∧ (wr.setCell ⟨w.heap.size + 1, 0, none⟩ u).cell? ⟨G, 0 + 3, none⟩ = some (.int .i64 d) := by
 have h1 := Blk.other h.bi.bo.box 0 u (G' := w.heap.size + 1) (by omega)
 have h2 := Blk.other h.pr 0 u h.ne
 exact ⟨h1.cell 0, h2.cell 0, h2.cell 1, h2.cell 2, h2.cell 3⟩
structure En (w W : World) (v : Value) (ls : List Pr) : Prop where
 pw : Pw W w.heap.size v ls
 cell : W.cell? ⟨w.heap.size + 1, 0, none⟩ = some v
 bel : Below w.heap.size w W
theorem En.of {w w6 : World} {a : Option Addr} {n cap : Nat} {l : List Pr} {v : Value} {ls : List Pr} (hi : Bi w w6 a n cap l) (hp : Pw w6 w.heap.size v ls) : En w (w6.setCell ⟨w.heap.size + 1, 0, none⟩ v) v ls :=
 ⟨hp.put2 hi.out (by decide) 0 v, by have := (hi.out.set 0 v).cell 0; exact this, bel_set hi.bo.bel _ _ _ (by omega)⟩
set_option maxHeartbeats 2000000 in
theorem poi (a : Option Addr) (n cap : Nat) (l : List Pr) (m r b d : Int) (w : World) (hr : RowP w a n l) :
  Calls Tryz.prog 122 #[.agg #[.slice a n cap], .int .i64 m, .int .i64 r, .int .i64 b, .int .i64 d] w fun e w' => IssueQ w l m r b d e w' := by
 have HB0 : Hid (Bi w ((w.alloc (.cells #[.slice a n cap] 34)).alloc (.cells #[.slice none 0 0] 34)) a n cap l) := ⟨(Bo.new hr).alloc _, Blk.new1 w _ _ _⟩
 have HL : Hid (l.length = n) := hr.1
 have HG : Hid (∀ W, RowP W a n l → Calls Tryz.prog 30 #[.agg #[.slice a n cap]] W fun e w' => Given W l e w') := fun W h => given_any a n cap l W h
 have HCL : Hid (∀ W, n ≤ 500 → RowP W a n l → Calls Tryz.prog 141 #[.slice a n cap] W fun e w' => GaveV W l e w') := fun W h0 h => pclone_any a n cap l W h (by omega)
 have HPM : Hid (∀ W, Calls Tryz.prog 64 #[.agg #[.int .i64 m, .int .i64 r, .int .i64 b, .int .i64 d]] W fun e w' => Told W (Pr.mk m r b d).may e w') := fun W => within_any m r b d W
 have HOF : Hid (∀ W, Calls Tryz.prog 63 #[.agg #[.int .i64 m, .int .i64 r, .int .i64 b, .int .i64 d]] W fun e w' => e = .returned (.agg #[.int .i64 m, .int .i64 r, .int .i64 b]) ∧ Below W.heap.size W w') := fun W => of_any m r b d W
 clear hr
 have c0 := HB0.out.bo.box.cell 0
 go_enter Tryz.func122, Tryz.ntmps122
 go_wp2_with fail
 refine (HG.out _ HB0.out.bo.row).mono ?_
 rintro e w1 ⟨hb1, ⟨hm, B, rfl, hmp⟩ | ⟨hm, rfl⟩⟩
 ·have HI1 : Hid (Bi w w1 a n cap l) := HB0.out.next hb1
  have hn : n ≤ 500 := by rw [← HL.out]; exact hm.few
  have HMY : Hid (May l) := hm
  have HJ2 : Hid (Bj w (w1.alloc (.cells #[.int .i64 m, .int .i64 r, .int .i64 b, .int .i64 d] 158)) a n cap l w1.heap.size m r b d) := ⟨HI1.out.alloc _, Blk.new w1 _ _⟩
  have HM2 : Hid (Mp (w1.alloc (.cells #[.int .i64 m, .int .i64 r, .int .i64 b, .int .i64 d] 158)) B l) := hmp.below ((Below.refl _ _).alloc (Nat.le_refl _) _)
  have p0 := HJ2.out.pr.cell 0
  have p1 := HJ2.out.pr.cell 1
  have p2 := HJ2.out.pr.cell 2
  have p3 := HJ2.out.pr.cell 3
  clear hb1 hm hmp HB0 c0 HI1
  go_wp2_with fail
  refine (HPM.out _).mono ?_
  rintro e w2 ⟨rr, rfl, hrr, hb2⟩
  have HJ3 : Hid (Bj w w2 a n cap l w1.heap.size m r b d) := HJ2.out.next hb2
  have HM3 : Hid (Mp w2 B l) := HM2.out.below hb2
  clear hb2 HJ2 HM2 p0 p1 p2 p3
  generalize w1.heap.size = gp at *
  have z0 := HJ3.out.bi.out.cell 0
  have y0 := HJ3.out.bi.out.free 0
  cases rr with
  | false =>
   have HN : Hid (¬ (Pr.mk m r b d).may) := fun h => by have := hrr.2 h; cases this
   have HE : Hid (En w (w2.setCell ⟨w.heap.size + 1, 0, none⟩ (.slice none 0 0)) (.slice none 0 0) []) := En.of HJ3.out.bi (Pw.zero _ _)
   have R0 : Hid (_ = _) := HE.out.cell
   clear hrr
   go_wp2_with fail
   exact bodyPost_ret (v := .tuple #[.agg #[.slice none 0 0], .int .i64 0, .int .i64 2]) (by simp [results, Tryz.results122, R0.out, go_sem]) rfl ⟨_, [], 0, 2, rfl, HE.out.pw, .inr (.inl ⟨HMY.out, HN.out, rfl, rfl, rfl⟩), HE.out.bel⟩
  | true =>
   have HPY : Hid ((Pr.mk m r b d).may) := hrr.1 rfl
   clear hrr z0 y0
   have p0 := HJ3.out.pr.cell 0
   have p1 := HJ3.out.pr.cell 1
   have p2 := HJ3.out.pr.cell 2
   have p3 := HJ3.out.pr.cell 3
   go_wp2_with fail
   refine (HOF.out _).mono ?_
   rintro e w3 ⟨rfl, hb3⟩
   have HJ4 : Hid (Bj w w3 a n cap l gp m r b d) := HJ3.out.next hb3
   have hlk := look_run (HM3.out.below hb3) m r b
   clear hb3 HJ3 HM3 p0 p1 p2 p3
   have c0 := HJ4.out.bi.bo.box.cell 0
   rcases find_or l m r b with ⟨i, hi⟩ | hno
   ·rw [look_at hi] at hlk
    simp only [Option.getD_some, Option.isSome_some] at hlk
    have HAT : Hid (∃ i, At l m r b i ∧ (l.getD i pr0).t = (l.getD i pr0).t) := ⟨i, hi, rfl⟩
    have HIS : Hid (IssueIs l m r b d l (l.getD i pr0).t 0) := .inr (.inr (.inl ⟨HMY.out, HPY.out, ⟨i, hi, rfl⟩, rfl, rfl⟩))
    clear hi HAT
    generalize (l.getD i pr0).t = pt at *
    go_wp2_with fail
    refine (HCL.out _ hn HJ4.out.bi.bo.row).mono ?_
    rintro e w4 ⟨v4, rfl, hp4, hb4⟩
    have HI5 : Hid (Bi w w4 a n cap l) := HJ4.out.bi.next hb4
    have hp5 : Pw w4 w.heap.size v4 l := hp4.low HJ4.out.bi.bo.bel.size
    obtain ⟨a4, k4, rfl, _⟩ := hp5.lies
    have HE : Hid (En w (w4.setCell ⟨w.heap.size + 1, 0, none⟩ (.slice a4 l.length k4)) (.slice a4 l.length k4) l) := En.of HI5.out hp5
    have R0 : Hid (_ = _) := HE.out.cell
    have z0 := HI5.out.out.cell 0
    have y0 := HI5.out.out.free 0
    clear hb4 hp4 hp5 HJ4 c0 hlk
    generalize l.length = ln at *
    go_wp2_with fail
    exact bodyPost_ret (v := .tuple #[.agg #[.slice a4 ln k4], .int .i64 pt, .int .i64 0]) (by simp [results, Tryz.results122, R0.out, go_sem]) rfl ⟨_, l, pt, 0, rfl, HE.out.pw, HIS.out, HE.out.bel⟩
   ·rw [look_no hno] at hlk
    simp only [Option.getD_none, Option.isSome_none] at hlk
    have HNO : Hid (No l m r b) := hno
    clear hno
    by_cases h5 : n = 500
    ·have hq : ((n : Int) == 500) = true := by simp; omega
     have HL5 : Hid (l.length = 500) := by rw [← h5]; exact HL.out
     have HE : Hid (En w (w3.setCell ⟨w.heap.size + 1, 0, none⟩ (.slice none 0 0)) (.slice none 0 0) []) := En.of HJ4.out.bi (Pw.zero _ _)
     have R0 : Hid (_ = _) := HE.out.cell
     have z0 := HJ4.out.bi.out.cell 0
     have y0 := HJ4.out.bi.out.free 0
     clear h5
     go_wp2_with fail
     exact bodyPost_ret (v := .tuple #[.agg #[.slice none 0 0], .int .i64 0, .int .i64 16]) (by simp [results, Tryz.results122, R0.out, go_sem]) rfl ⟨_, [], 0, 16, rfl, HE.out.pw, .inr (.inr (.inr (.inl ⟨HMY.out, HPY.out, HNO.out, HL5.out, rfl, rfl, rfl⟩))), HE.out.bel⟩
    ·have hq : ((n : Int) == 500) = false := by simp; omega
     have HL5 : Hid (l.length < 500) := by have := HL.out; show _ < _; omega
     have HLN : Hid (l.length ≤ 1000000) := by have := HL5.out; show _ ≤ _; omega
     have HIS : Hid (IssueIs l m r b d (l ++ [⟨m, r, b, d⟩]) d 0) := .inr (.inr (.inr (.inr ⟨HMY.out, HPY.out, HNO.out, HL5.out, rfl, rfl, rfl⟩)))
     obtain ⟨l2, hl2⟩ : ∃ l2, l2 = l ++ [Pr.mk m r b d] := ⟨_, rfl⟩
     have HL2 : Hid (l2 = l ++ [Pr.mk m r b d]) := hl2
     rw [← hl2] at HIS
     clear hl2
     have HJD : Hid (Bj w w3.drew a n cap l gp m r b d) := HJ4.out.drew 1
     have HRD : Hid (RowP w3.drew a n l) := HJD.out.bi.bo.row
     have HBD : Hid (Below w3.heap.size w3 w3.drew) := bel_drew (Below.refl _ _) 1
     have HJX : Hid (Bj w (w3.alloc (.cells #[.int .i64 m, .int .i64 r, .int .i64 b, .int .i64 d] 158)).drew a n cap l gp m r b d) := (HJ4.out.alloc _).drew 1
     have HRX : Hid (RowP (w3.alloc (.cells #[.int .i64 m, .int .i64 r, .int .i64 b, .int .i64 d] 158)).drew a n l) := HJX.out.bi.bo.row
     have HBX : Hid (Below w3.heap.size w3 (w3.alloc (.cells #[.int .i64 m, .int .i64 r, .int .i64 b, .int .i64 d] 158)).drew) := bel_drew ((Below.refl _ _).alloc (Nat.le_refl _) _) 1
     have HPX : Hid (PrAt (w3.alloc (.cells #[.int .i64 m, .int .i64 r, .int .i64 b, .int .i64 d] 158)).drew w3.heap.size 0 ⟨m, r, b, d⟩) := pr_cell w3 m r b d
     have HWW : Hid (w.heap.size ≤ w3.heap.size) := HJ4.out.bi.bo.bel.size
     have KD : Hid (w3.drew.cell? ⟨w.heap.size, 0, none⟩ = some (.slice a n cap) ∧ w3.drew.cell? ⟨gp, 0, none⟩ = some (.int .i64 m) ∧ w3.drew.cell? ⟨gp, 0 + 1, none⟩ = some (.int .i64 r) ∧ w3.drew.cell? ⟨gp, 0 + 2, none⟩ = some (.int .i64 b) ∧ w3.drew.cell? ⟨gp, 0 + 3, none⟩ = some (.int .i64 d)) := HJD.out.cells
     have KX : Hid ((w3.alloc (.cells #[.int .i64 m, .int .i64 r, .int .i64 b, .int .i64 d] 158)).drew.cell? ⟨w.heap.size, 0, none⟩ = some (.slice a n cap) ∧ (w3.alloc (.cells #[.int .i64 m, .int .i64 r, .int .i64 b, .int .i64 d] 158)).drew.cell? ⟨gp, 0, none⟩ = some (.int .i64 m) ∧ (w3.alloc (.cells #[.int .i64 m, .int .i64 r, .int .i64 b, .int .i64 d] 158)).drew.cell? ⟨gp, 0 + 1, none⟩ = some (.int .i64 r) ∧ (w3.alloc (.cells #[.int .i64 m, .int .i64 r, .int .i64 b, .int .i64 d] 158)).drew.cell? ⟨gp, 0 + 2, none⟩ = some (.int .i64 b) ∧ (w3.alloc (.cells #[.int .i64 m, .int .i64 r, .int .i64 b, .int .i64 d] 158)).drew.cell? ⟨gp, 0 + 3, none⟩ = some (.int .i64 d)) := HJX.out.cells
     clear h5
     go_wp2_with fail
     clear hlk hq c0
     go_region_held_law (fun v => v.cell? ⟨w.heap.size, 0, none⟩ = some (.slice a n cap) ∧ v.cell? ⟨gp, 0, none⟩ = some (.int .i64 m) ∧ v.cell? ⟨gp, 0 + 1, none⟩ = some (.int .i64 r) ∧ v.cell? ⟨gp, 0 + 2, none⟩ = some (.int .i64 b) ∧ v.cell? ⟨gp, 0 + 3, none⟩ = some (.int .i64 d))
      (first | with_reducible exact KD.out | with_reducible exact KX.out | with_reducible exact K5.out | with_reducible exact K6.out | with_reducible exact K7.out | with_reducible exact K8.out)
      (first
       | (go_at_call 141; refine (HCL.out _ hn (by with_reducible exact HRD.out)).mono ?_; rintro e w5 ⟨v5, rfl, hp5, hb5⟩
          have HB5 := shB HBD hb5
          have HB6 : Hid (Below w3.heap.size w3 (w5.alloc (.cells #[.int .i64 m, .int .i64 r, .int .i64 b, .int .i64 d] 158))) := HB5.out.alloc HB5.out.size _
          have K5 : Hid (w5.cell? ⟨w.heap.size, 0, none⟩ = some (.slice a n cap) ∧ w5.cell? ⟨gp, 0, none⟩ = some (.int .i64 m) ∧ w5.cell? ⟨gp, 0 + 1, none⟩ = some (.int .i64 r) ∧ w5.cell? ⟨gp, 0 + 2, none⟩ = some (.int .i64 b) ∧ w5.cell? ⟨gp, 0 + 3, none⟩ = some (.int .i64 d)) := (HJ4.out.next HB5.out).cells
          have K6 : Hid ((w5.alloc (.cells #[.int .i64 m, .int .i64 r, .int .i64 b, .int .i64 d] 158)).cell? ⟨w.heap.size, 0, none⟩ = some (.slice a n cap) ∧ (w5.alloc (.cells #[.int .i64 m, .int .i64 r, .int .i64 b, .int .i64 d] 158)).cell? ⟨gp, 0, none⟩ = some (.int .i64 m) ∧ (w5.alloc (.cells #[.int .i64 m, .int .i64 r, .int .i64 b, .int .i64 d] 158)).cell? ⟨gp, 0 + 1, none⟩ = some (.int .i64 r) ∧ (w5.alloc (.cells #[.int .i64 m, .int .i64 r, .int .i64 b, .int .i64 d] 158)).cell? ⟨gp, 0 + 2, none⟩ = some (.int .i64 b) ∧ (w5.alloc (.cells #[.int .i64 m, .int .i64 r, .int .i64 b, .int .i64 d] 158)).cell? ⟨gp, 0 + 3, none⟩ = some (.int .i64 d)) := (HJ4.out.next HB6.out).cells
          have HP6 : Hid (Pw (w5.alloc (.cells #[.int .i64 m, .int .i64 r, .int .i64 b, .int .i64 d] 158)) w3.heap.size v5 l) := Pw.alloc hp5 _
          have HPA : Hid (PrAt (w5.alloc (.cells #[.int .i64 m, .int .i64 r, .int .i64 b, .int .i64 d] 158)) w5.heap.size 0 ⟨m, r, b, d⟩) := pr_cell w5 m r b d
          have HSZ : Hid (w3.heap.size ≤ (w5.alloc (.cells #[.int .i64 m, .int .i64 r, .int .i64 b, .int .i64 d] 158)).heap.size) := HB6.out.size
          clear hp5 hb5)
       | (go_at_call 141; refine (HCL.out _ hn (by with_reducible exact HRX.out)).mono ?_; rintro e w5 ⟨v5, rfl, hp5, hb5⟩
          have HB6 := shB HBX hb5
          have K6 : Hid (w5.cell? ⟨w.heap.size, 0, none⟩ = some (.slice a n cap) ∧ w5.cell? ⟨gp, 0, none⟩ = some (.int .i64 m) ∧ w5.cell? ⟨gp, 0 + 1, none⟩ = some (.int .i64 r) ∧ w5.cell? ⟨gp, 0 + 2, none⟩ = some (.int .i64 b) ∧ w5.cell? ⟨gp, 0 + 3, none⟩ = some (.int .i64 d)) := (HJ4.out.next HB6.out).cells
          have HP6 : Hid (Pw w5 w3.heap.size v5 l) := hp5.low HBX.out.size
          have HPB : Hid (PrAt w5 w3.heap.size 0 ⟨m, r, b, d⟩) := HPX.out.below hb5
          have HSZ : Hid (w3.heap.size ≤ w5.heap.size) := HB6.out.size
          clear hp5 hb5)
       | (first
         | refine step_pr rfl _ _ rfl w3.heap.size w5.heap.size _ l ⟨m, r, b, d⟩ rfl rfl HP6.out HPA.out HLN.out HSZ.out ?_
         | refine step_pr rfl _ _ rfl w3.heap.size w3.heap.size _ l ⟨m, r, b, d⟩ rfl rfl HP6.out HPB.out HLN.out HSZ.out ?_
          intro v7 w7 hp7 hg7
          have hB7 : Below w3.heap.size w3 w7 := pown_bel HP6.out hg7 HB6.out (Nat.le_refl _) HSZ.out
          have HJ7 : Hid (Bj w w7 a n cap l gp m r b d) := HJ4.out.next hB7
          have hp8 : Pw w7 w.heap.size v7 l2 := by rw [HL2.out]; exact hp7.low HWW.out
          obtain ⟨a7, k7, rfl, _⟩ := hp8.lies
          have HE : Hid (En w (w7.setCell ⟨w.heap.size + 1, 0, none⟩ (.slice a7 l2.length k7)) (.slice a7 l2.length k7) l2) := En.of HJ7.out.bi hp8
          have K7 : Hid (w7.cell? ⟨w.heap.size, 0, none⟩ = some (.slice a n cap) ∧ w7.cell? ⟨gp, 0, none⟩ = some (.int .i64 m) ∧ w7.cell? ⟨gp, 0 + 1, none⟩ = some (.int .i64 r) ∧ w7.cell? ⟨gp, 0 + 2, none⟩ = some (.int .i64 b) ∧ w7.cell? ⟨gp, 0 + 3, none⟩ = some (.int .i64 d)) := HJ7.out.cells
          have K8 : Hid ((w7.setCell ⟨w.heap.size + 1, 0, none⟩ (.slice a7 l2.length k7)).cell? ⟨w.heap.size, 0, none⟩ = some (.slice a n cap) ∧ (w7.setCell ⟨w.heap.size + 1, 0, none⟩ (.slice a7 l2.length k7)).cell? ⟨gp, 0, none⟩ = some (.int .i64 m) ∧ (w7.setCell ⟨w.heap.size + 1, 0, none⟩ (.slice a7 l2.length k7)).cell? ⟨gp, 0 + 1, none⟩ = some (.int .i64 r) ∧ (w7.setCell ⟨w.heap.size + 1, 0, none⟩ (.slice a7 l2.length k7)).cell? ⟨gp, 0 + 2, none⟩ = some (.int .i64 b) ∧ (w7.setCell ⟨w.heap.size + 1, 0, none⟩ (.slice a7 l2.length k7)).cell? ⟨gp, 0 + 3, none⟩ = some (.int .i64 d)) := HJ7.out.put _
          have z0 := HJ7.out.bi.out.cell 0
          have y0 := HJ7.out.bi.out.free 0
          have R0 : Hid (_ = _) := HE.out.cell
          clear hp7 hg7 hB7 hp8
          generalize l2.length = ln at *))
     all_goals go_wp2_with fail
     all_goals exact bodyPost_ret (v := .tuple #[.agg #[.slice a7 ln k7], .int .i64 d, .int .i64 0]) (by simp [results, Tryz.results122, R0.out, go_sem]) rfl ⟨_, l2, d, 0, rfl, HE.out.pw, HIS.out, HE.out.bel⟩
 ·have HI1 : Hid (Bi w w1 a n cap l) := HB0.out.next hb1
  have HN : Hid (¬ May l) := hm
  have HE : Hid (En w (w1.setCell ⟨w.heap.size + 1, 0, none⟩ (.slice none 0 0)) (.slice none 0 0) []) := En.of HI1.out (Pw.zero _ _)
  have R0 : Hid (_ = _) := HE.out.cell
  have z0 := HI1.out.out.cell 0
  have y0 := HI1.out.out.free 0
  clear hb1 hm HB0 c0
  go_wp2_with fail
  exact bodyPost_ret (v := .tuple #[.agg #[.slice none 0 0], .int .i64 0, .int .i64 5]) (by simp [results, Tryz.results122, R0.out, go_sem]) rfl ⟨_, [], 0, 5, rfl, HE.out.pw, .inl ⟨HN.out, rfl, rfl, rfl⟩, HE.out.bel⟩
end ora
namespace acc
open tar (Du du0 Came RowD Ld PairT)
open Go.RowKit
theorem wp_copyD {P:Program} {T S:TypeId} (hP:PairT P T S) {w:World} {ops:Array Oper} {rest:List Oper} {o:Oper} {a:Act} {Q:Exit→Act→World→Prop} (hgd:o.guard=none) (s x:Operand)
  (ho:o.op = .call { callee:= .builtin .append,args:=#[s,x],argTypes:=#[S,S] })
  (base:Nat) (p:Option Addr) (len cap:Nat) (zs:List Du) (hs:a.eval s=zS) (hx:a.eval x = .slice p len cap) (hc:Came w p len cap zs) (hbase:base≤w.heap.size)
  (h:∀ v' w',Ld T w' base v' zs→w.grownBy w' none→wpList P ops Q rest (a.put o.dst v') w'):wpList P ops Q (o :: rest) a w:=by
 cases p with
 | some A=>exact tar.wp_pairs hP hgd s x ho base A len cap zs hs hx hc.row hc.bytes hbase h
 | none=>
  have h0:=hc.nil rfl;have h1:len=0:=by have:=hc.room;omega
  have h2:zs=[]:=List.eq_nil_of_length_eq_zero (by have:=hc.row.1;omega);subst h0 h1 h2;have hu:=hP.under;have hi0:=hP.info;cases hq:P.info? T with
  | none=>rw [hq] at hi0;cases hi0
  | some i=>
   refine wpList_append_own_none hgd s x S ho base T i 2 hu hq (zS) 0 [] hs (World.ownsRow_nil _ _ _ _) hx ?_;exact h _ _ (tar.Ld.zero _ _ _) ⟨rfl,rfl,rfl,Nat.le_refl _,fun _ _ _=>rfl⟩
theorem pwork (F:Nat) (caps:Array Value) (Is:Ac→Bi→Int→Prop) (x:Ac) (p:Option Addr) (len cap:Nat) (w:World) (hc:Came w p len cap x.ds) (h5:¬ AMay x→Is ac0 bi0 5) (hK:∀ args w,(callFunc F args).run Tryz.prog w = .ok (.enter F args) w)
  (hf:AMay x→∀ (W:World) (g:Nat) (p':Option Addr) (cap':Nat),Below w.heap.size w W→w.heap.size≤g→Blk W g (wcs x bi0 p' len cap') 233→Ld 83 W (g+1) (.slice p' len cap') x.ds→Calls Tryz.prog F (#[.pointer (some ⟨g,0,none⟩)]++caps) W fun e w'=>WPost W g (Or0 Is) e w') :
  Calls Tryz.prog 78 #[.agg #[zI x.me,zI x.rv,zI x.nx,zI x.mo,zI x.bo,zI x.fr,.slice p len cap],.func (.func F) #[] caps] w fun e w'=>BPost w Is e w':=by
 have HFU:Hid (AMay x→∀ (W:World) (g:Nat) (p':Option Addr) (cap':Nat),Below w.heap.size w W→w.heap.size≤g→Blk W g (wcs x bi0 p' len cap') 233→Ld 83 W (g+1) (.slice p' len cap') x.ds→Calls Tryz.prog F (#[.pointer (some ⟨g,0,none⟩)]++caps) W fun e w'=>WPost W g (Or0 Is) e w'):=hf;have HLEN:Hid (x.ds.length=len):=hc.row.1;have H5:Hid (¬ AMay x→Is ac0 bi0 5):=h5;clear hf h5;obtain ⟨W0,HWW,H0d,H0r,H0l,H0B,hs0⟩:=sh3 w #[zI x.me,zI x.rv,zI x.nx,zI x.mo,zI x.bo,zI x.fr,.slice p len cap] 61 #[zI 0,zI 0,zI 0,zI 0,zI 0,zI 0,zS] 61 #[zI 0,zI 0,zI 0,zI 0,zI 0,zI 0,zI 0] 48;have H0R:Hid (Came W0 p len cap x.ds):=hc.below H0B.o;go_enter Tryz.func78,Tryz.ntmps78;go_upto_region 1 with fail
 rw [HWW.o];clear HWW;clear hc;have HPM:Hid (Calls Tryz.prog 119 #[.agg #[zI x.me,zI x.rv,zI x.nx,zI x.mo,zI x.bo,zI x.fr,.slice p len cap]] W0 fun e w'=>MayPost W0 x e w'):=pmay x p len cap W0 H0R.o
 go_wp2_with (first
  | (refine zqw rfl rfl rfl H0d zqu61 ?_)
  | (refine zqw rfl rfl rfl H0r zqu61 ?_)
  | (refine zqw rfl rfl rfl H0l zqu48 ?_)
  | fail)
 refine HPM.o.mono ?_;rintro e w1 ⟨r,rfl,hr,hb1⟩;have H1d:=shN H0d hb1;have H1r:=shN H0r hb1;have H1l:=shN H0l hb1;have H1R:Hid (Came w1 p len cap x.ds):=H0R.o.below hb1;have H1B:=shB H0B hb1;have hsw1:W0.heap.size≤w1.heap.size:=hb1.size;clear hb1 H0d H0r H0l H0R H0B;clear HPM;cases r with
 | false=>
  have HV:Hid (Is ac0 bi0 5):=H5.o fun h=>Bool.noConfusion (hr.2 h);clear hr H5 HFU hK
  go_wp2_with (first
   | (refine zql rfl rfl rfl rfl zqu61 (by simp [Value.oneCell']) H1r rfl ?_)
   | (refine zqw rfl rfl rfl H1d zqu61 ?_)
   | (refine zqw rfl rfl rfl H1r zqu61 ?_)
   | (refine zqw rfl rfl rfl H1l zqu48 ?_)
   | fail)
  intro w1a hU;have H2d:=shK hU H1d (by omega);have H2r:Hid (Blk w1a (w.heap.size+1) #[zI 0,zI 0,zI 0,zI 0,zI 0,zI 0,zS] 61):=hU.blk;have H2l:=shK hU H1l (by omega);have H2B:=shV hU H1B (by omega);have hsw1a:w1a.heap.size=w1.heap.size:=hU.size;clear hU H1d H1r H1l H1R H1B
  go_wp2_with (first
   | (refine zql rfl rfl rfl rfl zqu48 (by simp [Value.oneCell']) H2l rfl ?_)
   | (refine zqw rfl rfl rfl H2d zqu61 ?_)
   | (refine zqw rfl rfl rfl H2r zqu61 ?_)
   | (refine zqw rfl rfl rfl H2l zqu48 ?_)
   | fail)
  intro w1ab hU;have H3d:=shK hU H2d (by omega);have H3r:=shK hU H2r (by omega);have H3l:Hid (Blk w1ab (w.heap.size+1+1) #[zI 0,zI 0,zI 0,zI 0,zI 0,zI 0,zI 0] 48):=hU.blk;have H3B:=shV hU H2B (by omega);have hsw1ab:w1ab.heap.size=w1a.heap.size:=hU.size;clear hU H2d H2r H2l H2B;obtain ⟨Rr0,Rr1,Rr2,Rr3,Rr4,Rr5,Rr6⟩:=shc7 H3r;obtain ⟨Rl0,Rl1,Rl2,Rl3,Rl4,Rl5,Rl6⟩:=shc7 H3l;go_wp2_with fail;exact bodyPost_ret (v:= .tuple #[.agg #[zI 0,zI 0,zI 0,zI 0,zI 0,zI 0,zS],.agg #[zI 0,zI 0,zI 0,zI 0,zI 0,zI 0,zI 0],zI 5]) (by simp [results,Tryz.results78,Rr0.o,Rr1.o,Rr2.o,Rr3.o,Rr4.o,Rr5.o,Rr6.o,Rl0.o,Rl1.o,Rl2.o,Rl3.o,Rl4.o,Rl5.o,Rl6.o,go_sem]) rfl ⟨ac0,bi0,none,0,0,_,rfl,HV.o,deb.fresh_nil _ _,H3B.o⟩
 | true=>
  have HM:Hid (AMay x):=hr.1 rfl;clear hr H5;have HSV:Hid (Blk w1 (w.heap.size) #[zI x.me,zI x.rv,zI x.nx,zI x.mo,zI x.bo,zI x.fr,.slice p len cap] 61):=H1d.o;have H2d:Hid (Blk (w1.alloc (.cells #[zI x.me,zI x.rv,zI x.nx,zI x.mo,zI x.bo,zI x.fr,.slice p len cap,zI 0,zI 0,zI 0,zI 0,zI 0,zI 0,zI 0] 233)) (w.heap.size) #[zI x.me,zI x.rv,zI x.nx,zI x.mo,zI x.bo,zI x.fr,.slice p len cap] 61):=H1d.o.alloc _;have H2r:Hid (Blk (w1.alloc (.cells #[zI x.me,zI x.rv,zI x.nx,zI x.mo,zI x.bo,zI x.fr,.slice p len cap,zI 0,zI 0,zI 0,zI 0,zI 0,zI 0,zI 0] 233)) (w.heap.size+1) #[zI 0,zI 0,zI 0,zI 0,zI 0,zI 0,zS] 61):=H1r.o.alloc _;have H2l:Hid (Blk (w1.alloc (.cells #[zI x.me,zI x.rv,zI x.nx,zI x.mo,zI x.bo,zI x.fr,.slice p len cap,zI 0,zI 0,zI 0,zI 0,zI 0,zI 0,zI 0] 233)) (w.heap.size+1+1) #[zI 0,zI 0,zI 0,zI 0,zI 0,zI 0,zI 0] 48):=H1l.o.alloc _;have H2R:Hid (Came (w1.alloc (.cells #[zI x.me,zI x.rv,zI x.nx,zI x.mo,zI x.bo,zI x.fr,.slice p len cap,zI 0,zI 0,zI 0,zI 0,zI 0,zI 0,zI 0] 233)) p len cap x.ds):=H1R.o.below ((Below.refl _ _).alloc (Nat.le_refl _) _);have H2n:Hid (Blk (w1.alloc (.cells #[zI x.me,zI x.rv,zI x.nx,zI x.mo,zI x.bo,zI x.fr,.slice p len cap,zI 0,zI 0,zI 0,zI 0,zI 0,zI 0,zI 0] 233)) (w1.heap.size) #[zI x.me,zI x.rv,zI x.nx,zI x.mo,zI x.bo,zI x.fr,.slice p len cap,zI 0,zI 0,zI 0,zI 0,zI 0,zI 0,zI 0] 233):=Blk.new w1 _ _;have H2B:Hid (Below w.heap.size w (w1.alloc (.cells #[zI x.me,zI x.rv,zI x.nx,zI x.mo,zI x.bo,zI x.fr,.slice p len cap,zI 0,zI 0,zI 0,zI 0,zI 0,zI 0,zI 0] 233))):=H1B.o.alloc H1B.o.size _;have hsW2:(w1.alloc (.cells #[zI x.me,zI x.rv,zI x.nx,zI x.mo,zI x.bo,zI x.fr,.slice p len cap,zI 0,zI 0,zI 0,zI 0,zI 0,zI 0,zI 0] 233)).heap.size=w1.heap.size+1:=by simp
  clear H1d H1r H1l H1R H1B;go_upto_region 4 with (first | (refine zqw rfl rfl rfl HSV zqu61 ?_) | fail)
  generalize (w1.alloc (.cells #[zI x.me,zI x.rv,zI x.nx,zI x.mo,zI x.bo,zI x.fr,.slice p len cap,zI 0,zI 0,zI 0,zI 0,zI 0,zI 0,zI 0] 233))=W2 at *;clear HSV;have qd6:W2.cell? ⟨w.heap.size,6,none⟩=some (.slice p len cap):=H2d.o.cell 6
  go_wp2_with (first
   | (at_builtin;refine wp_copyD deb.debtT rfl _ _ rfl (w1.heap.size+1) p len cap x.ds rfl rfl H2R.o (by omega) ?_)
   | (refine zqw rfl rfl rfl H2d zqu61 ?_)
   | (refine zqw rfl rfl rfl H2r zqu61 ?_)
   | (refine zqw rfl rfl rfl H2l zqu48 ?_)
   | (refine zqw rfl rfl rfl H2n zqu233 ?_)
   | fail)
  intro v3 w3 hl3 hg3;have hb3:Below W2.heap.size W2 w3:=(Below.refl _ _).grown hg3 (Nat.le_refl _) (fun k hk=>by cases hk);obtain ⟨p3,cap3,hv3,hf3⟩:=deb.ld_fresh hl3 HM.o.1;rw [HLEN.o] at hv3 hf3;subst hv3;have H3d:=shN H2d hb3;have H3r:=shN H2r hb3;have H3l:=shN H2l hb3;have H3n:=shN H2n hb3;have H3B:=shB H2B hb3;have HL3:Hid (Ld 83 w3 (w1.heap.size+1) (.slice p3 len cap3) x.ds):=hl3;have hsw3:W2.heap.size≤w3.heap.size:=hb3.size;clear hl3 hg3 hb3 hf3 qd6 H2d H2r H2l H2n H2B
  go_wp2_with (first
   | (refine wp_letS rfl 59 _ _ rfl (w1.heap.size) 6 rfl p3 len cap3 rfl (by kernel_rfl) #[zI x.me,zI x.rv,zI x.nx,zI x.mo,zI x.bo,zI x.fr,.slice p len cap,zI 0,zI 0,zI 0,zI 0,zI 0,zI 0,zI 0] 233 H3n.o (by simp) ?_)
   | (refine zqw rfl rfl rfl H3d zqu61 ?_)
   | (refine zqw rfl rfl rfl H3r zqu61 ?_)
   | (refine zqw rfl rfl rfl H3l zqu48 ?_)
   | (refine zqw rfl rfl rfl H3n zqu233 ?_)
   | fail)
  intro W4 hU;have H4d:=shK hU H3d (by omega);have H4r:=shK hU H3r (by omega);have H4l:=shK hU H3l (by omega);have H4n:Hid (Blk W4 (w1.heap.size) #[zI x.me,zI x.rv,zI x.nx,zI x.mo,zI x.bo,zI x.fr,.slice p3 len cap3,zI 0,zI 0,zI 0,zI 0,zI 0,zI 0,zI 0] 233):=hU.blk;have H4B:=shV hU H3B (by omega);have HL4:Hid (Ld 83 W4 (w1.heap.size+1) (.slice p3 len cap3) x.ds):=ld_upd HL3.o hU (by omega);have HCA:Hid (Calls Tryz.prog F (#[.pointer (some ⟨w1.heap.size,0,none⟩)]++caps) W4 fun e w'=>WPost W4 w1.heap.size (Or0 Is) e w'):=HFU.o HM.o W4 w1.heap.size p3 cap3 H4B.o (by omega) H4n.o HL4.o;have hsW4:W4.heap.size=w3.heap.size:=hU.size;clear hU HL3 HL4 HFU H3d H3r H3l H3n H3B;go_wp2_with fail;refine HCA.o.mono ?_;rintro e w5 ⟨y,b,q,n,c,f,rfl,hor,hi5,hf5,hb5⟩;have H5d:Hid (Blk w5 (w.heap.size) #[zI x.me,zI x.rv,zI x.nx,zI x.mo,zI x.bo,zI x.fr,.slice p len cap] 61):=H4d.o.below hb5 (by omega);have H5r:Hid (Blk w5 (w.heap.size+1) #[zI 0,zI 0,zI 0,zI 0,zI 0,zI 0,zS] 61):=H4r.o.below hb5 (by omega);have H5l:Hid (Blk w5 (w.heap.size+1+1) #[zI 0,zI 0,zI 0,zI 0,zI 0,zI 0,zI 0] 48):=H4l.o.below hb5 (by omega);have H5n:Hid (Blk w5 (w1.heap.size) #[zI y.me,zI y.rv,zI y.nx,zI y.mo,zI y.bo,zI y.fr,.slice q n c,zI b.id,zI b.te,zI b.de,zI b.fe,zI b.pr,zI b.ch,zI b.un] 233):=hi5;have H5B:Hid (Below w.heap.size w w5):=H4B.o.trans (hb5.mono (by omega));have hsw5:W4.heap.size≤w5.heap.size:=hb5.size;have H6F:Hid (deb.Fresh w5 (w1.heap.size+1) q n c y.ds):=hf5;have HUPF:Hid (0<n→∀ y,q=some y→y.block<w5.heap.size):=came_lt H6F.o.came;have HOR:Hid (Or0 Is y b f):=hor;clear hor hi5 hf5 hb5 HCA hK H4d H4r H4l H4n H4B;by_cases h0:f=0
  ·subst h0
   have HV:Hid (Is y b 0):=by
    rcases HOR.o with ⟨h,_⟩ | ⟨_,h⟩
    ·exact absurd rfl h
    ·exact h
   clear HOR;go_wp2_with fail;refine wp_region_held_drew (S:=fun v=>Blk v (w1.heap.size) #[zI y.me,zI y.rv,zI y.nx,zI y.mo,zI y.bo,zI y.fr,.slice q n c,zI b.id,zI b.te,zI b.de,zI b.fe,zI b.pr,zI b.ch,zI b.un] 233) (by kernel_rfl) (Blk.drew H5n.o 1) (fun hHeld=>?_);refine zqs 0 28 (.pointer (some ⟨w1.heap.size,0,none⟩)) rfl rfl (by kernel_rfl) zid rfl (fun v hv=>by clear hv;go_simp) hHeld ?_;simp only [Act.put,zq];refine zqt 1 29 (.agg #[zI y.me,zI y.rv,zI y.nx,zI y.mo,zI y.bo,zI y.fr,.slice q n c]) rfl rfl (by kernel_rfl) zid (Or.inl ⟨by rfl,fun v hv=>by have g0:=hv.cell 0;have g1:=hv.cell 1;have g2:=hv.cell 2;have g3:=hv.cell 3;have g4:=hv.cell 4;have g5:=hv.cell 5;have g6:=hv.cell 6;clear hv;go_simp⟩) hHeld ?_;simp only [Act.put,zq];refine zqs 2 30 (.pointer (some ⟨w1.heap.size,7,none⟩)) rfl rfl (by kernel_rfl) zid rfl (fun v hv=>by clear hv;go_simp) hHeld ?_;simp only [Act.put,zq];refine zqt 3 31 (.agg #[zI b.id,zI b.te,zI b.de,zI b.fe,zI b.pr,zI b.ch,zI b.un]) rfl rfl (by kernel_rfl) zid (Or.inl ⟨by rfl,fun v hv=>by have g0:=hv.cell 7;have g1:=hv.cell 8;have g2:=hv.cell 9;have g3:=hv.cell 10;have g4:=hv.cell 11;have g5:=hv.cell 12;have g6:=hv.cell 13;clear hv;go_simp⟩) hHeld ?_;simp only [Act.put,zq];refine zqo 4 (by kernel_rfl) rfl (fun K hK=>?_);rw [if_pos (by rfl)];refine wp_letOp 61 _ _ rfl (w.heap.size+1) rfl #[zI y.me,zI y.rv,zI y.nx,zI y.mo,zI y.bo,zI y.fr,.slice q n c] rfl (by kernel_rfl) (by simp [Value.oneCell']) #[zI 0,zI 0,zI 0,zI 0,zI 0,zI 0,zS] 61 (Blk.drew H5r.o 1) rfl rfl ?_;intro V1 hU;have H7d:Hid (Blk V1 (w.heap.size) #[zI x.me,zI x.rv,zI x.nx,zI x.mo,zI x.bo,zI x.fr,.slice p len cap] 61):=hU.keep (Blk.drew H5d.o 1) (by omega);have H7r:Hid (Blk V1 (w.heap.size+1) #[zI y.me,zI y.rv,zI y.nx,zI y.mo,zI y.bo,zI y.fr,.slice q n c] 61):=hU.blk;have H7l:Hid (Blk V1 (w.heap.size+1+1) #[zI 0,zI 0,zI 0,zI 0,zI 0,zI 0,zI 0] 48):=hU.keep (Blk.drew H5l.o 1) (by omega)
   have H7n:Hid (Blk V1 (w1.heap.size) #[zI y.me,zI y.rv,zI y.nx,zI y.mo,zI y.bo,zI y.fr,.slice q n c,zI b.id,zI b.te,zI b.de,zI b.fe,zI b.pr,zI b.ch,zI b.un] 233):=hU.keep (Blk.drew H5n.o 1) (by omega);have H7F:Hid (deb.Fresh V1 (w1.heap.size+1) q n c y.ds):=fresh_updN (fresh_drew H6F.o) hU (fun hn y hy=>by have f1:=H6F.o.new hn y hy;have f2:=HUPF.o hn y hy;omega);have H7B:Hid (Below w.heap.size w V1):=hU.bel _ _ (by omega) H5B.o.drew;clear hU H5d H5r H5l H5n H6F H5B;refine hK.o _ _ H7n.o (fun hHeld=>?_);clear hK K;refine zqo 5 (by kernel_rfl) rfl (fun K hK=>?_);rw [if_pos (by rfl)];refine wp_letOp 48 _ _ rfl (w.heap.size+1+1) rfl #[zI b.id,zI b.te,zI b.de,zI b.fe,zI b.pr,zI b.ch,zI b.un] rfl (by kernel_rfl) (by simp [Value.oneCell']) #[zI 0,zI 0,zI 0,zI 0,zI 0,zI 0,zI 0] 48 H7l.o rfl rfl ?_;intro V2 hU;have H8d:=shK hU H7d (by omega);have H8r:=shK hU H7r (by omega);have H8l:Hid (Blk V2 (w.heap.size+1+1) #[zI b.id,zI b.te,zI b.de,zI b.fe,zI b.pr,zI b.ch,zI b.un] 48):=hU.blk;have H8n:=shK hU H7n (by omega);have H8F:Hid (deb.Fresh V2 (w1.heap.size+1) q n c y.ds):=fresh_updN H7F.o hU (fun hn y hy=>by have f1:=H7F.o.new hn y hy;have f2:=HUPF.o hn y hy;omega);have H8B:=shV hU H7B (by omega);clear hU H7d H7r H7l H7n H7F H7B;refine hK.o _ _ H8n.o (fun hHeld=>?_);clear hK K;refine zqs 6 6 (zI 0) rfl rfl (by kernel_rfl) zid rfl (fun v hv=>by clear hv;go_simp) hHeld ?_;simp only [Act.put,zq];refine wpAnyH_done (by kernel_rfl) ?_ _;clear hHeld;have Rr0:Hid (V2.cell? ⟨w.heap.size+1,0,none⟩=some (zI y.me)):=H8r.o.cell 0;have Rr1:Hid (V2.cell? ⟨w.heap.size+1,1,none⟩=some (zI y.rv)):=H8r.o.cell 1;have Rr2:Hid (V2.cell? ⟨w.heap.size+1,2,none⟩=some (zI y.nx)):=H8r.o.cell 2;have Rr3:Hid (V2.cell? ⟨w.heap.size+1,3,none⟩=some (zI y.mo)):=H8r.o.cell 3;have Rr4:Hid (V2.cell? ⟨w.heap.size+1,4,none⟩=some (zI y.bo)):=H8r.o.cell 4;have Rr5:Hid (V2.cell? ⟨w.heap.size+1,5,none⟩=some (zI y.fr)):=H8r.o.cell 5
   have Rr6:Hid (V2.cell? ⟨w.heap.size+1,6,none⟩=some (.slice q n c)):=H8r.o.cell 6;have Rl0:Hid (V2.cell? ⟨w.heap.size+1+1,0,none⟩=some (zI b.id)):=H8l.o.cell 0;have Rl1:Hid (V2.cell? ⟨w.heap.size+1+1,1,none⟩=some (zI b.te)):=H8l.o.cell 1;have Rl2:Hid (V2.cell? ⟨w.heap.size+1+1,2,none⟩=some (zI b.de)):=H8l.o.cell 2;have Rl3:Hid (V2.cell? ⟨w.heap.size+1+1,3,none⟩=some (zI b.fe)):=H8l.o.cell 3;have Rl4:Hid (V2.cell? ⟨w.heap.size+1+1,4,none⟩=some (zI b.pr)):=H8l.o.cell 4;have Rl5:Hid (V2.cell? ⟨w.heap.size+1+1,5,none⟩=some (zI b.ch)):=H8l.o.cell 5;have Rl6:Hid (V2.cell? ⟨w.heap.size+1+1,6,none⟩=some (zI b.un)):=H8l.o.cell 6;go_wp2_with fail;exact bodyPost_ret (v:= .tuple #[.agg #[zI y.me,zI y.rv,zI y.nx,zI y.mo,zI y.bo,zI y.fr,.slice q n c],.agg #[zI b.id,zI b.te,zI b.de,zI b.fe,zI b.pr,zI b.ch,zI b.un],zI 0]) (by simp [results,Tryz.results78,Rr0.o,Rr1.o,Rr2.o,Rr3.o,Rr4.o,Rr5.o,Rr6.o,Rl0.o,Rl1.o,Rl2.o,Rl3.o,Rl4.o,Rl5.o,Rl6.o,go_sem]) rfl ⟨y,b,q,n,c,0,rfl,HV.o,H8F.o.low (by omega),H8B.o⟩
  ·have d0:(f != 0)=true:=by simpa using h0
   have HV:Hid (Is ac0 bi0 f):=by
    rcases HOR.o with ⟨_,h⟩ | ⟨h,_⟩
    ·exact h
    ·exact absurd h h0
   clear HOR h0
   go_wp2_with (first
    | (refine zql rfl rfl rfl rfl zqu61 (by simp [Value.oneCell']) H5r rfl ?_)
    | (refine zqw rfl rfl rfl H5d zqu61 ?_)
    | (refine zqw rfl rfl rfl H5r zqu61 ?_)
    | (refine zqw rfl rfl rfl H5l zqu48 ?_)
    | (refine zqw rfl rfl rfl H5n zqu233 ?_)
    | fail)
   intro w5a hU;have H7d:=shK hU H5d (by omega);have H7r:Hid (Blk w5a (w.heap.size+1) #[zI 0,zI 0,zI 0,zI 0,zI 0,zI 0,zS] 61):=hU.blk;have H7l:=shK hU H5l (by omega);have H7n:=shK hU H5n (by omega);have H7B:=shV hU H5B (by omega);have hsw5a:w5a.heap.size=w5.heap.size:=hU.size;clear hU H5d H5r H5l H5n H5B
   go_wp2_with (first
    | (refine zql rfl rfl rfl rfl zqu48 (by simp [Value.oneCell']) H7l rfl ?_)
    | (refine zqw rfl rfl rfl H7d zqu61 ?_)
    | (refine zqw rfl rfl rfl H7r zqu61 ?_)
    | (refine zqw rfl rfl rfl H7l zqu48 ?_)
    | (refine zqw rfl rfl rfl H7n zqu233 ?_)
    | fail)
   intro w5ab hU;have H8d:=shK hU H7d (by omega);have H8r:=shK hU H7r (by omega);have H8l:Hid (Blk w5ab (w.heap.size+1+1) #[zI 0,zI 0,zI 0,zI 0,zI 0,zI 0,zI 0] 48):=hU.blk;have H8n:=shK hU H7n (by omega);have H8B:=shV hU H7B (by omega);have hsw5ab:w5ab.heap.size=w5a.heap.size:=hU.size;clear hU H7d H7r H7l H7n H7B;obtain ⟨Rr0,Rr1,Rr2,Rr3,Rr4,Rr5,Rr6⟩:=shc7 H8r;obtain ⟨Rl0,Rl1,Rl2,Rl3,Rl4,Rl5,Rl6⟩:=shc7 H8l;go_wp2_with fail;exact bodyPost_ret (v:= .tuple #[.agg #[zI 0,zI 0,zI 0,zI 0,zI 0,zI 0,zS],.agg #[zI 0,zI 0,zI 0,zI 0,zI 0,zI 0,zI 0],zI f]) (by simp [results,Tryz.results78,Rr0.o,Rr1.o,Rr2.o,Rr3.o,Rr4.o,Rr5.o,Rr6.o,Rl0.o,Rl1.o,Rl2.o,Rl3.o,Rl4.o,Rl5.o,Rl6.o,go_sem]) rfl ⟨ac0,bi0,none,0,0,_,rfl,HV.o,deb.fresh_nil _ _,H8B.o⟩
end acc
end Go.Proofs.YtdpfnedfakgolaaGreatDoor
