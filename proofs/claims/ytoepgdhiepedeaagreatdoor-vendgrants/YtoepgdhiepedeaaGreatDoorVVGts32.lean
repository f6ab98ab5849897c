import Derived.Test.YtoepgdhiepedeaaGreatDoorVVGts29
set_option linter.unusedVariables false
set_option linter.unusedSimpArgs false
set_option maxHeartbeats 4000000
set_option maxRecDepth 100000
namespace Go.Proofs.YtoepgdhiepedeaaGreatDoor
namespace ora
open Go.RowKit
set_option maxRecDepth 100000
theorem step_pr {w : World} {ops : Array Oper} {o : Oper} {a : Act} {K : Act → World → Prop} {Q : Exit → Act → World → Prop} {E : Prop} (hgd : o.guard = none) (s x : Operand)
  (ho : o.op = .call { callee := .builtin .append, args := #[s, x], argTypes := #[26, 26] })
  (base G : Nat) (v : Value) (l : List Pr) (r : Pr) (hs : a.eval s = v) (hx : a.eval x = .slice (some ⟨G, 0, none⟩) 1 1) (hv : Pw w base v l) (hu : PrAt w G 0 r) (hn : l.length ≤ 1000000) (hbase : base ≤ w.heap.size)
  (h : ∀ v' w', Pw w' base v' (l ++ [r]) → w.grownBy w' v.ownBlock → K (a.put o.dst v') w') : if Region.wanted o (yielded ops a.tmps) = true then Oper.wp Tryz.prog o a w K Q else E := by
 have m : Region.wanted o (yielded ops a.tmps) = true := by simp [Region.wanted, hgd]
 rw [if_pos m]
 obtain ⟨n, i, c, d, e⟩ := info_parts info_pr
 obtain ⟨v', w', k, f, g, _⟩ := run_append_own (P := Tryz.prog) w base 26 o.type 87 n (.agg #[.int .i64 0, .int .i64 0, .int .i64 0, .int .i64 0]) 4 32 Tryz.underlying26 i c d e rfl (by decide) v l.length (cellsP l) hv ⟨G, 0, none⟩ 1 1 (cellsP [r]) rfl (by
  intro j u b
  match j, b with
  | 0, b => simp [cellsP] at b; subst b; simpa [Addr.add] using hu.1
  | 1, b => simp [cellsP] at b; subst b; simpa [Addr.add] using hu.2.1
  | 2, b => simp [cellsP] at b; subst b; simpa [Addr.add] using hu.2.2.1
  | 3, b => simp [cellsP] at b; subst b; simpa [Addr.add] using hu.2.2.2
  | j + 4, b => simp [cellsP] at b) (oneP [r]) (by unfold maxLen; omega) (by omega) hbase
 unfold Oper.wp execOp
 simp only [ho, resolve, invoke, builtin, Sem.run_bind, Sem.run_pure, Result.andThen_ok, List.map_toArray, List.map_cons, List.map_nil, hs, hx, k]
 refine h v' w' ?_ g
 unfold Pw
 rw [List.length_append, cellsP_app]
 exact f
def IssueQ (w : World) (l : List Pr) (m r b d : Int) (e : Ending) (w' : World) : Prop :=
 ∃ v ls x c, e = .returned (.tuple #[.agg #[v], .int .i64 x, .int .i64 c]) ∧ Pw w' w.heap.size v ls ∧ IssueIs l m r b d ls x c ∧ zB w w'
theorem Pw.lies {w : World} {base : Nat} {v : Value} {l : List Pr} (h : Pw w base v l) : ∃ a cap, v = .slice a l.length cap ∧ RowP w a l.length l ∧ (a = none → cap = 0) ∧ l.length ≤ cap ∧ (∀ y, a = some y → base ≤ y.block ∧ y.block < w.heap.size) := by
 obtain ⟨a, cap, b, c, d, e⟩ := h.row
 refine ⟨a, cap, b, c, d, e, fun y f => ?_⟩
 subst f
 have := World.ownsRow.lt h y.block (by rw [b]; rfl)
 exact ⟨this.1, this.2⟩
structure Bj (w wr : World) (a : Option Addr) (n cap : Nat) (l : List Pr) (G : Nat) (m r b d : Int) : Prop where
 bi : Bi w wr a n cap l
 pr : Blk wr G #[.int .i64 m, .int .i64 r, .int .i64 b, .int .i64 d] 87
theorem Bj.next {w wr w' : World} {a : Option Addr} {n cap : Nat} {l : List Pr} {G : Nat} {m r b d : Int} (h : Bj w wr a n cap l G m r b d) (hb : zB wr w') : Bj w w' a n cap l G m r b d := ⟨h.bi.next hb, h.pr.next hb⟩
theorem Bj.alloc {w wr : World} {a : Option Addr} {n cap : Nat} {l : List Pr} {G : Nat} {m r b d : Int} (h : Bj w wr a n cap l G m r b d) (o : Obj) : Bj w (wr.alloc o) a n cap l G m r b d := h.next (zb.alloc zc _)
theorem Bj.drew {w wr : World} {a : Option Addr} {n cap : Nat} {l : List Pr} {G : Nat} {m r b d : Int} (h : Bj w wr a n cap l G m r b d) (q : Nat) : Bj w (wr.drewN q) a n cap l G m r b d := h.next (bel_drew zb q)
theorem Bj.cells {w wr : World} {a : Option Addr} {n cap : Nat} {l : List Pr} {G : Nat} {m r b d : Int} (h : Bj w wr a n cap l G m r b d) : wr.cell? ⟨w.heap.size, 0, none⟩ = some (.slice a n cap) ∧ wr.cell? ⟨G, 0, none⟩ = some (.int .i64 m) ∧ wr.cell? ⟨G, 0 + 1, none⟩ = some (.int .i64 r) ∧ wr.cell? ⟨G, 0 + 2, none⟩ = some (.int .i64 b) ∧ wr.cell? ⟨G, 0 + 3, none⟩ = some (.int .i64 d) :=
 ⟨h.bi.bo.box.cell 0, h.pr.cell 0, h.pr.cell 1, h.pr.cell 2, h.pr.cell 3⟩
theorem Bj.ne {w wr : World} {a : Option Addr} {n cap : Nat} {l : List Pr} {G : Nat} {m r b d : Int} (h : Bj w wr a n cap l G m r b d) : w.heap.size + 1 ≠ G := by
 rintro rfl
 have e := h.pr; have c := h.bi.out
 unfold Blk at e c
 rw [e] at c; simp at c
theorem Bj.put {w wr : World} {a : Option Addr} {n cap : Nat} {l : List Pr} {G : Nat} {m r b d : Int} (h : Bj w wr a n cap l G m r b d) (u : Value) : (wr.setCell ⟨w.heap.size + 1, 0, none⟩ u).cell? ⟨w.heap.size, 0, none⟩ = some (.slice a n cap) ∧ (wr.setCell ⟨w.heap.size + 1, 0, none⟩ u).cell? ⟨G, 0, none⟩ = some (.int .i64 m) ∧ (wr.setCell ⟨w.heap.size + 1, 0, none⟩ u).cell? ⟨G, 0 + 1, none⟩ = some (.int .i64 r) ∧ (wr.setCell ⟨w.heap.size + 1, 0, none⟩ u).cell? ⟨G, 0 + 2, none⟩ = some (.int .i64 b) ∧ (wr.setCell ⟨w.heap.size + 1, 0, none⟩ u).cell? ⟨G, 0 + 3, none⟩ = some (.int .i64 d) := by
 have e := Blk.other h.bi.bo.box 0 u (G' := w.heap.size + 1) (by omega)
 have c := Blk.other h.pr 0 u h.ne
 exact ⟨e.cell 0, c.cell 0, c.cell 1, c.cell 2, c.cell 3⟩
structure En (w W : World) (v : Value) (ls : List Pr) : Prop where
 pw : Pw W w.heap.size v ls
 cell : W.cell? ⟨w.heap.size + 1, 0, none⟩ = some v
 bel : zB w W
theorem En.of {w w6 : World} {a : Option Addr} {n cap : Nat} {l : List Pr} {v : Value} {ls : List Pr} (hi : Bi w w6 a n cap l) (hp : Pw w6 w.heap.size v ls) : En w (w6.setCell ⟨w.heap.size + 1, 0, none⟩ v) v ls :=
 ⟨hp.put2 hi.out (by decide) 0 v, by have := (hi.out.set 0 v).cell 0; exact this, bel_set hi.bo.bel _ _ _ (by omega)⟩
set_option maxHeartbeats 2000000 in
theorem poi (a : Option Addr) (n cap : Nat) (l : List Pr) (m r b d : Int) (w : World) (hr : RowP w a n l) :
  Calls Tryz.prog 75 #[.agg #[.slice a n cap], .int .i64 m, .int .i64 r, .int .i64 b, .int .i64 d] w fun e w' => IssueQ w l m r b d e w' := by
 have HB0 : Hid (Bi w ((w.alloc (.cells #[.slice a n cap] 28)).alloc (.cells #[.slice none 0 0] 28)) a n cap l) := ⟨(Bo.new hr).alloc _, Blk.new1 w _ _ _⟩
 have HL := zh hr.1
 have HG : Hid (∀ W, RowP W a n l → Calls Tryz.prog 114 #[.agg #[.slice a n cap]] W fun e w' => Given W l e w') := fun W h => given_any a n cap l W h
 have HCL : Hid (∀ W, n ≤ 500 → RowP W a n l → Calls Tryz.prog 117 #[.slice a n cap] W fun e w' => GaveV W l e w') := fun W h0 h => pclone_any a n cap l W h (by omega)
 have HPM : Hid (∀ W, Calls Tryz.prog 115 #[.agg #[.int .i64 m, .int .i64 r, .int .i64 b, .int .i64 d]] W fun e w' => Told W (Pr.mk m r b d).may e w') := fun W => within_any m r b d W
 have HOF : Hid (∀ W, Calls Tryz.prog 116 #[.agg #[.int .i64 m, .int .i64 r, .int .i64 b, .int .i64 d]] W fun e w' => e = .returned (.agg #[.int .i64 m, .int .i64 r, .int .i64 b]) ∧ Below W.heap.size W w') := fun W => of_any m r b d W
 clear hr
 have c0 := HB0.out.bo.box.cell 0
 go_enter Tryz.func75, Tryz.ntmps75
 go_wp2_with fail
 refine (HG.out _ HB0.out.bo.row).mono ?_
 rintro e w1 ⟨hb1, ⟨hm, B, rfl, hmp⟩ | ⟨hm, rfl⟩⟩
 ·have HI1 := zh (HB0.out.next hb1)
  have hn : n ≤ 500 := by rw [← HL.out]; exact hm.few
  have HMY := zh hm
  have HJ2 : Hid (Bj w (w1.alloc (.cells #[.int .i64 m, .int .i64 r, .int .i64 b, .int .i64 d] 87)) a n cap l w1.heap.size m r b d) := ⟨HI1.out.alloc _, Blk.new w1 _ _⟩
  have HM2 : Hid (Mp (w1.alloc (.cells #[.int .i64 m, .int .i64 r, .int .i64 b, .int .i64 d] 87)) B l) := hmp.below ((Below.refl _ _).alloc (Nat.le_refl _) _)
  have p0 := HJ2.out.pr.cell 0
  have p1 := HJ2.out.pr.cell 1
  have p2 := HJ2.out.pr.cell 2
  have p3 := HJ2.out.pr.cell 3
  clear hb1 hm hmp c0
  go_wp2_with fail
  refine (HPM.out _).mono ?_
  rintro e w2 ⟨rr, rfl, hrr, hb2⟩
  have HJ3 := zh (HJ2.out.next hb2)
  have HM3 := zh (HM2.out.below hb2)
  clear hb2 p0 p1 p2 p3
  generalize w1.heap.size = gp at *
  have z0 := HJ3.out.bi.out.cell 0
  have y0 := HJ3.out.bi.out.free 0
  cases rr with
  | false =>
   have HN : Hid (¬ (Pr.mk m r b d).may) := fun h => by have := hrr.2 h; cases this
   have HE : Hid (En w (w2.setCell ⟨w.heap.size + 1, 0, none⟩ (.slice none 0 0)) (.slice none 0 0) []) := En.of HJ3.out.bi (Pw.zero _ _)
   have R0 : Hid (_ = _) := HE.out.cell
   clear hrr
   go_wp2_with fail
   exact zr (.tuple #[.agg #[.slice none 0 0], .int .i64 0, .int .i64 2]) (by simp [results, Tryz.results75, R0.out, go_sem]) ⟨_, [], 0, 2, rfl, HE.out.pw, .inr (.inl ⟨HMY.out, HN.out, rfl, rfl, rfl⟩), HE.out.bel⟩
  | true =>
   have HPY : Hid ((Pr.mk m r b d).may) := hrr.1 rfl
   clear hrr z0 y0
   have p0 := HJ3.out.pr.cell 0
   have p1 := HJ3.out.pr.cell 1
   have p2 := HJ3.out.pr.cell 2
   have p3 := HJ3.out.pr.cell 3
   go_wp2_with fail
   refine (HOF.out _).mono ?_
   rintro e w3 ⟨rfl, hb3⟩
   have HJ4 := zh (HJ3.out.next hb3)
   have hlk := look_run (HM3.out.below hb3) m r b
   clear hb3 p0 p1 p2 p3
   have c0 := HJ4.out.bi.bo.box.cell 0
   rcases find_or l m r b with ⟨i, hi⟩ | hno
   ·rw [look_at hi] at hlk
    simp only [Option.getD_some, Option.isSome_some] at hlk
    have HAT : Hid (∃ i, At l m r b i ∧ (l.getD i pr0).t = (l.getD i pr0).t) := ⟨i, hi, rfl⟩
    have HIS : Hid (IssueIs l m r b d l (l.getD i pr0).t 0) := .inr (.inr (.inl ⟨HMY.out, HPY.out, ⟨i, hi, rfl⟩, rfl, rfl⟩))
    clear hi
    generalize (l.getD i pr0).t = pt at *
    go_wp2_with fail
    refine (HCL.out _ hn HJ4.out.bi.bo.row).mono ?_
    rintro e w4 ⟨v4, rfl, hp4, hb4⟩
    have HI5 := zh (HJ4.out.bi.next hb4)
    have hp5 := hp4.low HJ4.out.bi.bo.bel.size
    obtain ⟨a4, k4, rfl, _⟩ := hp5.lies
    have HE := zh (En.of HI5.out hp5)
    have R0 : Hid (_ = _) := HE.out.cell
    have z0 := HI5.out.out.cell 0
    have y0 := HI5.out.out.free 0
    clear hb4 hp4 hp5 c0 hlk
    generalize l.length = ln at *
    go_wp2_with fail
    exact zr (.tuple #[.agg #[.slice a4 ln k4], .int .i64 pt, .int .i64 0]) (by simp [results, Tryz.results75, R0.out, go_sem]) ⟨_, l, pt, 0, rfl, HE.out.pw, HIS.out, HE.out.bel⟩
   ·rw [look_no hno] at hlk
    simp only [Option.getD_none, Option.isSome_none] at hlk
    have HNO : Hid (No l m r b) := hno
    clear hno
    by_cases h5 : n = 500
    ·have hq : ((n : Int) == 500) = true := by simp; omega
     have HL5 : Hid (l.length = 500) := by rw [← h5]; exact HL.out
     have HE : Hid (En w (w3.setCell ⟨w.heap.size + 1, 0, none⟩ (.slice none 0 0)) (.slice none 0 0) []) := En.of HJ4.out.bi (Pw.zero _ _)
     have R0 : Hid (_ = _) := HE.out.cell
     have z0 := HJ4.out.bi.out.cell 0
     have y0 := HJ4.out.bi.out.free 0
     clear h5
     go_wp2_with fail
     exact zr (.tuple #[.agg #[.slice none 0 0], .int .i64 0, .int .i64 16]) (by simp [results, Tryz.results75, R0.out, go_sem]) ⟨_, [], 0, 16, rfl, HE.out.pw, .inr (.inr (.inr (.inl ⟨HMY.out, HPY.out, HNO.out, HL5.out, rfl, rfl, rfl⟩))), HE.out.bel⟩
    ·have hq : ((n : Int) == 500) = false := by simp; omega
     have HL5 : Hid (l.length < 500) := by have := HL.out; show _ < _; omega
     have HLN : Hid (l.length ≤ 1000000) := by have := HL5.out; show _ ≤ _; omega
     have HIS : Hid (IssueIs l m r b d (l ++ [⟨m, r, b, d⟩]) d 0) := .inr (.inr (.inr (.inr ⟨HMY.out, HPY.out, HNO.out, HL5.out, rfl, rfl, rfl⟩)))
     obtain ⟨l2, hl2⟩ : ∃ l2, l2 = l ++ [Pr.mk m r b d] := ⟨_, rfl⟩
     have HL2 : Hid (l2 = l ++ [Pr.mk m r b d]) := hl2
     rw [← hl2] at HIS
     clear hl2
     have HJD : Hid (Bj w w3.drew a n cap l gp m r b d) := HJ4.out.drew 1
     have HRD : Hid (RowP w3.drew a n l) := HJD.out.bi.bo.row
     have HBD : Hid (Below w3.heap.size w3 w3.drew) := bel_drew (Below.refl _ _) 1
     have HJX : Hid (Bj w (w3.alloc (.cells #[.int .i64 m, .int .i64 r, .int .i64 b, .int .i64 d] 87)).drew a n cap l gp m r b d) := (HJ4.out.alloc _).drew 1
     have HRX : Hid (RowP (w3.alloc (.cells #[.int .i64 m, .int .i64 r, .int .i64 b, .int .i64 d] 87)).drew a n l) := HJX.out.bi.bo.row
     have HBX : Hid (Below w3.heap.size w3 (w3.alloc (.cells #[.int .i64 m, .int .i64 r, .int .i64 b, .int .i64 d] 87)).drew) := bel_drew ((Below.refl _ _).alloc (Nat.le_refl _) _) 1
     have HPX : Hid (PrAt (w3.alloc (.cells #[.int .i64 m, .int .i64 r, .int .i64 b, .int .i64 d] 87)).drew w3.heap.size 0 ⟨m, r, b, d⟩) := pr_cell w3 m r b d
     have HWW : Hid (w.heap.size ≤ w3.heap.size) := HJ4.out.bi.bo.bel.size
     have KD : Hid (w3.drew.cell? ⟨w.heap.size, 0, none⟩ = some (.slice a n cap) ∧ w3.drew.cell? ⟨gp, 0, none⟩ = some (.int .i64 m) ∧ w3.drew.cell? ⟨gp, 0 + 1, none⟩ = some (.int .i64 r) ∧ w3.drew.cell? ⟨gp, 0 + 2, none⟩ = some (.int .i64 b) ∧ w3.drew.cell? ⟨gp, 0 + 3, none⟩ = some (.int .i64 d)) := HJD.out.cells
     have KX : Hid ((w3.alloc (.cells #[.int .i64 m, .int .i64 r, .int .i64 b, .int .i64 d] 87)).drew.cell? ⟨w.heap.size, 0, none⟩ = some (.slice a n cap) ∧ (w3.alloc (.cells #[.int .i64 m, .int .i64 r, .int .i64 b, .int .i64 d] 87)).drew.cell? ⟨gp, 0, none⟩ = some (.int .i64 m) ∧ (w3.alloc (.cells #[.int .i64 m, .int .i64 r, .int .i64 b, .int .i64 d] 87)).drew.cell? ⟨gp, 0 + 1, none⟩ = some (.int .i64 r) ∧ (w3.alloc (.cells #[.int .i64 m, .int .i64 r, .int .i64 b, .int .i64 d] 87)).drew.cell? ⟨gp, 0 + 2, none⟩ = some (.int .i64 b) ∧ (w3.alloc (.cells #[.int .i64 m, .int .i64 r, .int .i64 b, .int .i64 d] 87)).drew.cell? ⟨gp, 0 + 3, none⟩ = some (.int .i64 d)) := HJX.out.cells
     clear h5
     go_wp2_with fail
     clear hlk hq c0
     go_region_held_law (fun v => v.cell? ⟨w.heap.size, 0, none⟩ = some (.slice a n cap) ∧ v.cell? ⟨gp, 0, none⟩ = some (.int .i64 m) ∧ v.cell? ⟨gp, 0 + 1, none⟩ = some (.int .i64 r) ∧ v.cell? ⟨gp, 0 + 2, none⟩ = some (.int .i64 b) ∧ v.cell? ⟨gp, 0 + 3, none⟩ = some (.int .i64 d))
      (first | with_reducible exact KD.out | with_reducible exact KX.out | with_reducible exact K5.out | with_reducible exact K6.out | with_reducible exact K7.out | with_reducible exact K8.out)
      (first
       | (go_at_call 117; refine (HCL.out _ hn (by with_reducible exact HRD.out)).mono ?_; rintro e w5 ⟨v5, rfl, hp5, hb5⟩
          have HB5 := shB HBD hb5
          have HB6 : Hid (Below w3.heap.size w3 (w5.alloc (.cells #[.int .i64 m, .int .i64 r, .int .i64 b, .int .i64 d] 87))) := HB5.out.alloc HB5.out.size _
          have K5 := zh (HJ4.out.next HB5.out).cells
          have K6 := zh (HJ4.out.next HB6.out).cells
          have HP6 : Hid (Pw (w5.alloc (.cells #[.int .i64 m, .int .i64 r, .int .i64 b, .int .i64 d] 87)) w3.heap.size v5 l) := Pw.alloc hp5 _
          have HPA := zh (pr_cell w5 m r b d)
          have HSZ := zh HB6.out.size
          clear hp5 hb5)
       | (go_at_call 117; refine (HCL.out _ hn (by with_reducible exact HRX.out)).mono ?_; rintro e w5 ⟨v5, rfl, hp5, hb5⟩
          have HB6 := shB HBX hb5
          have K6 := zh (HJ4.out.next HB6.out).cells
          have HP6 := zh (hp5.low HBX.out.size)
          have HPB := zh (HPX.out.below hb5)
          have HSZ := zh HB6.out.size
          clear hp5 hb5)
       | (first
         | refine step_pr rfl _ _ rfl w3.heap.size w5.heap.size _ l ⟨m, r, b, d⟩ rfl rfl HP6.out HPA.out HLN.out HSZ.out ?_
         | refine step_pr rfl _ _ rfl w3.heap.size w3.heap.size _ l ⟨m, r, b, d⟩ rfl rfl HP6.out HPB.out HLN.out HSZ.out ?_
          intro v7 w7 hp7 hg7
          have hB7 : Below w3.heap.size w3 w7 := pown_bel HP6.out hg7 HB6.out (Nat.le_refl _) HSZ.out
          have HJ7 := zh (HJ4.out.next hB7)
          have hp8 : Pw w7 w.heap.size v7 l2 := by rw [HL2.out]; exact hp7.low HWW.out
          obtain ⟨a7, k7, rfl, _⟩ := hp8.lies
          have HE := zh (En.of HJ7.out.bi hp8)
          have K7 := zh HJ7.out.cells
          have K8 : Hid ((w7.setCell ⟨w.heap.size + 1, 0, none⟩ (.slice a7 l2.length k7)).cell? ⟨w.heap.size, 0, none⟩ = some (.slice a n cap) ∧ (w7.setCell ⟨w.heap.size + 1, 0, none⟩ (.slice a7 l2.length k7)).cell? ⟨gp, 0, none⟩ = some (.int .i64 m) ∧ (w7.setCell ⟨w.heap.size + 1, 0, none⟩ (.slice a7 l2.length k7)).cell? ⟨gp, 0 + 1, none⟩ = some (.int .i64 r) ∧ (w7.setCell ⟨w.heap.size + 1, 0, none⟩ (.slice a7 l2.length k7)).cell? ⟨gp, 0 + 2, none⟩ = some (.int .i64 b) ∧ (w7.setCell ⟨w.heap.size + 1, 0, none⟩ (.slice a7 l2.length k7)).cell? ⟨gp, 0 + 3, none⟩ = some (.int .i64 d)) := HJ7.out.put _
          have z0 := HJ7.out.bi.out.cell 0
          have y0 := HJ7.out.bi.out.free 0
          have R0 : Hid (_ = _) := HE.out.cell
          clear hp7 hg7 hB7 hp8
          generalize l2.length = ln at *))
     all_goals go_wp2_with fail
     all_goals exact bodyPost_ret (v := .tuple #[.agg #[.slice a7 ln k7], .int .i64 d, .int .i64 0]) (by simp [results, Tryz.results75, R0.out, go_sem]) rfl ⟨_, l2, d, 0, rfl, HE.out.pw, HIS.out, HE.out.bel⟩
 ·have HI1 := zh (HB0.out.next hb1)
  have HN := zh hm
  have HE : Hid (En w (w1.setCell ⟨w.heap.size + 1, 0, none⟩ (.slice none 0 0)) (.slice none 0 0) []) := En.of HI1.out (Pw.zero _ _)
  have R0 : Hid (_ = _) := HE.out.cell
  have z0 := HI1.out.out.cell 0
  have y0 := HI1.out.out.free 0
  clear hb1 hm c0
  go_wp2_with fail
  exact zr (.tuple #[.agg #[.slice none 0 0], .int .i64 0, .int .i64 5]) (by simp [results, Tryz.results75, R0.out, go_sem]) ⟨_, [], 0, 5, rfl, HE.out.pw, .inl ⟨HN.out, rfl, rfl, rfl⟩, HE.out.bel⟩
end ora
namespace words
open Go.RowKit
def Dg(w:World)(D:Nat)(d:Nat→Int):Prop:=w.heap[D]?=some (.cells ((List.range 29).map λi=>Value.int .u8 (d i)).toArray 192 (0,0))
variable {w w':World} {D:Nat} {d:Nat→Int}
theorem Dg.cell(h:Dg w D d){i:Nat}(hi:i<29):w.cell? ⟨D,i,none⟩=some (.int .u8 (d i)):=by unfold Dg at h;simp[World.cell?,h,hi]
theorem Dg.free(h:Dg w D d)(i:Nat):w.frozen? ⟨D,i,none⟩=false:=by unfold Dg at h;simp[World.frozen?,h]
theorem Dg.lt(h:Dg w D d):D<w.heap.size:=by
 by_cases a:D<w.heap.size
 ·exact a
 ·unfold Dg at h;rw[Array.getElem?_eq_none (by omega)] at h;cases h
theorem Dg.below(h:Dg w D d)(hb:zB w w'):Dg w' D d:=by
 have a:=h.lt;unfold Dg at *;rw[hb.block D a];exact h
theorem Dg.other(h:Dg w D d){G:Nat}(i:Nat)(u:Value)(hne:G≠D):Dg (w.setCell ⟨G,i,none⟩ u) D d:=by
 unfold Dg at *;simp only[World.setCell,Array.getElem?_modify];rw[if_neg hne];exact h
def updd(d:Nat→Int)(i:Nat)(v:Int):Nat→Int:=λk=>if k=i then v else d k
theorem Dg.set(h:Dg w D d)(i:Nat)(v:Int):Dg (w.setCell ⟨D,i,none⟩ (.int .u8 v)) D (updd d i v):=by
 unfold Dg at *;simp only[World.setCell,Array.getElem?_modify,h,if_true,Option.map_some]
 congr 2
 simp only[Option.isSome_none,Bool.false_eq_true,if_false];apply Array.ext';simp only[Array.toList_setIfInBounds];apply List.ext_getElem?;intro k;by_cases a:k<29
 ·by_cases e:k=i
  ·subst e;simp[updd,a]
  ·rw[List.getElem?_set_ne (by omega)];simp[updd,a,e]
 ·rw[List.getElem?_eq_none (by simp;omega),List.getElem?_eq_none (by simp;omega)]
def dsOf(d:Nat→Int)(t:Nat):List Int:=(List.range t).map λi=>d (29-t+i)
theorem dsOf_len(d:Nat→Int)(t:Nat):(dsOf d t).length=t:=by simp[dsOf]
theorem dsOf_upd(d:Nat→Int)(t:Nat)(v:Int)(ht:t<29):dsOf (updd d (28-t) v) (t+1)=v::dsOf d t:=by
 unfold dsOf;rw[List.range_succ_eq_map,List.map_cons,List.map_map]
 congr 1
 ·simp[updd]
 ·apply List.map_congr_left;intro i a;simp[updd]
  congr 1
  omega
theorem dg_new(w:World)(o:Obj):Dg ((w.alloc o).alloc (.cells ((List.range 29).map λ_=>Value.int .u8 0).toArray 192)) (w.heap.size+1) (λ_=>0):=by
 show ((w.heap.push o).push _)[w.heap.size+1]?=_;have:w.heap.size+1=(w.heap.push o).size:=by simp
 rw[this,Array.getElem?_push_size]
def ShowInv(V:Nat)(X:W3)(d:Nat→Int)(t:Nat):Prop:=
 (t=0∧X.val=V)∨(0<t∧X.val=0∧decL V=dsOf d t)∨(0<t∧0<X.val∧decL V=decL X.val.toNat++dsOf d t)
theorem show_more{V:Nat}{X:W3}{d:Nat→Int}{t:Nat}(hV:(V:Int)<top)(h:ShowInv V X d t)(hgo:t=0∨0<X.val)(hX:X.ok):
  t<29∧ShowInv V (overW X 10) (updd d (28-t) (48+overR X 10)) (t+1):=by
 have r:=over_val X 10;have q:=over_left (w:=X) 10 (by omega);have p:=(W3.bd (over_ok hX (d:=10) (by omega))).1;have e:=decL_len29 V hV
 have j:t<29:=by
  rcases h with⟨a,_⟩|⟨a,f,b⟩|⟨a,f,b⟩
  ·omega
  ·omega
  ·rw[b,List.length_append,dsOf_len] at e;have o:1≤(decL X.val.toNat).length:=(decL_len29 _ (by have:=(W3.bd hX).2;omega)).1;omega
 refine⟨j,?_⟩
 have i:decL V=decL X.val.toNat++dsOf d t:=by
  rcases h with⟨a,f⟩|⟨a,f,b⟩|⟨_,_,b⟩
  ·subst a;rw[f];simp[dsOf]
  ·omega
  ·exact b
 have c:=dsOf_upd d t (48+overR X 10) j;by_cases m:X.val<10
 ·right;left;have k:(overW X 10).val=0:=by omega
  have g:overR X 10=X.val:=by omega
  refine⟨by omega,k,?_⟩;rw[i,c,decL_one (by omega),g];have n:=(W3.bd hX).1;rw[show ((X.val.toNat:Nat):Int)=X.val by omega];rfl
 ·right;right;refine⟨by omega,by omega,?_⟩;rw[i,c,decL_more (by omega)];have g:X.val.toNat/10=(overW X 10).val.toNat:=by omega
  have l:((X.val.toNat%10:Nat):Int)=overR X 10:=by omega
  rw[g,l,List.append_assoc];rfl
theorem zero_iff{X:W3}(hX:X.ok):X.val=0↔X=⟨0,0,0⟩:=by
 obtain⟨⟨d,_⟩,⟨e,_⟩,f,_⟩:=hX;constructor
 ·intro h;unfold W3.val at h;obtain⟨a,b,c⟩:=X;simp only at *;have:a=0:=by omega
  have:b=0:=by omega
  have:c=0:=by omega
  subst_vars;rfl
 ·intro h;rw[h];rfl
def strOf(ns:List Int):ByteArray:=ns.foldl (λr n=>r.push (UInt8.ofNat n.toNat)) ByteArray.empty
theorem conv_ds(w:World)(D:Nat)(d:Nat→Int)(t:Nat)(ht:t≤29)(h:Dg w D d):
  (convert 195 9 (.slice (some ⟨D,29-t,none⟩) t t)).run Tryz.prog w=.ok (.string (strOf (dsOf d t))) w:=by
 rw[run_convert_bytes_string _ _ _ _ _ _ _ Tryz.underlying195 Tryz.underlying5 Tryz.underlying9,run_bytesToString _ _ _ _ (dsOf d t)]
 ·rfl
 ·have:=run_loadCells (P:=Tryz.prog) w ⟨D,29-t,none⟩ t (λi=> .int .u8 (d (29-t+i))) (λj a=>by rw[Addr.add_lit];exact h.cell (by omega));rw[this]
  congr 2
  simp[dsOf]
theorem slice_ds(D t:Nat)(w:World)(h0:0<t)(h1:t≤29):
  (Instr.sliceAt 192 (.pointer (some ⟨D,0,none⟩)) (some (zI ((29-t:Nat):Int))) none none).run Tryz.prog w=.ok (.slice (some ⟨D,29-t,none⟩) t t) w:=by
 have a:29-(29-t)=t:=by omega
 simp[Instr.sliceAt,Instr.sliceBounds,Instr.sliceBound,asIntOf,run_underlying Tryz.underlying192,go_sem,a];omega
theorem show_any(x:W3)(w:World)(hx:x.ok):
  Calls Tryz.prog 79 #[wv x] w λe w'=>e=.returned (.string (strOf (decL x.val.toNat)))∧zB w w':=by
 have a5:=W3.bd hx;have HX:Hid (x.ok):=hx;have a1:Hid (∀V W:Obj,zB w ((w.alloc V).alloc W)):=λV W=>bel2 w V W;clear hx;go_enter Tryz.func79,Tryz.ntmps79;go_wp2_with fail;go_loopw [4] (λv wr=>∃(t:Nat)(X:W3)(d:Nat→Int),t≤29∧v=zI ((29-t:Nat):Int)∧X.ok∧Wat wr w.heap.size X∧Dg wr (w.heap.size+1) d∧zB w wr∧ShowInv x.val.toNat X d t) (λv _=>(intOf v).toNat)
 case atStart=>exact⟨0,x,λ_=>0,by omega,rfl,HX.o,trio_a _ _ _ _ _,dg_new _ _,bel2 _ _ _,.inl ⟨rfl,by omega⟩⟩
 case round=>
  obtain⟨t,X,d,S,rfl,p,n,I,J,K⟩:=hrel;by_cases s:t=0∨0<X.val
  ·obtain⟨a0,hm⟩:=show_more (by omega) K s p;have Z:Hid (ShowInv x.val.toNat (overW X 10) (updd d (28-t) (48+overR X 10)) (t+1)):=hm;have U:=(zero_iff p)
   have A:Hid (Wat wr w.heap.size X):=n;have z:Hid (Dg wr (w.heap.size+1) d):=I;have l:Hid (zB w wr):=J;have c0:=n.c0;have c1:=n.c1;have c2:=n.c2;clear n I J K hm;have a2:((29-t:Nat):Int)-1=((28-t:Nat):Int):=by omega
   have a3:28-t<29:=by omega
   have Y:Hid (29-(t+1)=28-t):=(by omega:29-(t+1)=28-t)
   by_cases h0:t=0
   ·have F:(((29-t:Nat):Int)==29)=true:=by simp;omega
    have L:((29-t:Nat):Int)≤29:=by omega
    clear s U S;generalize 29-t=f at *;generalize 28-t=g at *;go_wp2_with fail;refine(over_any X 10 _ p (by omega) (by omega)).mono ?_;rintro e y ⟨rfl,j⟩;have M:=over_ok p (d:=10) (by omega);have R:=over_left (w:=X) 10 (by omega);have k:=A.o.below j;have D:=z.o.below j;have B:=l.o.trans (j.mono l.o.size);clear j c0 c1 c2;generalize overW X 10=Q at *;generalize overR X 10=r at *;have c0:=k.c0;have c1:=k.c1;have c2:=k.c2;have f0:=k.free 0;have f1:=k.free 1;have f2:=k.free 2;have E:=k.put (.int .u32 Q.a) (.int .u32 Q.b) (.int .u32 Q.c);have m:=((D.other (G:=w.heap.size) 0 (.int .u32 Q.a) (by omega)).other (G:=w.heap.size) 1 (.int .u32 Q.b) (by omega)).other (G:=w.heap.size) 2 (.int .u32 Q.c) (by omega);have C:=below_put3 B w.heap.size (.int .u32 Q.a) (.int .u32 Q.b) (.int .u32 Q.c) zc;have d1:=m.cell (i:=g) (by omega);have d2:=m.free g;have A:Hid (Wat ((put3 y w.heap.size (.int .u32 Q.a) (.int .u32 Q.b) (.int .u32 Q.c)).setCell ⟨w.heap.size+1,g,none⟩ (.int .u8 (48+r))) w.heap.size Q):=E.other _ _ (by omega);have z:Hid (Dg ((put3 y w.heap.size (.int .u32 Q.a) (.int .u32 Q.b) (.int .u32 Q.c)).setCell ⟨w.heap.size+1,g,none⟩ (.int .u8 (48+r))) (w.heap.size+1) (updd d g (48+r))):=m.set _ _;have l:Hid (zB w ((put3 y w.heap.size (.int .u32 Q.a) (.int .u32 Q.b) (.int .u32 Q.c)).setCell ⟨w.heap.size+1,g,none⟩ (.int .u8 (48+r)))):=below_set C _ _ _ (by omega);clear k D B E m C;obtain⟨r0,r1⟩:=R;generalize d g=dd at *;go_wp2_with fail;go_roundw
    case rel=>exact⟨t+1,Q,_,by omega,by rw[Y.o],M,A.o,z.o,l.o,Z.o⟩
    case measure=>simp[intOf];omega
   ·have P:X≠⟨0,0,0⟩:=λe=>by have:=U.2 e;omega
    have q:=eq3_other P;have F:(((29-t:Nat):Int)==29)=false:=by simp;omega
    have L:((29-t:Nat):Int)≤29:=by omega
    clear s U;generalize 29-t=f at *;generalize 28-t=g at *;go_wp2_with fail;refine(over_any X 10 _ p (by omega) (by omega)).mono ?_;rintro e y ⟨rfl,j⟩;have M:=over_ok p (d:=10) (by omega);have R:=over_left (w:=X) 10 (by omega);have k:=A.o.below j;have D:=z.o.below j;have B:=l.o.trans (j.mono l.o.size);clear j c0 c1 c2;generalize overW X 10=Q at *;generalize overR X 10=r at *;have c0:=k.c0;have c1:=k.c1;have c2:=k.c2;have f0:=k.free 0;have f1:=k.free 1;have f2:=k.free 2;have E:=k.put (.int .u32 Q.a) (.int .u32 Q.b) (.int .u32 Q.c);have m:=((D.other (G:=w.heap.size) 0 (.int .u32 Q.a) (by omega)).other (G:=w.heap.size) 1 (.int .u32 Q.b) (by omega)).other (G:=w.heap.size) 2 (.int .u32 Q.c) (by omega);have C:=below_put3 B w.heap.size (.int .u32 Q.a) (.int .u32 Q.b) (.int .u32 Q.c) zc;have d1:=m.cell (i:=g) (by omega);have d2:=m.free g;have A:Hid (Wat ((put3 y w.heap.size (.int .u32 Q.a) (.int .u32 Q.b) (.int .u32 Q.c)).setCell ⟨w.heap.size+1,g,none⟩ (.int .u8 (48+r))) w.heap.size Q):=E.other _ _ (by omega);have z:Hid (Dg ((put3 y w.heap.size (.int .u32 Q.a) (.int .u32 Q.b) (.int .u32 Q.c)).setCell ⟨w.heap.size+1,g,none⟩ (.int .u8 (48+r))) (w.heap.size+1) (updd d g (48+r))):=m.set _ _;have l:Hid (zB w ((put3 y w.heap.size (.int .u32 Q.a) (.int .u32 Q.b) (.int .u32 Q.c)).setCell ⟨w.heap.size+1,g,none⟩ (.int .u8 (48+r)))):=below_set C _ _ _ (by omega);clear k D B E m C;obtain⟨r0,r1⟩:=R;generalize d g=dd at *;go_wp2_with fail;go_roundw
    case rel=>exact⟨t+1,Q,_,by omega,by rw[Y.o],M,A.o,z.o,l.o,Z.o⟩
    case measure=>simp[intOf];omega
  ·have T:0<t:=by omega
   have H:X.val=0:=by have:=(W3.bd p).1;omega
   have N:=(zero_iff p).1 H
   have u:decL x.val.toNat=dsOf d t:=by
    rcases K with h|⟨_,_,h⟩|h
    ·omega
    ·exact h
    ·omega
   subst N;have c0:=n.c0;have c1:=n.c1;have c2:=n.c2;have q:=eq3_same ⟨0,0,0⟩;have F:(((29-t:Nat):Int)==29)=false:=by simp;omega
   have a4:=slice_ds (w.heap.size+1) t wr T S;have O:=conv_ds wr (w.heap.size+1) d t S I;rw[← u] at O;have l:Hid (zB w wr):=J;clear K s H u n I J p;go_wp2_with fail;go_ret;exact⟨rfl,l.o⟩
end words
end Go.Proofs.YtoepgdhiepedeaaGreatDoor
