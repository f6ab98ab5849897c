/- Texts that are keyed in pieces: plain facts, and what stays as it is. -/
import Derived.Test.YtkobdkkgkpgcbaaDoorKpChr
import Derived.Maps.AppendAt
namespace Go.Proofs.YtkobdkkgkpgcbaaDoor.keypad
open Go.Proofs.YtkobdkkgkpgcbaaDoor.check
open Go.RowKit

theorem after7 (p : Pad) : (entAll p [55, 35]).length = 1 ∧ padAll p [55, 35] = noPad := by
  refine ⟨?_, rfl⟩
  have e1 : entAll p [55, 35] = ents p 55 ++ (ents (pad p 55) 35 ++ []) := rfl
  have e2 : ents p 55 = [] := rfl
  have e3 : ents (pad p 55) 35 = ended (pad p 55) := rfl
  rw [e1, e2, e3, List.nil_append, List.append_nil]
  have hk : keyD 55 = 7 := by decide
  unfold pad
  rw [hk, if_pos (by decide)]
  by_cases h : p.d.size = 30
  · rw [if_pos h]; rfl
  · rw [if_neg h]
    unfold ended
    have hz : (p.d ++ one 7).size ≠ 0 := by rw [ByteArray.size_append, one_size 7 (by decide) (by decide)]; omega
    cases p.b
    · simp only [Bool.false_eq_true, if_false]; rw [if_neg hz]; rfl
    · simp

theorem Lies.offN {w : World} {base G : Nat} {v : Value} {l : List Ent} (h : Lies w base v l) (hG : some G ≠ v.ownBlock) (s : ByteArray) (b : Bool) : Lies (setP w G s b) base v l := by
  refine ⟨h.1, ?_⟩
  rcases h.2 with hn | ⟨g, cap, cur, hv, hg, hc, rest⟩
  · exact .inl hn
  · refine .inr ⟨g, cap, cur, hv, hg, Blk.offP hc (fun e => hG ?_) s b, rest⟩
    rw [hv, e]; rfl
theorem Chs.offN {w : World} {base G : Nat} {v : Value} {l : List Int} (h : Chs w base v l) (hG : some G ≠ v.ownBlock) (s : ByteArray) (b : Bool) : Chs (setP w G s b) base v l := by
  refine ⟨h.1, ?_⟩
  rcases h.2 with hn | ⟨g, cap, cur, hv, hg, hc, rest⟩
  · exact .inl hn
  · refine .inr ⟨g, cap, cur, hv, hg, Blk.offP hc (fun e => hG ?_) s b, rest⟩
    rw [hv, e]; rfl
theorem grown_blkN {w w' : World} {G : Nat} {row : Option Nat} {cs : Array Value} {t : TypeId} (hg : w.grownBy w' row) (hb : Blk w G cs t) (hne : some G ≠ row) : Blk w' G cs t := by
  have hl := hb.lt
  unfold Blk at *
  rw [hg.block G hl hne]; exact hb
theorem Chs.mono {w : World} {base base' : Nat} {v : Value} {l : List Int} (h : Chs w base v l) (hb : base' ≤ base) : Chs w base' v l := by
  refine ⟨h.1, ?_⟩
  rcases h.2 with hn | ⟨g, cap, cur, hv, hg, rest⟩
  · exact .inl hn
  · exact .inr ⟨g, cap, cur, hv, by omega, rest⟩
/-- Two values do not share a block. -/
def Apart (v u : Value) : Prop := ∀ k, v.ownBlock = some k → u.ownBlock ≠ some k
theorem Apart.kept {v u : Value} (h : Apart v u) : u.ownBlock = none ∨ u.ownBlock ≠ v.ownBlock := by
  cases hu : u.ownBlock with
  | none => exact .inl rfl
  | some k => exact .inr (fun e => h k e.symm hu)

/-- Two slices of entries: the second is put behind the first; where the first lies then. -/
theorem wp_app2 {w : World} {ops : Array Oper} {rest : List Oper} {o : Oper} {a : Act} {Q : Exit → Act → World → Prop} (hgd : o.guard = none) (s x : Operand)
    (ho : o.op = .call { callee := .builtin .append, args := #[s, x], argTypes := #[24, 24] })
    (base base2 : Nat) (v u : Value) (l m : List Ent) (hs : a.eval s = v) (hx : a.eval x = u) (hv : Lies w base v l) (hu : Lies w base2 u m) (hn : l.length + m.length ≤ 1000000) (hbase : base ≤ w.heap.size)
    (h : ∀ v' w', Lies w' base v' (l ++ m) → w.grownBy w' v.ownBlock → (v'.ownBlock = v.ownBlock ∨ v'.ownBlock = some w.heap.size) → wpList Tryd.prog ops Q rest (a.put o.dst v') w') : wpList Tryd.prog ops Q (o :: rest) a w := by
  obtain ⟨i0, hi, hz0, hz1, hz2⟩ := info_parts info_ent
  rcases hu.2 with ⟨rfl, hm⟩ | ⟨g, cap, cur, rfl, _, hc, _⟩
  · have hm0 : m = [] := List.eq_nil_of_length_eq_zero hm
    subst hm0
    refine wpList_append_own_none hgd s x 24 ho base 40 i0 2 Tryd.underlying24 hi v l.length (cellsE l) hs hv hx ?_
    exact h v w (by rw [List.append_nil]; exact hv) ⟨rfl, rfl, rfl, Nat.le_refl _, fun _ _ _ => rfl⟩ (.inl rfl)
  · refine wpList_append_own_at w hgd s x 24 ho base 40 i0 (.agg #[.string ⟨#[]⟩, .int .i64 0]) 2 24 Tryd.underlying24 hi hz0 hz1 hz2 rfl (by decide) v l.length (cellsE l) hs hv ⟨g, 0, none⟩ m.length cap (cellsE m) hx (cellsE_len m) (World.ownsRow.cells hu rfl) (oneE m) (by unfold maxLen; omega) (by omega) hbase ?_
    intro v' w' h1 h2 _ h4
    refine h v' w' ?_ h2 h4
    unfold Lies
    rw [List.length_append, cellsE_app]
    exact h1

/-- While the second text is keyed: k of its characters are. -/
structure Pst (w wr : World) (P Q : Nat) (va vb v4 V : Value) (ra rb : List Int) (k : Nat) : Prop where
  below : Below w.heap.size w wr
  pb : Blk wr P #[.string (padAll noPad (ra ++ rb.take k)).d, .bool (padAll noPad (ra ++ rb.take k)).b] 23
  qb : Blk wr Q #[.string (padAll noPad (ra ++ rb)).d, .bool (padAll noPad (ra ++ rb)).b] 23
  a : Chs wr w.heap.size va ra
  b : Chs wr w.heap.size vb rb
  al : Lies wr w.heap.size v4 (entAll noPad (ra ++ rb))
  got : Lies wr w.heap.size V (entAll noPad (ra ++ rb.take k))
  pP : some P ≠ V.ownBlock ∧ some P ≠ va.ownBlock ∧ some P ≠ vb.ownBlock ∧ some P ≠ v4.ownBlock
  pQ : some Q ≠ V.ownBlock ∧ P ≠ Q
  ap : Apart V va ∧ Apart V vb ∧ Apart V v4
  hP : w.heap.size ≤ P

/-- Behind a key of it: what it made lies at N and v2. -/
structure Mid (w W : World) (P Q N : Nat) (va vb v4 V v2 : Value) (ra rb : List Int) (es all ex : List Ent) (p q x : Pad) : Prop where
  below : Below w.heap.size w W
  pb : Blk W P #[.string p.d, .bool p.b] 23
  qb : Blk W Q #[.string q.d, .bool q.b] 23
  nb : Blk W N #[.string x.d, .bool x.b] 23
  a : Chs W w.heap.size va ra
  b : Chs W w.heap.size vb rb
  al : Lies W w.heap.size v4 all
  got : Lies W w.heap.size V es
  ex : Lies W w.heap.size v2 ex
  nV : some N ≠ V.ownBlock

theorem Pst.next {w W w4 : World} {P Q N : Nat} {va vb v4 V v2 v' : Value} {ra rb : List Int} {k : Nat} {ex : List Ent} {x : Pad} {wr : World} (h : Pst w wr P Q va vb v4 V ra rb k) (hk : k < rb.length)
    (m : Mid w W P Q N va vb v4 V v2 ra rb (entAll noPad (ra ++ rb.take k)) (entAll noPad (ra ++ rb)) ex (padAll noPad (ra ++ rb.take k)) (padAll noPad (ra ++ rb)) x)
    (hx : x = pad (padAll noPad (ra ++ rb.take k)) rb[k]) (hex : ex = ents (padAll noPad (ra ++ rb.take k)) rb[k])
    (hL : Lies w4 w.heap.size v' (entAll noPad (ra ++ rb.take k) ++ ex)) (hg : W.grownBy w4 V.ownBlock) (ho : v'.ownBlock = V.ownBlock ∨ v'.ownBlock = some W.heap.size) :
    Pst w (setP w4 P x.d x.b) P Q va vb v4 v' ra rb (k + 1) := by
  have e : ra ++ rb.take (k + 1) = (ra ++ rb.take k) ++ [rb[k]] := by rw [List.take_succ_eq_append_getElem hk, List.append_assoc]
  have hPl := m.pb.lt
  have hQl := m.qb.lt
  have lta : ∀ j, va.ownBlock = some j → j < W.heap.size := fun j hj => (World.ownsRow.lt m.a j hj).2
  have ltb : ∀ j, vb.ownBlock = some j → j < W.heap.size := fun j hj => (World.ownsRow.lt m.b j hj).2
  have lt4 : ∀ j, v4.ownBlock = some j → j < W.heap.size := fun j hj => (World.ownsRow.lt m.al j hj).2
  have pV' : ∀ G, G < W.heap.size → some G ≠ V.ownBlock → some G ≠ v'.ownBlock := fun G hG hne e => by
    rcases ho with h1 | h1
    · exact hne (e.trans h1)
    · rw [h1] at e; cases e; omega
  have ap' : ∀ u : Value, (∀ j, u.ownBlock = some j → j < W.heap.size) → Apart V u → Apart v' u := fun u hu hA j hj hj2 => by
    rcases ho with h1 | h1
    · exact hA j (h1 ▸ hj) hj2
    · rw [h1] at hj; cases hj; have := hu _ hj2; omega
  have bW : w.heap.size ≤ W.heap.size := m.below.size
  refine ⟨?_, ?_, ?_, ?_, ?_, ?_, ?_, ?_, ?_, ?_, h.hP⟩
  · refine bel_setP ?_ _ _ _ h.hP
    refine ⟨hg.os.trans m.below.os, hg.tape.trans m.below.tape, hg.output.trans m.below.output, Nat.le_trans m.below.size hg.size, fun j hj => ?_⟩
    rw [← m.below.block j hj]
    exact hg.block j (by omega) (m.got.far (by omega))
  · rw [e, padAll_snoc, ← hx]
    exact Blk.putP (grown_blkN hg m.pb h.pP.1) _ _
  · exact Blk.offP (grown_blkN hg m.qb h.pQ.1) h.pQ.2 _ _
  · exact Chs.offN (World.ownsRow.kept m.a hg h.ap.1.kept) h.pP.2.1 _ _
  · exact Chs.offN (World.ownsRow.kept m.b hg h.ap.2.1.kept) h.pP.2.2.1 _ _
  · exact Lies.offN (World.ownsRow.kept m.al hg h.ap.2.2.kept) h.pP.2.2.2 _ _
  · rw [e, entAll_snoc, ← hex]
    exact Lies.offN hL (pV' P hPl h.pP.1) _ _
  · exact ⟨pV' P hPl h.pP.1, h.pP.2⟩
  · exact ⟨pV' Q hQl h.pQ.1, h.pQ.2⟩
  · exact ⟨ap' va lta h.ap.1, ap' vb ltb h.ap.2.1, ap' v4 lt4 h.ap.2.2⟩

/-- A key was pressed, and then room was made for what it gave. -/
theorem Mid.pressA {w wr w2 : World} {P Q gb k n cb : Nat} {va v4 V v2 : Value} {ra rb : List Int} {es all ex : List Ent} {p q : Pad} {r : Int}
    (m : Mid w wr P Q P va (.slice (some ⟨gb, 0, none⟩) n cb) v4 V (.slice none 0 0) ra rb es all [] p q p) (hc : wr.cell? ⟨gb, k, none⟩ = some (.int .i32 r))
    (hL : Lies w2 wr.drew.heap.size v2 ex) (hb : Below wr.drew.heap.size wr.drew w2) :
    (w2.cell? ⟨P, 0, none⟩ = some (.string p.d) ∧ w2.cell? ⟨P, 1, none⟩ = some (.bool p.b) ∧ w2.cell? ⟨gb, k, none⟩ = some (.int .i32 r)) ∧
    (∀ o : Obj, (w2.alloc o).cell? ⟨P, 0, none⟩ = some (.string p.d) ∧ (w2.alloc o).cell? ⟨P, 1, none⟩ = some (.bool p.b) ∧ (w2.alloc o).cell? ⟨gb, k, none⟩ = some (.int .i32 r)) ∧
    (∀ x : Pad, Mid w (w2.alloc (.cells #[.string x.d, .bool x.b] 23)) P Q w2.heap.size va (.slice (some ⟨gb, 0, none⟩) n cb) v4 V v2 ra rb es all ex p q x) := by
  have hP2 : Blk w2 P #[.string p.d, .bool p.b] 23 := Blk.next (w := wr.drew) m.pb hb
  have hQ2 : Blk w2 Q #[.string q.d, .bool q.b] 23 := Blk.next (w := wr.drew) m.qb hb
  have hc2 : w2.cell? ⟨gb, k, none⟩ = some (.int .i32 r) := by
    rw [hb.cell (p := ⟨gb, k, none⟩) (World.block_lt_of_cell? wr.drew _ hc)]; exact hc
  have hB2 : Below w.heap.size w w2 := bel_step (w := wr.drew) (bel_drew1 m.below) hb
  refine ⟨⟨hP2.cell 0, hP2.cell 1, hc2⟩, fun o => ⟨(hP2.alloc o).cell 0, (hP2.alloc o).cell 1, ?_⟩, fun x => ?_⟩
  · rw [World.cell?_alloc_lt w2 _ _ (World.block_lt_of_cell? w2 _ hc2)]; exact hc2
  · refine ⟨hB2.alloc hB2.size _, hP2.alloc _, hQ2.alloc _, Blk.new _ _ _, (Chs.next (w := wr.drew) m.a hb).alloc _, (Chs.next (w := wr.drew) m.b hb).alloc _, (Lies.next (w := wr.drew) m.al hb).alloc _, (Lies.next (w := wr.drew) m.got hb).alloc _, (hL.alloc _).mono m.below.size, ?_⟩
    intro e
    have := (World.ownsRow.lt m.got _ e.symm).2
    have h2 : wr.heap.size ≤ w2.heap.size := hb.size
    omega
/-- Room was made, and then a key was pressed. -/
theorem Mid.pressB {w wr w2 : World} {P Q gb k n cb : Nat} {va v4 V v2 : Value} {ra rb : List Int} {es all ex : List Ent} {p q : Pad} {r : Int}
    (m : Mid w wr P Q P va (.slice (some ⟨gb, 0, none⟩) n cb) v4 V (.slice none 0 0) ra rb es all [] p q p) (hc : wr.cell? ⟨gb, k, none⟩ = some (.int .i32 r))
    (hL : Lies w2 (wr.alloc (.cells #[.string ⟨#[]⟩, .bool false] 23)).drew.heap.size v2 ex) (hb : Below (wr.alloc (.cells #[.string ⟨#[]⟩, .bool false] 23)).drew.heap.size (wr.alloc (.cells #[.string ⟨#[]⟩, .bool false] 23)).drew w2) :
    (w2.cell? ⟨P, 0, none⟩ = some (.string p.d) ∧ w2.cell? ⟨P, 1, none⟩ = some (.bool p.b) ∧ w2.cell? ⟨gb, k, none⟩ = some (.int .i32 r)) ∧
    (∀ x : Pad, (setP w2 wr.heap.size x.d x.b).cell? ⟨P, 0, none⟩ = some (.string p.d) ∧ (setP w2 wr.heap.size x.d x.b).cell? ⟨P, 1, none⟩ = some (.bool p.b) ∧ (setP w2 wr.heap.size x.d x.b).cell? ⟨gb, k, none⟩ = some (.int .i32 r)) ∧
    (∀ x : Pad, Mid w (setP w2 wr.heap.size x.d x.b) P Q wr.heap.size va (.slice (some ⟨gb, 0, none⟩) n cb) v4 V v2 ra rb es all ex p q x) ∧
    Blk w2 wr.heap.size #[.string ⟨#[]⟩, .bool false] 23 := by
  obtain ⟨W, hW⟩ : ∃ W, W = (wr.alloc (.cells #[.string ⟨#[]⟩, .bool false] 23)).drew := ⟨_, rfl⟩
  have hWz : W.heap.size = wr.heap.size + 1 := by rw [hW]; show (wr.alloc _).heap.size = _; simp
  have hWP : Blk W P #[.string p.d, .bool p.b] 23 := by rw [hW]; exact m.pb.alloc _
  have hWQ : Blk W Q #[.string q.d, .bool q.b] 23 := by rw [hW]; exact m.qb.alloc _
  have hWN : Blk W wr.heap.size #[.string ⟨#[]⟩, .bool false] 23 := by rw [hW]; exact Blk.new _ _ _
  have hlc := World.block_lt_of_cell? wr _ hc
  have hWc : W.cell? ⟨gb, k, none⟩ = some (.int .i32 r) := by
    rw [hW]
    show (wr.alloc _).cell? _ = _
    rw [World.cell?_alloc_lt wr _ _ hlc]; exact hc
  have hWB : Below w.heap.size w W := by rw [hW]; exact bel_drew1 (m.below.alloc m.below.size _)
  have hWa : Chs W w.heap.size va ra := by rw [hW]; exact m.a.alloc _
  have hWb : Chs W w.heap.size (.slice (some ⟨gb, 0, none⟩) n cb) rb := by rw [hW]; exact m.b.alloc _
  have hW4 : Lies W w.heap.size v4 all := by rw [hW]; exact m.al.alloc _
  have hWg : Lies W w.heap.size V es := by rw [hW]; exact m.got.alloc _
  rw [← hW] at hL hb
  clear hW
  have hP2 := hWP.next hb
  have hQ2 := hWQ.next hb
  have hN2 := hWN.next hb
  have hc2 : w2.cell? ⟨gb, k, none⟩ = some (.int .i32 r) := by
    rw [hb.cell (p := ⟨gb, k, none⟩) (World.block_lt_of_cell? W _ hWc)]; exact hWc
  have hB2 := bel_step hWB hb
  have lP := m.pb.lt
  have lQ := m.qb.lt
  have nG : ∀ u : Value, (∀ j, u.ownBlock = some j → j < wr.heap.size) → some wr.heap.size ≠ u.ownBlock := fun u hu e => by have := hu _ e.symm; omega
  have na := nG va (fun j hj => (World.ownsRow.lt m.a j hj).2)
  have nb := nG (.slice (some ⟨gb, 0, none⟩) n cb) (fun j hj => (World.ownsRow.lt m.b j hj).2)
  have n4 := nG v4 (fun j hj => (World.ownsRow.lt m.al j hj).2)
  have nV := nG V (fun j hj => (World.ownsRow.lt m.got j hj).2)
  have n2 : some wr.heap.size ≠ v2.ownBlock := fun e => by have := (World.ownsRow.lt hL _ e.symm).1; omega
  refine ⟨⟨hP2.cell 0, hP2.cell 1, hc2⟩, fun x => ⟨(Blk.offP hP2 (by omega) x.d x.b).cell 0, (Blk.offP hP2 (by omega) x.d x.b).cell 1, ?_⟩, fun x => ?_, hN2⟩
  · have hne : wr.heap.size ≠ gb := by have : gb < wr.heap.size := hlc; omega
    unfold setP
    rw [← hc2]
    simp only [World.cell?, World.setCell, Array.getElem?_modify]
    rw [if_neg hne, if_neg hne]
  · exact ⟨bel_setP hB2 _ _ _ m.below.size, Blk.offP hP2 (by omega) _ _, Blk.offP hQ2 (by omega) _ _, Blk.putP hN2 _ _, Chs.offN (hWa.next hb) na _ _, Chs.offN (hWb.next hb) nb _ _, Lies.offN (hW4.next hb) n4 _ _, Lies.offN (hWg.next hb) nV _ _, (Lies.offN hL n2 _ _).mono hWB.size, nV⟩

end Go.Proofs.YtkobdkkgkpgcbaaDoor.keypad
