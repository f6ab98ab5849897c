/- Nothing verifies that was not issued. -/
import Derived.Test.YtllnafjfbmhimaaOrM
import Derived.Test.YtllnafjfbmhimaaOrK
namespace Go.Proofs.Ytllnafjfbmhimaa.ora
open Go.RowKit Go.Proofs.Ytllnafjfbmhimaa.check
set_option maxRecDepth 100000
set_option linter.unusedVariables false

/-- An oracle in its block, that may be. -/
structure Ob (w wr : World) (G : Nat) (a : Option Addr) (n cap : Nat) (l : List Pr) (k : Nat) : Prop where
  bc : Bc w wr G a n cap l
  may : May l
  few : l.length ≤ k
theorem Ob.next {w wr w' : World} {G : Nat} {a : Option Addr} {n cap k : Nat} {l : List Pr} (h : Ob w wr G a n cap l k) (hb : Below wr.heap.size wr w') : Ob w w' G a n cap l k := ⟨h.bc.next hb, h.may, h.few⟩
theorem Ob.alloc {w wr : World} {G : Nat} {a : Option Addr} {n cap k : Nat} {l : List Pr} (h : Ob w wr G a n cap l k) (o : Obj) : Ob w (wr.alloc o) G a n cap l k := h.next ((Below.refl _ _).alloc (Nat.le_refl _) _)
/-- Issuing goes well. -/
def Issued (w : World) (l : List Pr) (p : Pr) (k : Nat) (e : Ending) (w' : World) : Prop :=
  ∃ a' n' cap' ls x, e = .returned (.tuple #[.agg #[.slice a' n' cap'], .int .i64 x, .int .i64 0]) ∧ Came w' a' n' cap' ls ∧ May ls ∧ ls.length ≤ l.length + 1 ∧ l.length ≤ ls.length ∧ 0 ≤ x ∧ x ≤ 65535 ∧ (∃ i, At ls p.m p.r p.b i ∧ (ls.getD i pr0).t = x) ∧
    (∀ m' r' b', ¬ (m' = p.m ∧ r' = p.r ∧ b' = p.b) → (∀ i, At l m' r' b' i → At ls m' r' b' i ∧ ls.getD i pr0 = l.getD i pr0) ∧ (No l m' r' b' → No ls m' r' b')) ∧ ((∃ i, At l p.m p.r p.b i) → ls = l) ∧ Below w.heap.size w w'
theorem OKit.issued (K : OKit) {w wr : World} {G : Nat} {a : Option Addr} {n cap k : Nat} {l : List Pr} (h : Ob w wr G a n cap l k) (hk : k < 500) (p : Pr) (hp : p.may) :
    Calls Try.prog 12 #[.agg #[.slice a n cap], .int .i64 p.m, .int .i64 p.r, .int .i64 p.b, .int .i64 p.t] wr fun e w' => Issued wr l p k e w' :=
  (K.issue wr a n cap l p.m p.r p.b p.t h.bc.came.row h.bc.came.nil h.bc.came.le).mono fun e w' ⟨a', n', cap', ls, x, c, he, hr, hnil, hle, hi, hb⟩ => by
    obtain ⟨rfl, h2, h3, h4, h5, h6, h7, h8, h9⟩ := hi.ok h.may hp (by have := h.few; omega)
    refine ⟨a', n', cap', ls, x, he, ⟨hr, hnil, hle, ?_⟩, h2, h3, h4, h5, h6, h7, h8, h9, hb⟩
    have := h2.few; have := hr.1; omega

/-- A box is written: no pair lies in it. -/
theorem PrAt.box {w : World} {b o G : Nat} {p : Pr} {x : Option Addr} {y z : Nat} {t : TypeId} (h : PrAt w b o p) (hB : Blk w G #[.slice x y z] t) (v : Value) : PrAt (w.setCell ⟨G, 0, none⟩ v) b o p := by
  have hne : b ≠ G := by
    intro e
    subst e
    have h1 := h.1
    rw [hB.cell o] at h1
    cases o with
    | zero => simp at h1
    | succ o => simp at h1
  have hc : ∀ i, (w.setCell ⟨G, 0, none⟩ v).cell? ⟨b, i, none⟩ = w.cell? ⟨b, i, none⟩ := fun i => World.cell?_of_block (w := w) (by simp only [World.setCell, Array.getElem?_modify]; rw [if_neg (fun e => hne e.symm)])
  unfold PrAt
  rw [hc, hc, hc, hc]; exact h
theorem RowP.box {w : World} {a : Option Addr} {n G : Nat} {l : List Pr} {x : Option Addr} {y z : Nat} {t : TypeId} (h : RowP w a n l) (hB : Blk w G #[.slice x y z] t) (v : Value) : RowP (w.setCell ⟨G, 0, none⟩ v) a n l := by
  refine ⟨h.1, ?_⟩
  rcases h.2 with h0 | ⟨b, off, rfl, hc⟩
  · exact .inl h0
  · exact .inr ⟨b, off, rfl, fun i hi => (hc i hi).box hB v⟩
/-- Another oracle is put into the box. -/
theorem Ob.put {w wr : World} {G : Nat} {a a' : Option Addr} {n cap k n' cap' k' : Nat} {l ls : List Pr} (h : Ob w wr G a n cap l k) (hG : w.heap.size ≤ G) (hc : Came wr a' n' cap' ls) (hm : May ls) (hk : ls.length ≤ k') : Ob w (wr.setCell ⟨G, 0, none⟩ (.slice a' n' cap')) G a' n' cap' ls k' :=
  ⟨⟨h.bc.box.set 0 _, ⟨hc.row.box h.bc.box _, hc.nil, hc.le, hc.small⟩, bel_set h.bc.bel _ _ _ hG⟩, hm, hk⟩
set_option maxHeartbeats 4000000 in
theorem only_walk (K : OKit) (a0 : Option Addr) (len0 cap0 : Nat) (z0 : List Pr) (x y z u : Int) (w : World) (hr : RowA w a0 len0 z0) (hx : (Lit.int .i64 x).wf = true) (hy : (Lit.int .i64 y).wf = true) (hz : (Lit.int .i64 z).wf = true) (hu : (Lit.int .i64 u).wf = true) :
    Calls Try.prog 6 #[.slice a0 len0 cap0, .agg #[.int .i64 x, .int .i64 y, .int .i64 z, .int .i64 u]] w fun e w' => e = .returned (.bool true) ∧ Below w.heap.size w w' := by
  have HK : Hid OKit := K
  have HR : Hid (RowA w a0 len0 z0) := hr
  have HAK : Hid (∀ W q, wfP q → Calls Try.prog 16 #[.agg #[.int .i64 q.m, .int .i64 q.r, .int .i64 q.b, .int .i64 q.t]] W fun e w' => e = .returned (.agg #[.int .i64 (ask q.m q.r q.b q.t).m, .int .i64 (ask q.m q.r q.b q.t).r, .int .i64 (ask q.m q.r q.b q.t).b, .int .i64 (ask q.m q.r q.b q.t).t]) ∧ Below W.heap.size W w') := fun W q hq => asked_any _ _ _ _ W hq.1 hq.2.1 hq.2.2.1 hq.2.2.2
  have HA0 : Hid (∀ W, Calls Try.prog 16 #[.agg #[.int .i64 x, .int .i64 y, .int .i64 z, .int .i64 u]] W fun e w' => e = .returned (.agg #[.int .i64 (ask x y z u).m, .int .i64 (ask x y z u).r, .int .i64 (ask x y z u).b, .int .i64 (ask x y z u).t]) ∧ Below W.heap.size W w') := fun W => asked_any x y z u W hx hy hz hu
  have HPM : Hid ((ask x y z u).may) := ask_may x y z u
  clear K hr hx hy hz hu
  generalize ask x y z u = p at *
  have hB := Blk.new w #[.int .i64 x, .int .i64 y, .int .i64 z, .int .i64 u] 34
  have hB' := hB.alloc (.cells #[.slice none 0 0] 24)
  have c0 := hB'.cell 0
  have c1 := hB'.cell 1
  have c2 := hB'.cell 2
  have c3 := hB'.cell 3
  have hs1 : (w.alloc (.cells #[.int .i64 x, .int .i64 y, .int .i64 z, .int .i64 u] 34)).heap.size = w.heap.size + 1 := by simp
  have HO0 : Hid (Ob w ((w.alloc (.cells #[.int .i64 x, .int .i64 y, .int .i64 z, .int .i64 u] 34)).alloc (.cells #[.slice none 0 0] 24)) (w.heap.size + 1) none 0 0 [] 0) := by
    have := Bc.new (w := w) (wr := w.alloc (.cells #[.int .i64 x, .int .i64 y, .int .i64 z, .int .i64 u] 34)) (a := none) (n := 0) (cap := 0) (l := []) ⟨RowP.nil _ _, fun _ => rfl, Nat.le_refl _, by decide⟩ ((Below.refl _ _).alloc (Nat.le_refl _) _)
    rw [hs1] at this
    exact ⟨this, May.nil, Nat.le_refl _⟩
  clear hB hB' hs1
  go_enter Try.func6, Try.ntmps6
  go_wp2_with fail
  refine (HA0.out _).mono ?_
  rintro e w1 ⟨rfl, hb1⟩
  have HO1 : Hid (Ob w (w1.alloc (.cells #[.int .i64 p.m, .int .i64 p.r, .int .i64 p.b, .int .i64 p.t] 34)) (w.heap.size + 1) none 0 0 [] 0) := (HO0.out.next hb1).alloc _
  have HP1 : Hid (Blk (w1.alloc (.cells #[.int .i64 p.m, .int .i64 p.r, .int .i64 p.b, .int .i64 p.t] 34)) w1.heap.size #[.int .i64 p.m, .int .i64 p.r, .int .i64 p.b, .int .i64 p.t] 34) := Blk.new _ _ _
  have HGP : Hid (w.heap.size + 2 ≤ w1.heap.size) := Nat.le_trans HO0.out.bc.box.lt hb1.size
  have HPR : Hid ((0 ≤ p.m ∧ p.m ≤ 49) ∧ (0 ≤ p.r ∧ p.r ≤ 15) ∧ (0 ≤ p.b ∧ p.b ≤ 8796093022207) ∧ (0 ≤ p.t ∧ p.t ≤ 65535)) := HPM.out
  clear hb1 c0 c1 c2 c3 HO0 HA0 HPM
  obtain ⟨pm, pr, pb, pt⟩ := p
  go_wp2_with fail
  generalize w1.alloc (.cells #[.int .i64 pm, .int .i64 pr, .int .i64 pb, .int .i64 pt] 34) = W1 at *
  generalize w1.heap.size = gp at *
  go_loopw [7, 8] (fun v7 j wr => ∃ (k : Nat) (tg : Int) (l : List Pr) (ao : Option Addr) (no co : Nat), v7 = .int .i64 tg ∧ j = .int .i64 (k : Int) ∧ k ≤ 100 ∧ k ≤ len0 ∧ Hid ((No l pm pr pb ∧ tg = -1) ∨ (∃ i, At l pm pr pb i ∧ (l.getD i pr0).t = tg)) ∧ Ob w wr (w.heap.size + 1) ao no co l k ∧ Blk wr gp #[.int .i64 pm, .int .i64 pr, .int .i64 pb, .int .i64 pt] 34) (fun _ j _ => 100 - (intOf j).toNat)
  case atStart => exact ⟨0, -1, [], none, 0, 0, rfl, rfl, Nat.zero_le _, Nat.zero_le _, .inl ⟨fun j hj => by simp at hj, rfl⟩, HO1.out, HP1.out⟩
  case round =>
    obtain ⟨k, tg, l, ao, no, co, rfl, rfl, hk, hkl, HT, hob, hpb⟩ := hrel
    have HI : Hid (Ob w wr (w.heap.size + 1) ao no co l k ∧ Blk wr gp #[.int .i64 pm, .int .i64 pr, .int .i64 pb, .int .i64 pt] 34) := ⟨hob, hpb⟩
    clear hob hpb HO1 HP1
    by_cases hgo : k < len0 ∧ k < 100
    · obtain ⟨g1, g2⟩ := hgo
      obtain ⟨bi, oi, rfl, ⟨f0, f1, f2, f3⟩, hwf⟩ := (HR.out.below HI.out.1.bc.bel) k g1
      have HAQ : Hid (∀ W, Calls Try.prog 16 #[.agg #[.int .i64 (z0.getD k pr0).m, .int .i64 (z0.getD k pr0).r, .int .i64 (z0.getD k pr0).b, .int .i64 (z0.getD k pr0).t]] W fun e w' => e = .returned (.agg #[.int .i64 (ask (z0.getD k pr0).m (z0.getD k pr0).r (z0.getD k pr0).b (z0.getD k pr0).t).m, .int .i64 (ask (z0.getD k pr0).m (z0.getD k pr0).r (z0.getD k pr0).b (z0.getD k pr0).t).r, .int .i64 (ask (z0.getD k pr0).m (z0.getD k pr0).r (z0.getD k pr0).b (z0.getD k pr0).t).b, .int .i64 (ask (z0.getD k pr0).m (z0.getD k pr0).r (z0.getD k pr0).b (z0.getD k pr0).t).t]) ∧ Below W.heap.size W w') := fun W => HAK.out W _ hwf
      have HQM : Hid ((ask (z0.getD k pr0).m (z0.getD k pr0).r (z0.getD k pr0).b (z0.getD k pr0).t).may) := ask_may _ _ _ _
      clear hwf
      generalize ask (z0.getD k pr0).m (z0.getD k pr0).r (z0.getD k pr0).b (z0.getD k pr0).t = q at *
      generalize (z0.getD k pr0).m = r0 at *
      generalize (z0.getD k pr0).r = r1 at *
      generalize (z0.getD k pr0).b = r2 at *
      generalize (z0.getD k pr0).t = r3 at *
      go_wp2_with fail
      refine (HAQ.out _).mono ?_
      rintro e w2 ⟨rfl, hb2⟩
      have HI2 : Hid (Ob w (w2.alloc (.cells #[.int .i64 q.m, .int .i64 q.r, .int .i64 q.b, .int .i64 q.t] 34)) (w.heap.size + 1) ao no co l k ∧ Blk (w2.alloc (.cells #[.int .i64 q.m, .int .i64 q.r, .int .i64 q.b, .int .i64 q.t] 34)) gp #[.int .i64 pm, .int .i64 pr, .int .i64 pb, .int .i64 pt] 34) := ⟨(HI.out.1.next hb2).alloc _, (HI.out.2.next hb2).alloc _⟩
      have HQ2 : Hid (Blk (w2.alloc (.cells #[.int .i64 q.m, .int .i64 q.r, .int .i64 q.b, .int .i64 q.t] 34)) w2.heap.size #[.int .i64 q.m, .int .i64 q.r, .int .i64 q.b, .int .i64 q.t] 34) := Blk.new _ _ _
      have HLQ : Hid (gp < w2.heap.size ∧ w.heap.size + 2 ≤ w2.heap.size) := ⟨Nat.lt_of_lt_of_le HI.out.2.lt hb2.size, Nat.le_trans HI.out.1.bc.box.lt hb2.size⟩
      clear hb2 f0 f1 f2 f3 HI HAQ
      have c0 := HI2.out.1.bc.box.cell 0
      have q0 := HQ2.out.cell 0
      have q1 := HQ2.out.cell 1
      have q2 := HQ2.out.cell 2
      have q3 := HQ2.out.cell 3
      have HIS : Hid (Calls Try.prog 12 #[.agg #[.slice ao no co], .int .i64 q.m, .int .i64 q.r, .int .i64 q.b, .int .i64 q.t] (w2.alloc (.cells #[.int .i64 q.m, .int .i64 q.r, .int .i64 q.b, .int .i64 q.t] 34)) fun e w' => Issued (w2.alloc (.cells #[.int .i64 q.m, .int .i64 q.r, .int .i64 q.b, .int .i64 q.t] 34)) l q k e w') := HK.out.issued HI2.out.1 (by omega) q HQM.out
      go_wp2_with fail
      refine HIS.out.mono ?_
      rintro e w3 ⟨a3, n3, cap3, ls, tx, rfl, hc3, hm3, hl3, _, hx0, hx1, hat, hoth, _, hb3⟩
      have HI4 : Hid (Ob w (w3.alloc (.cells #[.slice a3 n3 cap3] 24)) (w.heap.size + 1) ao no co l k ∧ Blk (w3.alloc (.cells #[.slice a3 n3 cap3] 24)) gp #[.int .i64 pm, .int .i64 pr, .int .i64 pb, .int .i64 pt] 34 ∧ Blk (w3.alloc (.cells #[.slice a3 n3 cap3] 24)) w2.heap.size #[.int .i64 q.m, .int .i64 q.r, .int .i64 q.b, .int .i64 q.t] 34 ∧ Bc w (w3.alloc (.cells #[.slice a3 n3 cap3] 24)) w3.heap.size a3 n3 cap3 ls) :=
        ⟨(HI2.out.1.next hb3).alloc _, (HI2.out.2.next hb3).alloc _, (HQ2.out.next hb3).alloc _, Bc.new hc3 (HI2.out.1.next hb3).bc.bel⟩
      have HM3 : Hid (May ls ∧ ls.length ≤ k + 1) := ⟨hm3, by have := HI2.out.1.few; omega⟩
      have HVF : Hid (∀ W, Came W a3 n3 cap3 ls → Calls Try.prog 14 #[.agg #[.slice a3 n3 cap3], .int .i64 q.m, .int .i64 q.r, .int .i64 q.b, .int .i64 tx] W fun e w' => Told W (Is ls q.m q.r q.b tx) e w') := fun W h => HK.out.verify W a3 n3 cap3 ls q.m q.r q.b tx h.row
      have HIS4 : Hid (Is ls q.m q.r q.b tx) := ⟨hm3, hat⟩
      have HOT : Hid (¬ (pm = q.m ∧ pr = q.r ∧ pb = q.b) → (No ls pm pr pb ∧ tg = -1) ∨ (∃ i, At ls pm pr pb i ∧ (ls.getD i pr0).t = tg)) := fun hne => by
        obtain ⟨o1, o2⟩ := hoth pm pr pb hne
        rcases HT.out with ⟨h1, h2⟩ | ⟨i, h1, h2⟩
        · exact .inl ⟨o2 h1, h2⟩
        · obtain ⟨o3, o4⟩ := o1 i h1
          exact .inr ⟨i, o3, by rw [o4]; exact h2⟩
      have HLT : Hid (w.heap.size + 2 ≤ w3.heap.size) := Nat.le_trans (Nat.le_trans HLQ.out.2 (Nat.le_of_lt HQ2.out.lt)) hb3.size
      clear hc3 hm3 hl3 hoth hb3 c0 q0 q1 q2 q3 HI2 HQ2 HIS HT
      generalize w2.heap.size = gq at *
      have d0 := HI4.out.2.2.2.box.cell 0
      have q0 := HI4.out.2.2.1.cell 0
      have q1 := HI4.out.2.2.1.cell 1
      have q2 := HI4.out.2.2.1.cell 2
      go_wp2_with fail
      refine (HVF.out _ HI4.out.2.2.2.came).mono ?_
      rintro e w5 ⟨rv, rfl, hrv, hb5⟩
      have hrt : rv = true := hrv.2 HIS4.out
      subst hrt
      have HI5 : Hid (Ob w w5 (w.heap.size + 1) ao no co l k ∧ Blk w5 gp #[.int .i64 pm, .int .i64 pr, .int .i64 pb, .int .i64 pt] 34 ∧ Blk w5 gq #[.int .i64 q.m, .int .i64 q.r, .int .i64 q.b, .int .i64 q.t] 34 ∧ Bc w w5 w3.heap.size a3 n3 cap3 ls) :=
        ⟨HI4.out.1.next hb5, HI4.out.2.1.next hb5, HI4.out.2.2.1.next hb5, HI4.out.2.2.2.next hb5⟩
      clear hrv hb5 d0 q0 q1 q2 HI4 HVF
      generalize w3.heap.size = gn at *
      have d0 := HI5.out.2.2.2.box.cell 0
      have e0 := HI5.out.1.bc.box.cell 0
      have e1 := HI5.out.1.bc.box.free 0
      have HI6 : Hid (Ob w (w5.setCell ⟨w.heap.size + 1, 0, none⟩ (.slice a3 n3 cap3)) (w.heap.size + 1) a3 n3 cap3 ls (k + 1) ∧ Blk (w5.setCell ⟨w.heap.size + 1, 0, none⟩ (.slice a3 n3 cap3)) gp #[.int .i64 pm, .int .i64 pr, .int .i64 pb, .int .i64 pt] 34 ∧ Blk (w5.setCell ⟨w.heap.size + 1, 0, none⟩ (.slice a3 n3 cap3)) gq #[.int .i64 q.m, .int .i64 q.r, .int .i64 q.b, .int .i64 q.t] 34) :=
        ⟨HI5.out.1.put (by omega) HI5.out.2.2.2.came HM3.out.1 HM3.out.2, HI5.out.2.1.other 0 _ (by have := HGP.out; omega), HI5.out.2.2.1.other 0 _ (by have := HLQ.out; omega)⟩
      have p0 := HI6.out.2.1.cell 0
      have p1 := HI6.out.2.1.cell 1
      have p2 := HI6.out.2.1.cell 2
      have q0 := HI6.out.2.2.cell 0
      have q1 := HI6.out.2.2.cell 1
      have q2 := HI6.out.2.2.cell 2
      have HAT : Hid (∃ i, At ls q.m q.r q.b i ∧ (ls.getD i pr0).t = tx) := HIS4.out.2
      clear HI5 HIS4 HQM HM3
      obtain ⟨qm, qr, qb, qt⟩ := q
      by_cases k1 : qm = pm
      · have j1 : (qm == pm) = true := by simp [k1]
        by_cases k2 : qr = pr
        · have j2 : (qr == pr) = true := by simp [k2]
          by_cases k3 : qb = pb
          · have j3 : (qb == pb) = true := by simp [k3]
            have HNW : Hid ((No ls pm pr pb ∧ tx = -1) ∨ (∃ i, At ls pm pr pb i ∧ (ls.getD i pr0).t = tx)) := by
              have := HAT.out
              rw [show (Pr.mk qm qr qb qt).m = pm from k1, show (Pr.mk qm qr qb qt).r = pr from k2, show (Pr.mk qm qr qb qt).b = pb from k3] at this
              exact .inr this
            clear k1 k2 k3 HOT HAT
            go_wp2_with fail
            go_roundw
            case rel => exact ⟨k + 1, tx, ls, a3, n3, cap3, rfl, by go_num, by omega, by omega, HNW, HI6.out.1, HI6.out.2.1⟩
            case measure => simp [intOf]; omega
          · have j3 : (qb == pb) = false := by simp [k3]
            have HNW : Hid ((No ls pm pr pb ∧ tg = -1) ∨ (∃ i, At ls pm pr pb i ∧ (ls.getD i pr0).t = tg)) := HOT.out fun h => k3 h.2.2.symm
            clear k1 k2 k3 HOT HAT
            go_wp2_with fail
            go_roundw
            case rel => exact ⟨k + 1, tg, ls, a3, n3, cap3, rfl, by go_num, by omega, by omega, HNW, HI6.out.1, HI6.out.2.1⟩
            case measure => simp [intOf]; omega
        · have j2 : (qr == pr) = false := by simp [k2]
          have HNW : Hid ((No ls pm pr pb ∧ tg = -1) ∨ (∃ i, At ls pm pr pb i ∧ (ls.getD i pr0).t = tg)) := HOT.out fun h => k2 h.2.1.symm
          clear k1 k2 HOT HAT
          go_wp2_with fail
          go_roundw
          case rel => exact ⟨k + 1, tg, ls, a3, n3, cap3, rfl, by go_num, by omega, by omega, HNW, HI6.out.1, HI6.out.2.1⟩
          case measure => simp [intOf]; omega
      · have j1 : (qm == pm) = false := by simp [k1]
        have HNW : Hid ((No ls pm pr pb ∧ tg = -1) ∨ (∃ i, At ls pm pr pb i ∧ (ls.getD i pr0).t = tg)) := HOT.out fun h => k1 h.1.symm
        clear k1 HOT HAT
        go_wp2_with fail
        go_roundw
        case rel => exact ⟨k + 1, tg, ls, a3, n3, cap3, rfl, by go_num, by omega, by omega, HNW, HI6.out.1, HI6.out.2.1⟩
        case measure => simp [intOf]; omega
    · have HMY : Hid (∀ W, Came W ao no co l → Calls Try.prog 9 #[.agg #[.slice ao no co]] W fun e w' => Told W (May l) e w') := fun W h => HK.out.may W ao no co l h.row
      have HVD : Hid (∀ W, Came W ao no co l → Calls Try.prog 14 #[.agg #[.slice ao no co], .int .i64 pm, .int .i64 pr, .int .i64 pb, .int .i64 pt] W fun e w' => Told W (Is l pm pr pb pt) e w') := fun W h => HK.out.verify W ao no co l pm pr pb pt h.row
      have HVT : Hid (∀ W, Came W ao no co l → Calls Try.prog 14 #[.agg #[.slice ao no co], .int .i64 pm, .int .i64 pr, .int .i64 pb, .int .i64 tg] W fun e w' => Told W (Is l pm pr pb tg) e w') := fun W h => HK.out.verify W ao no co l pm pr pb tg h.row
      have HML : Hid (May l) := HI.out.1.may
      have HCS : Hid ((tg < 0 ∧ ¬ Is l pm pr pb pt ∧ ¬ Is l pm pr pb tg ∧ tg ≠ pt) ∨ (0 ≤ tg ∧ (Is l pm pr pb pt ↔ tg = pt) ∧ Is l pm pr pb tg)) := by
        rcases HT.out with ⟨h1, h2⟩ | ⟨i, h1, h2⟩
        · refine .inl ⟨by omega, fun h => by obtain ⟨_, j, hj, _⟩ := h; exact hj.not h1, fun h => by obtain ⟨_, j, hj, _⟩ := h; exact hj.not h1, by have h9 : (0 : Int) ≤ pt := HPR.out.2.2.2.1; omega⟩
        · refine .inr ⟨by have := (HML.out.each i h1.lt).1.2.2.2.1; omega, ⟨fun h => ?_, fun h => ⟨HML.out, i, h1, h2.trans h⟩⟩, HML.out, i, h1, h2⟩
          obtain ⟨_, j, hj, hx⟩ := h
          have := h1.one hj
          subst this
          rw [← h2, hx]
      have hend : (k < len0 ∧ ¬ (k : Int) < 100) ∨ ¬ k < len0 := by
        by_cases g1 : k < len0
        · exact .inl ⟨g1, fun h => hgo ⟨g1, by omega⟩⟩
        · exact .inr g1
      clear hgo HT
      have c0 := HI.out.1.bc.box.cell 0
      rcases hend with ⟨g1, g2⟩ | g1
      all_goals
        go_wp2_with fail
        refine (HMY.out _ HI.out.1.bc.came).mono ?_
        rintro e w2 ⟨rv, rfl, hrv, hb2⟩
        have hrt : rv = true := hrv.2 HML.out
        subst hrt
        have HI2 : Hid (Ob w w2 (w.heap.size + 1) ao no co l k ∧ Blk w2 gp #[.int .i64 pm, .int .i64 pr, .int .i64 pb, .int .i64 pt] 34) := ⟨HI.out.1.next hb2, HI.out.2.next hb2⟩
        clear hrv hb2 c0 HI
        have c0 := HI2.out.1.bc.box.cell 0
        have p0 := HI2.out.2.cell 0
        have p1 := HI2.out.2.cell 1
        have p2 := HI2.out.2.cell 2
        have p3 := HI2.out.2.cell 3
        go_wp2_with fail
        refine (HVD.out _ HI2.out.1.bc.came).mono ?_
        rintro e w3 ⟨rd, rfl, hrd, hb3⟩
        have HI3 : Hid (Ob w w3 (w.heap.size + 1) ao no co l k ∧ Blk w3 gp #[.int .i64 pm, .int .i64 pr, .int .i64 pb, .int .i64 pt] 34) := ⟨HI2.out.1.next hb3, HI2.out.2.next hb3⟩
        have HRD : Hid (rd = true ↔ Is l pm pr pb pt) := hrd
        clear hrd hb3 c0 p0 p1 p2 p3 HI2
        have c0 := HI3.out.1.bc.box.cell 0
        have p0 := HI3.out.2.cell 0
        have p1 := HI3.out.2.cell 1
        have p2 := HI3.out.2.cell 2
        go_wp2_with fail
        refine (HVT.out _ HI3.out.1.bc.came).mono ?_
        rintro e w4 ⟨rt, rfl, hrt, hb4⟩
        have HI4 : Hid (Blk w4 gp #[.int .i64 pm, .int .i64 pr, .int .i64 pb, .int .i64 pt] 34 ∧ Below w.heap.size w w4) := ⟨HI3.out.2.next hb4, (HI3.out.1.next hb4).bc.bel⟩
        have HRT : Hid (rt = true ↔ Is l pm pr pb tg) := hrt
        clear hrt hb4 c0 p0 p1 p2 HI3
        have p3 := HI4.out.1.cell 3
        rcases HCS.out with ⟨t1, t2, t3, t4⟩ | ⟨t1, t2, t3⟩
        · have e1 : rd = false := by cases rd; rfl; exact absurd (HRD.out.1 rfl) t2
          have e2 : rt = false := by cases rt; rfl; exact absurd (HRT.out.1 rfl) t3
          subst e1 e2
          have s1 : (tg == pt) = false := by simp [t4]
          have s2 : decide (0 ≤ tg) = false := by simp; omega
          clear t2 t3 t4 HRD HRT HCS
          go_wp2_with fail
          go_ret
          exact ⟨rfl, HI4.out.2⟩
        · have e2 : rt = true := HRT.out.2 t3
          subst e2
          by_cases t4 : tg = pt
          · have e1 : rd = true := HRD.out.2 (t2.2 t4)
            subst e1
            have s1 : (tg == pt) = true := by simp [t4]
            have s2 : decide (0 ≤ tg) = true := by simp [t1]
            clear t2 t3 t4 HRD HRT HCS
            go_wp2_with fail
            go_ret
            exact ⟨rfl, HI4.out.2⟩
          · have e1 : rd = false := by cases rd; rfl; exact absurd (t2.1 (HRD.out.1 rfl)) t4
            subst e1
            have s1 : (tg == pt) = false := by simp [t4]
            have s2 : decide (0 ≤ tg) = true := by simp [t1]
            clear t2 t3 t4 HRD HRT HCS
            go_wp2_with fail
            go_ret
            exact ⟨rfl, HI4.out.2⟩

end Go.Proofs.Ytllnafjfbmhimaa.ora
