/- Asked again, it gives the same tag. -/
import Derived.Test.YtllnafjfbmhimaaOrO
namespace Go.Proofs.Ytllnafjfbmhimaa.ora
open Go.RowKit Go.Proofs.Ytllnafjfbmhimaa.check
set_option maxRecDepth 100000
set_option linter.unusedVariables false

/-- The same was asked for before: the oracle and the tag are as they were. -/
theorem OKit.again (K : OKit) {w wr : World} {G : Nat} {a : Option Addr} {n cap k : Nat} {l : List Pr} (h : Ob w wr G a n cap l k) (hk : k < 500) (p : Pr) (hp : p.may) (tx : Int) (hat : ∃ i, At l p.m p.r p.b i ∧ (l.getD i pr0).t = tx) :
    Calls Try.prog 12 #[.agg #[.slice a n cap], .int .i64 p.m, .int .i64 p.r, .int .i64 p.b, .int .i64 p.t] wr fun e w' => ∃ a' cap', e = .returned (.tuple #[.agg #[.slice a' n cap'], .int .i64 tx, .int .i64 0]) ∧ Below wr.heap.size wr w' :=
  (K.issued h hk p hp).mono fun e w' ⟨a', n', cap', ls, x, he, hc, _, _, _, _, _, ⟨j, hj, hx⟩, _, h9, hb⟩ => by
    obtain ⟨i, hi, ht⟩ := hat
    have e1 := h9 ⟨i, hi⟩
    subst e1
    have e2 := hi.one hj
    subst e2
    have e3 : n' = n := by rw [← hc.row.1, ← h.bc.came.row.1]
    subst e3
    rw [ht] at hx
    subst hx
    exact ⟨a', cap', he, hb⟩

set_option maxHeartbeats 4000000 in
theorem again_walk (K : OKit) (a0 : Option Addr) (len0 cap0 : Nat) (z0 : List Pr) (x y z u : Int) (dr : Int) (w : World) (hr : RowA w a0 len0 z0) (hx : (Lit.int .i64 x).wf = true) (hy : (Lit.int .i64 y).wf = true) (hz : (Lit.int .i64 z).wf = true) (hu : (Lit.int .i64 u).wf = true) (hdr : (Lit.int .i64 dr).wf = true) :
    Calls Try.prog 7 #[.slice a0 len0 cap0, .agg #[.int .i64 x, .int .i64 y, .int .i64 z, .int .i64 u], .int .i64 dr] w fun e w' => e = .returned (.bool true) ∧ Below w.heap.size w w' := by
  have HK : Hid OKit := K
  have HR : Hid (RowA w a0 len0 z0) := hr
  have HAK : Hid (∀ W q, wfP q → Calls Try.prog 16 #[.agg #[.int .i64 q.m, .int .i64 q.r, .int .i64 q.b, .int .i64 q.t]] W fun e w' => e = .returned (.agg #[.int .i64 (ask q.m q.r q.b q.t).m, .int .i64 (ask q.m q.r q.b q.t).r, .int .i64 (ask q.m q.r q.b q.t).b, .int .i64 (ask q.m q.r q.b q.t).t]) ∧ Below W.heap.size W w') := fun W q hq => asked_any _ _ _ _ W hq.1 hq.2.1 hq.2.2.1 hq.2.2.2
  have HA0 : Hid (∀ W, Calls Try.prog 16 #[.agg #[.int .i64 x, .int .i64 y, .int .i64 z, .int .i64 u]] W fun e w' => e = .returned (.agg #[.int .i64 (ask x y z u).m, .int .i64 (ask x y z u).r, .int .i64 (ask x y z u).b, .int .i64 (ask x y z u).t]) ∧ Below W.heap.size W w') := fun W => asked_any x y z u W hx hy hz hu
  have HPM : Hid ((ask x y z u).may) := ask_may x y z u
  have HPD : Hid (∀ W, Calls Try.prog 17 #[.int .i64 dr, .int .i64 65536] W fun e w' => e = .returned (.int .i64 (((pick dr 65536).toNat : Nat) : Int)) ∧ w' = W) := fun W => picked_nat dr 65536 W hdr (by decide) (by decide)
  have hpd : (pick dr 65536).toNat < 65536 := pick_toNat dr 65536 (by decide)
  clear K hr hx hy hz hu hdr
  generalize (pick dr 65536).toNat = d2 at *
  generalize ask x y z u = p at *
  have hs1 : (w.alloc (.cells #[.int .i64 x, .int .i64 y, .int .i64 z, .int .i64 u] 34)).heap.size = w.heap.size + 1 := by simp
  have HO0 : Hid (Ob w ((w.alloc (.cells #[.int .i64 x, .int .i64 y, .int .i64 z, .int .i64 u] 34)).alloc (.cells #[.slice none 0 0] 24)) (w.heap.size + 1) none 0 0 [] 0) := by
    have := Bc.new (w := w) (wr := w.alloc (.cells #[.int .i64 x, .int .i64 y, .int .i64 z, .int .i64 u] 34)) (a := none) (n := 0) (cap := 0) (l := []) ⟨RowP.nil _ _, fun _ => rfl, Nat.le_refl _, by decide⟩ ((Below.refl _ _).alloc (Nat.le_refl _) _)
    rw [hs1] at this
    exact ⟨this, May.nil, Nat.le_refl _⟩
  have HX0 : Hid (Blk ((w.alloc (.cells #[.int .i64 x, .int .i64 y, .int .i64 z, .int .i64 u] 34)).alloc (.cells #[.slice none 0 0] 24)) w.heap.size #[.int .i64 x, .int .i64 y, .int .i64 z, .int .i64 u] 34) := (Blk.new w _ _).alloc _
  clear hs1
  go_enter Try.func7, Try.ntmps7
  go_wp2_with fail
  generalize (w.alloc (.cells #[.int .i64 x, .int .i64 y, .int .i64 z, .int .i64 u] 34)).alloc (.cells #[.slice none 0 0] 24) = W1 at *
  go_loopw [8] (fun j wr => ∃ (k : Nat) (l : List Pr) (ao : Option Addr) (no co : Nat), j = .int .i64 (k : Int) ∧ k ≤ 100 ∧ k ≤ len0 ∧ Ob w wr (w.heap.size + 1) ao no co l k ∧ Blk wr w.heap.size #[.int .i64 x, .int .i64 y, .int .i64 z, .int .i64 u] 34) (fun j _ => 100 - (intOf j).toNat)
  case atStart => exact ⟨0, [], none, 0, 0, rfl, Nat.zero_le _, Nat.zero_le _, HO0.out, HX0.out⟩
  case round =>
    obtain ⟨k, l, ao, no, co, rfl, hk, hkl, hob, hxb⟩ := hrel
    have HI : Hid (Ob w wr (w.heap.size + 1) ao no co l k ∧ Blk wr w.heap.size #[.int .i64 x, .int .i64 y, .int .i64 z, .int .i64 u] 34) := ⟨hob, hxb⟩
    clear hob hxb HO0 HX0
    by_cases hgo : k < len0 ∧ k < 100
    · obtain ⟨g1, g2⟩ := hgo
      obtain ⟨bi, oi, rfl, ⟨f0, f1, f2, f3⟩, hwf⟩ := (HR.out.below HI.out.1.bc.bel) k g1
      have HAQ : Hid (∀ W, Calls Try.prog 16 #[.agg #[.int .i64 (z0.getD k pr0).m, .int .i64 (z0.getD k pr0).r, .int .i64 (z0.getD k pr0).b, .int .i64 (z0.getD k pr0).t]] W fun e w' => e = .returned (.agg #[.int .i64 (ask (z0.getD k pr0).m (z0.getD k pr0).r (z0.getD k pr0).b (z0.getD k pr0).t).m, .int .i64 (ask (z0.getD k pr0).m (z0.getD k pr0).r (z0.getD k pr0).b (z0.getD k pr0).t).r, .int .i64 (ask (z0.getD k pr0).m (z0.getD k pr0).r (z0.getD k pr0).b (z0.getD k pr0).t).b, .int .i64 (ask (z0.getD k pr0).m (z0.getD k pr0).r (z0.getD k pr0).b (z0.getD k pr0).t).t]) ∧ Below W.heap.size W w') := fun W => HAK.out W _ hwf
      have HQM : Hid ((ask (z0.getD k pr0).m (z0.getD k pr0).r (z0.getD k pr0).b (z0.getD k pr0).t).may) := ask_may _ _ _ _
      clear hwf
      generalize ask (z0.getD k pr0).m (z0.getD k pr0).r (z0.getD k pr0).b (z0.getD k pr0).t = q at *
      generalize (z0.getD k pr0).m = r0 at *
      generalize (z0.getD k pr0).r = r1 at *
      generalize (z0.getD k pr0).b = r2 at *
      generalize (z0.getD k pr0).t = r3 at *
      go_wp2_with fail
      refine (HAQ.out _).mono ?_
      rintro e w2 ⟨rfl, hb2⟩
      have HI2 : Hid (Ob w (w2.alloc (.cells #[.int .i64 q.m, .int .i64 q.r, .int .i64 q.b, .int .i64 q.t] 34)) (w.heap.size + 1) ao no co l k ∧ Blk (w2.alloc (.cells #[.int .i64 q.m, .int .i64 q.r, .int .i64 q.b, .int .i64 q.t] 34)) w.heap.size #[.int .i64 x, .int .i64 y, .int .i64 z, .int .i64 u] 34) := ⟨(HI.out.1.next hb2).alloc _, (HI.out.2.next hb2).alloc _⟩
      have HQ2 : Hid (Blk (w2.alloc (.cells #[.int .i64 q.m, .int .i64 q.r, .int .i64 q.b, .int .i64 q.t] 34)) w2.heap.size #[.int .i64 q.m, .int .i64 q.r, .int .i64 q.b, .int .i64 q.t] 34) := Blk.new _ _ _
      clear hb2 f0 f1 f2 f3 HI HAQ
      have c0 := HI2.out.1.bc.box.cell 0
      have q0 := HQ2.out.cell 0
      have q1 := HQ2.out.cell 1
      have q2 := HQ2.out.cell 2
      have q3 := HQ2.out.cell 3
      have HIS : Hid (Calls Try.prog 12 #[.agg #[.slice ao no co], .int .i64 q.m, .int .i64 q.r, .int .i64 q.b, .int .i64 q.t] (w2.alloc (.cells #[.int .i64 q.m, .int .i64 q.r, .int .i64 q.b, .int .i64 q.t] 34)) fun e w' => Issued (w2.alloc (.cells #[.int .i64 q.m, .int .i64 q.r, .int .i64 q.b, .int .i64 q.t] 34)) l q k e w') := HK.out.issued HI2.out.1 (by omega) q HQM.out
      go_wp2_with fail
      refine HIS.out.mono ?_
      rintro e w3 ⟨a3, n3, cap3, ls, tx, rfl, hc3, hm3, hl3, _, hx0, hx1, hat, hoth, _, hb3⟩
      have HI4 : Hid (Ob w (w3.alloc (.cells #[.slice a3 n3 cap3] 24)) (w.heap.size + 1) ao no co l k ∧ Blk (w3.alloc (.cells #[.slice a3 n3 cap3] 24)) w.heap.size #[.int .i64 x, .int .i64 y, .int .i64 z, .int .i64 u] 34 ∧ Bc w (w3.alloc (.cells #[.slice a3 n3 cap3] 24)) w3.heap.size a3 n3 cap3 ls) :=
        ⟨(HI2.out.1.next hb3).alloc _, (HI2.out.2.next hb3).alloc _, Bc.new hc3 (HI2.out.1.next hb3).bc.bel⟩
      have HM3 : Hid (May ls ∧ ls.length ≤ k + 1) := ⟨hm3, by have := HI2.out.1.few; omega⟩
      clear hc3 hm3 hl3 hoth hb3 c0 q0 q1 q2 q3 HI2 HQ2 HIS hat
      have d0 := HI4.out.2.2.box.cell 0
      have e0 := HI4.out.1.bc.box.cell 0
      have e1 := HI4.out.1.bc.box.free 0
      have HI6 : Hid (Ob w ((w3.alloc (.cells #[.slice a3 n3 cap3] 24)).setCell ⟨w.heap.size + 1, 0, none⟩ (.slice a3 n3 cap3)) (w.heap.size + 1) a3 n3 cap3 ls (k + 1) ∧ Blk ((w3.alloc (.cells #[.slice a3 n3 cap3] 24)).setCell ⟨w.heap.size + 1, 0, none⟩ (.slice a3 n3 cap3)) w.heap.size #[.int .i64 x, .int .i64 y, .int .i64 z, .int .i64 u] 34) :=
        ⟨HI4.out.1.put (by omega) HI4.out.2.2.came HM3.out.1 HM3.out.2, HI4.out.2.1.other 0 _ (by omega)⟩
      clear HI4 HQM HM3
      go_wp2_with fail
      go_roundw
      case rel => exact ⟨k + 1, ls, a3, n3, cap3, by go_num, by omega, by omega, HI6.out.1, HI6.out.2⟩
      case measure => simp [intOf]; omega
    · have hend : (k < len0 ∧ ¬ (k : Int) < 100) ∨ ¬ k < len0 := by
        by_cases g1 : k < len0
        · exact .inl ⟨g1, fun h => hgo ⟨g1, by omega⟩⟩
        · exact .inr g1
      clear hgo
      have x0 := HI.out.2.cell 0
      have x1 := HI.out.2.cell 1
      have x2 := HI.out.2.cell 2
      have x3 := HI.out.2.cell 3
      rcases hend with ⟨g1, g2⟩ | g1
      all_goals
        go_wp2_with fail
        refine (HA0.out _).mono ?_
        rintro e w2 ⟨rfl, hb2⟩
        have HI2 : Hid (Ob w (w2.alloc (.cells #[.int .i64 p.m, .int .i64 p.r, .int .i64 p.b, .int .i64 p.t] 34)) (w.heap.size + 1) ao no co l k) := (HI.out.1.next hb2).alloc _
        have HQ2 : Hid (Blk (w2.alloc (.cells #[.int .i64 p.m, .int .i64 p.r, .int .i64 p.b, .int .i64 p.t] 34)) w2.heap.size #[.int .i64 p.m, .int .i64 p.r, .int .i64 p.b, .int .i64 p.t] 34) := Blk.new _ _ _
        clear hb2 x0 x1 x2 x3 HI
        have c0 := HI2.out.bc.box.cell 0
        have q0 := HQ2.out.cell 0
        have q1 := HQ2.out.cell 1
        have q2 := HQ2.out.cell 2
        have q3 := HQ2.out.cell 3
        have HIS : Hid (Calls Try.prog 12 #[.agg #[.slice ao no co], .int .i64 p.m, .int .i64 p.r, .int .i64 p.b, .int .i64 p.t] (w2.alloc (.cells #[.int .i64 p.m, .int .i64 p.r, .int .i64 p.b, .int .i64 p.t] 34)) fun e w' => Issued (w2.alloc (.cells #[.int .i64 p.m, .int .i64 p.r, .int .i64 p.b, .int .i64 p.t] 34)) l p k e w') := HK.out.issued HI2.out (by omega) p HPM.out
        go_wp2_with fail
        refine HIS.out.mono ?_
        rintro e w3 ⟨a3, n3, cap3, ls, tx, rfl, hc3, hm3, hl3, _, hx0, hx1, hat, hoth, _, hb3⟩
        have HI4 : Hid (Ob w (w3.alloc (.cells #[.slice a3 n3 cap3] 24)) (w.heap.size + 1) ao no co l k ∧ Blk (w3.alloc (.cells #[.slice a3 n3 cap3] 24)) w2.heap.size #[.int .i64 p.m, .int .i64 p.r, .int .i64 p.b, .int .i64 p.t] 34 ∧ Ob w (w3.alloc (.cells #[.slice a3 n3 cap3] 24)) w3.heap.size a3 n3 cap3 ls 101) :=
          ⟨(HI2.out.next hb3).alloc _, (HQ2.out.next hb3).alloc _, Bc.new hc3 (HI2.out.next hb3).bc.bel, hm3, by have := HI2.out.few; omega⟩
        have HAT : Hid ((∃ i, At ls p.m p.r p.b i ∧ (ls.getD i pr0).t = tx) ∧ ls.length ≤ l.length + 1) := ⟨hat, hl3⟩
        clear hc3 hm3 hl3 hoth hb3 c0 q0 q1 q2 q3 HI2 HQ2 HIS hat
        obtain ⟨pm, pr, pb, pt⟩ := p
        generalize w2.heap.size = gq at *
        have HNN : Hid (1 ≤ n3 ∧ n3 ≤ no + 1 ∧ no ≤ 100) := by
          obtain ⟨⟨i, hi, _⟩, hl⟩ := HAT.out
          have e1 := HI4.out.2.2.bc.came.row.1
          have e2 := HI4.out.1.bc.came.row.1
          have := hi.lt
          have := HI4.out.1.few
          exact ⟨by omega, by omega, by omega⟩
        have HAT1 : Hid (∃ i, At ls pm pr pb i ∧ (ls.getD i pr0).t = tx) := HAT.out.1
        have HPM2 : Hid ((Pr.mk pm pr pb (d2 : Int)).may) := ⟨HPM.out.1, HPM.out.2.1, HPM.out.2.2.1, by show (0 : Int) ≤ d2; omega, by show (d2 : Int) ≤ 65535; omega⟩
        clear HAT
        go_wp2_with fail
        generalize hW3 : w3.alloc (.cells #[.slice a3 n3 cap3] 24) = W3 at *
        clear hW3
        generalize w3.heap.size = gn at *
        have HOA : Hid (Ob w W3.drew gn a3 n3 cap3 ls 101) := ⟨⟨HI4.out.2.2.bc.box, HI4.out.2.2.bc.came.below ((Below.refl _ W3).drew), HI4.out.2.2.bc.bel.drew⟩, HI4.out.2.2.may, HI4.out.2.2.few⟩
        have hob2 := HI4.out.2.2.alloc (.cells #[.slice none 0 0] 24)
        have HOB : Hid (Ob w (W3.alloc (.cells #[.slice none 0 0] 24)).drew gn a3 n3 cap3 ls 101) := ⟨⟨hob2.bc.box, hob2.bc.came.below ((Below.refl _ _).drew), hob2.bc.bel.drew⟩, hob2.may, hob2.few⟩
        have HIA : Hid (Calls Try.prog 12 #[.agg #[.slice a3 n3 cap3], .int .i64 pm, .int .i64 pr, .int .i64 pb, .int .i64 (d2 : Int)] W3.drew fun e w' => ∃ a' cap', e = .returned (.tuple #[.agg #[.slice a' n3 cap'], .int .i64 tx, .int .i64 0]) ∧ Below W3.drew.heap.size W3.drew w') := HK.out.again HOA.out (by decide) ⟨pm, pr, pb, (d2 : Int)⟩ HPM2.out tx HAT1.out
        have HIB : Hid (Calls Try.prog 12 #[.agg #[.slice a3 n3 cap3], .int .i64 pm, .int .i64 pr, .int .i64 pb, .int .i64 (d2 : Int)] (W3.alloc (.cells #[.slice none 0 0] 24)).drew fun e w' => ∃ a' cap', e = .returned (.tuple #[.agg #[.slice a' n3 cap'], .int .i64 tx, .int .i64 0]) ∧ Below (W3.alloc (.cells #[.slice none 0 0] 24)).drew.heap.size (W3.alloc (.cells #[.slice none 0 0] 24)).drew w') := HK.out.again HOB.out (by decide) ⟨pm, pr, pb, (d2 : Int)⟩ HPM2.out tx HAT1.out
        have hqa := HI4.out.2.1.alloc (.cells #[.slice none 0 0] 24)
        have KS : Hid (W3.drew.cell? ⟨gn, 0, none⟩ = some (.slice a3 n3 cap3) ∧ W3.drew.cell? ⟨gq, 0, none⟩ = some (.int .i64 pm) ∧ W3.drew.cell? ⟨gq, 1, none⟩ = some (.int .i64 pr) ∧ W3.drew.cell? ⟨gq, 2, none⟩ = some (.int .i64 pb)) := ⟨HI4.out.2.2.bc.box.cell 0, HI4.out.2.1.cell 0, HI4.out.2.1.cell 1, HI4.out.2.1.cell 2⟩
        have KB : Hid ((W3.alloc (.cells #[.slice none 0 0] 24)).drew.cell? ⟨gn, 0, none⟩ = some (.slice a3 n3 cap3) ∧ (W3.alloc (.cells #[.slice none 0 0] 24)).drew.cell? ⟨gq, 0, none⟩ = some (.int .i64 pm) ∧ (W3.alloc (.cells #[.slice none 0 0] 24)).drew.cell? ⟨gq, 1, none⟩ = some (.int .i64 pr) ∧ (W3.alloc (.cells #[.slice none 0 0] 24)).drew.cell? ⟨gq, 2, none⟩ = some (.int .i64 pb)) := ⟨hob2.bc.box.cell 0, hqa.cell 0, hqa.cell 1, hqa.cell 2⟩
        have HQA : Hid (Blk W3.drew gq #[.int .i64 pm, .int .i64 pr, .int .i64 pb, .int .i64 pt] 34 ∧ Blk W3.drew (w.heap.size + 1) #[.slice ao no co] 24) := ⟨HI4.out.2.1, HI4.out.1.bc.box⟩
        have HQB : Hid (Blk (W3.alloc (.cells #[.slice none 0 0] 24)).drew gq #[.int .i64 pm, .int .i64 pr, .int .i64 pb, .int .i64 pt] 34 ∧ Blk (W3.alloc (.cells #[.slice none 0 0] 24)).drew (w.heap.size + 1) #[.slice ao no co] 24 ∧ Blk (W3.alloc (.cells #[.slice none 0 0] 24)).drew W3.heap.size #[.slice none 0 0] 24) := ⟨hqa, HI4.out.1.bc.box.alloc _, Blk.new _ _ _⟩
        have HLT : Hid (w.heap.size + 1 < W3.heap.size ∧ gn < W3.heap.size ∧ gq < W3.heap.size) := ⟨HI4.out.1.bc.box.lt, HI4.out.2.2.bc.box.lt, HI4.out.2.1.lt⟩
        clear hob2 hqa HI4
        go_region_held (fun v => v.cell? ⟨gn, 0, none⟩ = some (.slice a3 n3 cap3) ∧ v.cell? ⟨gq, 0, none⟩ = some (.int .i64 pm) ∧ v.cell? ⟨gq, 1, none⟩ = some (.int .i64 pr) ∧ v.cell? ⟨gq, 2, none⟩ = some (.int .i64 pb))
          (first | with_reducible exact KS.out | with_reducible exact KB.out | with_reducible exact K1.out | with_reducible exact K0.out | with_reducible exact K2.out | with_reducible exact K3.out)
          (first
            | (go_at_call 17; refine (HPD.out _).mono ?_; rintro e wx ⟨rfl, rfl⟩)
            | (go_at_call 12; with_reducible refine HIA.out.mono ?_; rintro e w5 ⟨a5, cap5, rfl, hb5⟩
               have hn5 : Blk w5 gn #[.slice a3 n3 cap3] 24 := HOA.out.bc.box.next hb5
               have hq5 : Blk w5 gq #[.int .i64 pm, .int .i64 pr, .int .i64 pb, .int .i64 pt] 34 := HQA.out.1.next hb5
               have ho5 : Blk w5 (w.heap.size + 1) #[.slice ao no co] 24 := HQA.out.2.next hb5
               have hB5 : Below w.heap.size w w5 := bel_step HOA.out.bc.bel hb5
               have K1 : Hid (w5.cell? ⟨gn, 0, none⟩ = some (.slice a3 n3 cap3) ∧ w5.cell? ⟨gq, 0, none⟩ = some (.int .i64 pm) ∧ w5.cell? ⟨gq, 1, none⟩ = some (.int .i64 pr) ∧ w5.cell? ⟨gq, 2, none⟩ = some (.int .i64 pb)) := ⟨hn5.cell 0, hq5.cell 0, hq5.cell 1, hq5.cell 2⟩
               have K0 : Hid ((w5.alloc (.cells #[.slice none 0 0] 24)).cell? ⟨gn, 0, none⟩ = some (.slice a3 n3 cap3) ∧ (w5.alloc (.cells #[.slice none 0 0] 24)).cell? ⟨gq, 0, none⟩ = some (.int .i64 pm) ∧ (w5.alloc (.cells #[.slice none 0 0] 24)).cell? ⟨gq, 1, none⟩ = some (.int .i64 pr) ∧ (w5.alloc (.cells #[.slice none 0 0] 24)).cell? ⟨gq, 2, none⟩ = some (.int .i64 pb)) := ⟨(hn5.alloc _).cell 0, (hq5.alloc _).cell 0, (hq5.alloc _).cell 1, (hq5.alloc _).cell 2⟩
               have K2 : Hid ((w5.alloc (.cells #[.slice a5 n3 cap5] 24)).cell? ⟨gn, 0, none⟩ = some (.slice a3 n3 cap3) ∧ (w5.alloc (.cells #[.slice a5 n3 cap5] 24)).cell? ⟨gq, 0, none⟩ = some (.int .i64 pm) ∧ (w5.alloc (.cells #[.slice a5 n3 cap5] 24)).cell? ⟨gq, 1, none⟩ = some (.int .i64 pr) ∧ (w5.alloc (.cells #[.slice a5 n3 cap5] 24)).cell? ⟨gq, 2, none⟩ = some (.int .i64 pb)) := ⟨(hn5.alloc _).cell 0, (hq5.alloc _).cell 0, (hq5.alloc _).cell 1, (hq5.alloc _).cell 2⟩
               have HF : Hid (Blk (w5.alloc (.cells #[.slice a5 n3 cap5] 24)) gn #[.slice a3 n3 cap3] 24 ∧ Blk (w5.alloc (.cells #[.slice a5 n3 cap5] 24)) (w.heap.size + 1) #[.slice ao no co] 24 ∧ Blk (w5.alloc (.cells #[.slice a5 n3 cap5] 24)) w5.heap.size #[.slice a5 n3 cap5] 24 ∧ Below w.heap.size w (w5.alloc (.cells #[.slice a5 n3 cap5] 24))) := ⟨hn5.alloc _, ho5.alloc _, Blk.new _ _ _, hB5.alloc hB5.size _⟩
               clear hn5 hq5 ho5 hB5 hb5)
            | (go_at_call 12; with_reducible refine HIB.out.mono ?_; rintro e w5 ⟨a5, cap5, rfl, hb5⟩
               have hn5 : Blk w5 gn #[.slice a3 n3 cap3] 24 := HOB.out.bc.box.next hb5
               have hq5 : Blk w5 gq #[.int .i64 pm, .int .i64 pr, .int .i64 pb, .int .i64 pt] 34 := HQB.out.1.next hb5
               have ho5 : Blk w5 (w.heap.size + 1) #[.slice ao no co] 24 := HQB.out.2.1.next hb5
               have hz5 : Blk w5 W3.heap.size #[.slice none 0 0] 24 := HQB.out.2.2.next hb5
               have hB5 : Below w.heap.size w w5 := bel_step HOB.out.bc.bel hb5
               have K1 : Hid (w5.cell? ⟨gn, 0, none⟩ = some (.slice a3 n3 cap3) ∧ w5.cell? ⟨gq, 0, none⟩ = some (.int .i64 pm) ∧ w5.cell? ⟨gq, 1, none⟩ = some (.int .i64 pr) ∧ w5.cell? ⟨gq, 2, none⟩ = some (.int .i64 pb)) := ⟨hn5.cell 0, hq5.cell 0, hq5.cell 1, hq5.cell 2⟩
               have hn6 := hn5.other (G' := W3.heap.size) 0 (.slice a5 n3 cap5) (by have := HLT.out; omega)
               have hq6 := hq5.other (G' := W3.heap.size) 0 (.slice a5 n3 cap5) (by have := HLT.out; omega)
               have ho6 := ho5.other (G' := W3.heap.size) 0 (.slice a5 n3 cap5) (by have := HLT.out; omega)
               have K3 : Hid ((w5.setCell ⟨W3.heap.size, 0, none⟩ (.slice a5 n3 cap5)).cell? ⟨gn, 0, none⟩ = some (.slice a3 n3 cap3) ∧ (w5.setCell ⟨W3.heap.size, 0, none⟩ (.slice a5 n3 cap5)).cell? ⟨gq, 0, none⟩ = some (.int .i64 pm) ∧ (w5.setCell ⟨W3.heap.size, 0, none⟩ (.slice a5 n3 cap5)).cell? ⟨gq, 1, none⟩ = some (.int .i64 pr) ∧ (w5.setCell ⟨W3.heap.size, 0, none⟩ (.slice a5 n3 cap5)).cell? ⟨gq, 2, none⟩ = some (.int .i64 pb)) := ⟨hn6.cell 0, hq6.cell 0, hq6.cell 1, hq6.cell 2⟩
               have t0 := hz5.cell 0
               have f0 := hz5.free 0
               have HF : Hid (Blk (w5.setCell ⟨W3.heap.size, 0, none⟩ (.slice a5 n3 cap5)) gn #[.slice a3 n3 cap3] 24 ∧ Blk (w5.setCell ⟨W3.heap.size, 0, none⟩ (.slice a5 n3 cap5)) (w.heap.size + 1) #[.slice ao no co] 24 ∧ Blk (w5.setCell ⟨W3.heap.size, 0, none⟩ (.slice a5 n3 cap5)) W3.heap.size #[.slice a5 n3 cap5] 24 ∧ Below w.heap.size w (w5.setCell ⟨W3.heap.size, 0, none⟩ (.slice a5 n3 cap5))) := ⟨hn6, ho6, hz5.set 0 _, bel_set hB5 _ _ _ (by have := HLT.out; omega)⟩
               clear hn5 hq5 ho5 hz5 hn6 hq6 ho6 hB5 hb5))
        all_goals
          have y0 := HF.out.1.cell 0
          have y1 := HF.out.2.1.cell 0
          have y2 := HF.out.2.2.1.cell 0
          obtain ⟨nn1, nn2, nn3⟩ := HNN.out
          have s1 : (tx == tx) = true := beq_self_eq_true tx
          have s2 : ((n3 : Int) == (n3 : Int)) = true := beq_self_eq_true _
          have s3 : decide ((0 : Int) < (n3 : Int)) = true := by simp; omega
          have s4 : decide ((n3 : Int) ≤ (no : Int) + 1) = true := by simp; omega
          go_wp2_with fail
          go_ret
          exact ⟨rfl, HF.out.2.2.2⟩

end Go.Proofs.Ytllnafjfbmhimaa.ora
