/- Meters: the document's keying of a token. -/
import Derived.Test.YtmpapnblpjnlmaaDoorMtS
import Derived.Test.YtmpapnblpjnlmaaDoorWnT
import Derived.Test.YtmpapnblpjnlmaaDoorTkBodyR
import Derived.Test.YtmpapnblpjnlmaaDoorLet
namespace Go.Proofs.YtmpapnblpjnlmaaDoor.met
open Go.RowKit Go.Proofs.YtmpapnblpjnlmaaDoor.ora Go.Proofs.YtmpapnblpjnlmaaDoor.token
set_option maxRecDepth 100000
set_option linter.unusedVariables false

/-- The boxes. -/
structure Bk (w wr : World) (m : Mt) (a : Option Addr) (n cap : Nat) (l : List Pr) (c i am t : Int) : Prop where
  bm : Bm w wr m a n cap l
  tok : Blk wr (w.heap.size + 2) #[.int .i64 c, .int .i64 i, .int .i64 am, .int .i64 t] 31
  out : Blk wr (w.heap.size + 3) #[.int .i64 0, .int .i64 0, .int .i64 0, .int .i64 0, .int .u64 0, .int .i64 0, .int .i64 0] 26
theorem Bk.next {w wr w' : World} {m : Mt} {a : Option Addr} {n cap : Nat} {l : List Pr} {c i am t : Int} (h : Bk w wr m a n cap l c i am t) (hb : Below wr.heap.size wr w') : Bk w w' m a n cap l c i am t := ⟨h.bm.next hb, h.tok.next hb, h.out.next hb⟩
theorem Bk.alloc {w wr : World} {m : Mt} {a : Option Addr} {n cap : Nat} {l : List Pr} {c i am t : Int} (h : Bk w wr m a n cap l c i am t) (o : Obj) : Bk w (wr.alloc o) m a n cap l c i am t := h.next ((Below.refl _ _).alloc (Nat.le_refl _) _)
theorem Blk.new3' (w : World) (o p q : Obj) (cs : Array Value) (t : TypeId) : Blk ((((w.alloc o).alloc p).alloc q).alloc (.cells cs t)) (w.heap.size + 3) cs t := Blk.new3 w o p q cs t
theorem Bk.new {w : World} {m : Mt} {a : Option Addr} {n cap : Nat} {l : List Pr} {c i am t : Int} (h : RowP w a n l) : Bk w ((((w.alloc (.cells m.cells 26)).alloc (.cells #[.slice a n cap] 29)).alloc (.cells #[.int .i64 c, .int .i64 i, .int .i64 am, .int .i64 t] 31)).alloc (.cells #[.int .i64 0, .int .i64 0, .int .i64 0, .int .i64 0, .int .u64 0, .int .i64 0, .int .i64 0] 26)) m a n cap l c i am t :=
  ⟨((Bm.new h).alloc _).alloc _, (Blk.new2 w _ _ _ _).alloc _, Blk.new3' w _ _ _ _ _⟩

set_option maxHeartbeats 8000000 in
theorem keyed_any (m : Mt) (a : Option Addr) (n cap : Nat) (l : List Pr) (c i am t : Int) (w : World) (hr : RowP w a n l) (hb : m.b < 18446744073709551616) :
    Calls Tryd.prog 6 #[m.v, .agg #[.slice a n cap], .agg #[.int .i64 c, .int .i64 i, .int .i64 am, .int .i64 t]] w fun e w' => KeyPost w m l c i am t e w' := by
  have HB0 := Bk.new (m := m) (cap := cap) (c := c) (i := i) (am := am) (t := t) hr
  have HL : Hid (l.length = n) := hr.1
  have HMM : Hid (∀ W, Calls Tryd.prog 11 #[m.v] W fun e w' => Told W m.may e w') := fun W => mmay_any m W hb
  have HOM : Hid (∀ W, RowP W a n l → Calls Tryd.prog 12 #[.agg #[.slice a n cap]] W fun e w' => ora.Told W (May l) e w') := fun W h => omay_any a n cap l W h
  have HSL : Hid (∀ W bo, RowP W a n l → n ≤ 500 → Calls Tryd.prog 14 #[m.v, .agg #[.slice a n cap], .int .i64 bo, .int .i64 t] W fun e w' => SellPost W l m.me m.rev bo t e w') := fun W bo h hn => sellKey_any m a n cap l bo t W h hn
  have HTK : Hid (∀ W, Calls Tryd.prog 15 #[.agg #[.int .i64 m.h, .int .u64 (m.b : Int)], .int .i64 i] W fun e w' => win.TakePost W m.h m.b i e w') := fun W => win.takenBy_any m.h m.b i W hb
  clear hr
  obtain ⟨me, rev, cr, h, b, bad, lock⟩ := m
  unfold Mt.v at *
  unfold Mt.cells at *
  simp only [] at HB0 HMM HSL HTK ⊢
  have HI : Hid (Bk w ((((w.alloc (.cells #[.int .i64 me, .int .i64 rev, .int .i64 cr, .int .i64 h, .int .u64 (b : Int), .int .i64 bad, .int .i64 lock] 26)).alloc (.cells #[.slice a n cap] 29)).alloc (.cells #[.int .i64 c, .int .i64 i, .int .i64 am, .int .i64 t] 31)).alloc (.cells #[.int .i64 0, .int .i64 0, .int .i64 0, .int .i64 0, .int .u64 0, .int .i64 0, .int .i64 0] 26)) ⟨me, rev, cr, h, b, bad, lock⟩ a n cap l c i am t) := HB0
  clear HB0
  have c0 : ((((w.alloc (.cells #[.int .i64 me, .int .i64 rev, .int .i64 cr, .int .i64 h, .int .u64 (b : Int), .int .i64 bad, .int .i64 lock] 26)).alloc (.cells #[.slice a n cap] 29)).alloc (.cells #[.int .i64 c, .int .i64 i, .int .i64 am, .int .i64 t] 31)).alloc (.cells #[.int .i64 0, .int .i64 0, .int .i64 0, .int .i64 0, .int .u64 0, .int .i64 0, .int .i64 0] 26)).cell? ⟨w.heap.size, 0, none⟩ = some (.int .i64 me) := HI.out.bm.met.cell 0
  have c1 : ((((w.alloc (.cells #[.int .i64 me, .int .i64 rev, .int .i64 cr, .int .i64 h, .int .u64 (b : Int), .int .i64 bad, .int .i64 lock] 26)).alloc (.cells #[.slice a n cap] 29)).alloc (.cells #[.int .i64 c, .int .i64 i, .int .i64 am, .int .i64 t] 31)).alloc (.cells #[.int .i64 0, .int .i64 0, .int .i64 0, .int .i64 0, .int .u64 0, .int .i64 0, .int .i64 0] 26)).cell? ⟨w.heap.size, 1, none⟩ = some (.int .i64 rev) := HI.out.bm.met.cell 1
  have c2 : ((((w.alloc (.cells #[.int .i64 me, .int .i64 rev, .int .i64 cr, .int .i64 h, .int .u64 (b : Int), .int .i64 bad, .int .i64 lock] 26)).alloc (.cells #[.slice a n cap] 29)).alloc (.cells #[.int .i64 c, .int .i64 i, .int .i64 am, .int .i64 t] 31)).alloc (.cells #[.int .i64 0, .int .i64 0, .int .i64 0, .int .i64 0, .int .u64 0, .int .i64 0, .int .i64 0] 26)).cell? ⟨w.heap.size, 2, none⟩ = some (.int .i64 cr) := HI.out.bm.met.cell 2
  have c3 : ((((w.alloc (.cells #[.int .i64 me, .int .i64 rev, .int .i64 cr, .int .i64 h, .int .u64 (b : Int), .int .i64 bad, .int .i64 lock] 26)).alloc (.cells #[.slice a n cap] 29)).alloc (.cells #[.int .i64 c, .int .i64 i, .int .i64 am, .int .i64 t] 31)).alloc (.cells #[.int .i64 0, .int .i64 0, .int .i64 0, .int .i64 0, .int .u64 0, .int .i64 0, .int .i64 0] 26)).cell? ⟨w.heap.size, 3, none⟩ = some (.int .i64 h) := HI.out.bm.met.cell 3
  have c4 : ((((w.alloc (.cells #[.int .i64 me, .int .i64 rev, .int .i64 cr, .int .i64 h, .int .u64 (b : Int), .int .i64 bad, .int .i64 lock] 26)).alloc (.cells #[.slice a n cap] 29)).alloc (.cells #[.int .i64 c, .int .i64 i, .int .i64 am, .int .i64 t] 31)).alloc (.cells #[.int .i64 0, .int .i64 0, .int .i64 0, .int .i64 0, .int .u64 0, .int .i64 0, .int .i64 0] 26)).cell? ⟨w.heap.size, 4, none⟩ = some (.int .u64 (b : Int)) := HI.out.bm.met.cell 4
  have c5 : ((((w.alloc (.cells #[.int .i64 me, .int .i64 rev, .int .i64 cr, .int .i64 h, .int .u64 (b : Int), .int .i64 bad, .int .i64 lock] 26)).alloc (.cells #[.slice a n cap] 29)).alloc (.cells #[.int .i64 c, .int .i64 i, .int .i64 am, .int .i64 t] 31)).alloc (.cells #[.int .i64 0, .int .i64 0, .int .i64 0, .int .i64 0, .int .u64 0, .int .i64 0, .int .i64 0] 26)).cell? ⟨w.heap.size, 5, none⟩ = some (.int .i64 bad) := HI.out.bm.met.cell 5
  have c6 : ((((w.alloc (.cells #[.int .i64 me, .int .i64 rev, .int .i64 cr, .int .i64 h, .int .u64 (b : Int), .int .i64 bad, .int .i64 lock] 26)).alloc (.cells #[.slice a n cap] 29)).alloc (.cells #[.int .i64 c, .int .i64 i, .int .i64 am, .int .i64 t] 31)).alloc (.cells #[.int .i64 0, .int .i64 0, .int .i64 0, .int .i64 0, .int .u64 0, .int .i64 0, .int .i64 0] 26)).cell? ⟨w.heap.size, 6, none⟩ = some (.int .i64 lock) := HI.out.bm.met.cell 6
  have o0 := HI.out.bm.ora.cell 0
  have t0 := HI.out.tok.cell 0
  have t1 := HI.out.tok.cell 1
  have t2 := HI.out.tok.cell 2
  have t3 := HI.out.tok.cell 3
  go_enter Tryd.func6, Tryd.ntmps6
  go_wp2_with fail
  refine (HMM.out _).mono ?_
  rintro e w1 ⟨r1, rfl, hr1, hb1⟩
  have HI1 : Hid (Bk w w1 ⟨me, rev, cr, h, b, bad, lock⟩ a n cap l c i am t) := HI.out.next hb1
  clear hb1 c0 c1 c2 c3 c4 c5 c6 o0 t0 t1 t2 t3 HI
  cases r1 with
  | false =>
    have HOU : Hid (Blk w1 (w.heap.size + 3) #[.int .i64 0, .int .i64 0, .int .i64 0, .int .i64 0, .int .u64 0, .int .i64 0, .int .i64 0] 26) := HI1.out.out
    have HBE : Hid (Below w.heap.size w w1) := HI1.out.bm.bel
    have HF : Hid (KeyIs ⟨me, rev, cr, h, b, bad, lock⟩ l c i am t (bodyI c i am) ⟨0, 0, 0, 0, 0, 0, 0⟩ 0 5) := KeyIs.state fun hx => by have := hr1.2 hx.1; cases this
    clear hr1 HI1
    go_wp2_with (first
      | (refine wp_letAll rfl 26 _ _ rfl (w.heap.size + 3) rfl #[.int .i64 0, .int .i64 0, .int .i64 0, .int .i64 0, .int .u64 0, .int .i64 0, .int .i64 0] rfl (by kernel_rfl) (by simp [Value.oneCell']) #[.int .i64 0, .int .i64 0, .int .i64 0, .int .i64 0, .int .u64 0, .int .i64 0, .int .i64 0] 26 HOU.out rfl ?_)
      | go_in)
    intro WF hUF
    have R0 : Hid (WF.cell? ⟨w.heap.size + 3, 0, none⟩ = some (.int .i64 0)) := hUF.blk.cell 0
    have R1 : Hid (WF.cell? ⟨w.heap.size + 3, 1, none⟩ = some (.int .i64 0)) := hUF.blk.cell 1
    have R2 : Hid (WF.cell? ⟨w.heap.size + 3, 2, none⟩ = some (.int .i64 0)) := hUF.blk.cell 2
    have R3 : Hid (WF.cell? ⟨w.heap.size + 3, 3, none⟩ = some (.int .i64 0)) := hUF.blk.cell 3
    have R4 : Hid (WF.cell? ⟨w.heap.size + 3, 4, none⟩ = some (.int .u64 0)) := hUF.blk.cell 4
    have R5 : Hid (WF.cell? ⟨w.heap.size + 3, 5, none⟩ = some (.int .i64 0)) := hUF.blk.cell 5
    have R6 : Hid (WF.cell? ⟨w.heap.size + 3, 6, none⟩ = some (.int .i64 0)) := hUF.blk.cell 6
    have HB : Hid (Below w.heap.size w WF) := hUF.bel _ _ (by omega) HBE.out
    clear hUF HOU HBE
    go_wp2_with fail
    exact bodyPost_ret (v := .tuple #[.agg #[.int .i64 0, .int .i64 0, .int .i64 0, .int .i64 0, .int .u64 0, .int .i64 0, .int .i64 0], .int .i64 0, .int .i64 5]) (by simp [results, Tryd.results6, R0.out, R1.out, R2.out, R3.out, R4.out, R5.out, R6.out, go_sem]) rfl ⟨⟨0, 0, 0, 0, 0, 0, 0⟩, 0, 5, rfl, HF.out, HB.out⟩
  | true =>
    have HMY : Hid (Mt.may ⟨me, rev, cr, h, b, bad, lock⟩) := hr1.1 rfl
    clear hr1
    have c0 : w1.cell? ⟨w.heap.size, 0, none⟩ = some (.int .i64 me) := HI1.out.bm.met.cell 0
    have c1 : w1.cell? ⟨w.heap.size, 1, none⟩ = some (.int .i64 rev) := HI1.out.bm.met.cell 1
    have c2 : w1.cell? ⟨w.heap.size, 2, none⟩ = some (.int .i64 cr) := HI1.out.bm.met.cell 2
    have c3 : w1.cell? ⟨w.heap.size, 3, none⟩ = some (.int .i64 h) := HI1.out.bm.met.cell 3
    have c4 : w1.cell? ⟨w.heap.size, 4, none⟩ = some (.int .u64 (b : Int)) := HI1.out.bm.met.cell 4
    have c5 : w1.cell? ⟨w.heap.size, 5, none⟩ = some (.int .i64 bad) := HI1.out.bm.met.cell 5
    have c6 : w1.cell? ⟨w.heap.size, 6, none⟩ = some (.int .i64 lock) := HI1.out.bm.met.cell 6
    have o0 := HI1.out.bm.ora.cell 0
    have t0 := HI1.out.tok.cell 0
    have t1 := HI1.out.tok.cell 1
    have t2 := HI1.out.tok.cell 2
    have t3 := HI1.out.tok.cell 3
    go_wp2_with fail
    refine (HOM.out _ HI1.out.bm.row).mono ?_
    rintro e w2 ⟨r2, rfl, hr2, hb2⟩
    have HI2 : Hid (Bk w w2 ⟨me, rev, cr, h, b, bad, lock⟩ a n cap l c i am t) := HI1.out.next hb2
    clear hb2 c0 c1 c2 c3 c4 c5 c6 o0 t0 t1 t2 t3 HI1
    cases r2 with
    | false =>
      have HOU : Hid (Blk w2 (w.heap.size + 3) #[.int .i64 0, .int .i64 0, .int .i64 0, .int .i64 0, .int .u64 0, .int .i64 0, .int .i64 0] 26) := HI2.out.out
      have HBE : Hid (Below w.heap.size w w2) := HI2.out.bm.bel
      have HF : Hid (KeyIs ⟨me, rev, cr, h, b, bad, lock⟩ l c i am t (bodyI c i am) ⟨0, 0, 0, 0, 0, 0, 0⟩ 0 5) := KeyIs.state fun hx => by have := hr2.2 hx.2; cases this
      clear hr2 HI2
      go_wp2_with (first
        | (refine wp_letAll rfl 26 _ _ rfl (w.heap.size + 3) rfl #[.int .i64 0, .int .i64 0, .int .i64 0, .int .i64 0, .int .u64 0, .int .i64 0, .int .i64 0] rfl (by kernel_rfl) (by simp [Value.oneCell']) #[.int .i64 0, .int .i64 0, .int .i64 0, .int .i64 0, .int .u64 0, .int .i64 0, .int .i64 0] 26 HOU.out rfl ?_)
        | go_in)
      intro WF hUF
      have R0 : Hid (WF.cell? ⟨w.heap.size + 3, 0, none⟩ = some (.int .i64 0)) := hUF.blk.cell 0
      have R1 : Hid (WF.cell? ⟨w.heap.size + 3, 1, none⟩ = some (.int .i64 0)) := hUF.blk.cell 1
      have R2 : Hid (WF.cell? ⟨w.heap.size + 3, 2, none⟩ = some (.int .i64 0)) := hUF.blk.cell 2
      have R3 : Hid (WF.cell? ⟨w.heap.size + 3, 3, none⟩ = some (.int .i64 0)) := hUF.blk.cell 3
      have R4 : Hid (WF.cell? ⟨w.heap.size + 3, 4, none⟩ = some (.int .u64 0)) := hUF.blk.cell 4
      have R5 : Hid (WF.cell? ⟨w.heap.size + 3, 5, none⟩ = some (.int .i64 0)) := hUF.blk.cell 5
      have R6 : Hid (WF.cell? ⟨w.heap.size + 3, 6, none⟩ = some (.int .i64 0)) := hUF.blk.cell 6
      have HB : Hid (Below w.heap.size w WF) := hUF.bel _ _ (by omega) HBE.out
      clear hUF HOU HBE
      go_wp2_with fail
      exact bodyPost_ret (v := .tuple #[.agg #[.int .i64 0, .int .i64 0, .int .i64 0, .int .i64 0, .int .u64 0, .int .i64 0, .int .i64 0], .int .i64 0, .int .i64 5]) (by simp [results, Tryd.results6, R0.out, R1.out, R2.out, R3.out, R4.out, R5.out, R6.out, go_sem]) rfl ⟨⟨0, 0, 0, 0, 0, 0, 0⟩, 0, 5, rfl, HF.out, HB.out⟩
    | true =>
      have HML : Hid (Mt.may ⟨me, rev, cr, h, b, bad, lock⟩ ∧ May l) := ⟨HMY.out, hr2.1 rfl⟩
      have hn : n ≤ 500 := by rw [← HL.out]; exact HML.out.2.few
      clear hr2 HMY
      have c0 : w2.cell? ⟨w.heap.size, 0, none⟩ = some (.int .i64 me) := HI2.out.bm.met.cell 0
      have c1 : w2.cell? ⟨w.heap.size, 1, none⟩ = some (.int .i64 rev) := HI2.out.bm.met.cell 1
      have c2 : w2.cell? ⟨w.heap.size, 2, none⟩ = some (.int .i64 cr) := HI2.out.bm.met.cell 2
      have c3 : w2.cell? ⟨w.heap.size, 3, none⟩ = some (.int .i64 h) := HI2.out.bm.met.cell 3
      have c4 : w2.cell? ⟨w.heap.size, 4, none⟩ = some (.int .u64 (b : Int)) := HI2.out.bm.met.cell 4
      have c5 : w2.cell? ⟨w.heap.size, 5, none⟩ = some (.int .i64 bad) := HI2.out.bm.met.cell 5
      have c6 : w2.cell? ⟨w.heap.size, 6, none⟩ = some (.int .i64 lock) := HI2.out.bm.met.cell 6
      have o0 := HI2.out.bm.ora.cell 0
      have t0 := HI2.out.tok.cell 0
      have t1 := HI2.out.tok.cell 1
      have t2 := HI2.out.tok.cell 2
      have t3 := HI2.out.tok.cell 3
      by_cases hfl : flawT c i am t = 0
      · obtain ⟨k, hk, hkc, hki, hka, hkt⟩ := flaw_ok hfl
        have HBD : Hid (∀ W, Calls Tryd.prog 13 #[.agg #[.int .i64 c, .int .i64 i, .int .i64 am, .int .i64 t]] W fun e w' => e = .returned (.tuple #[.int .i64 (bodyI c i am), .int .i64 0]) ∧ Below W.heap.size W w') := fun W => by
          have := bodyOf_ok k W hk
          rw [← body_tok] at this
          unfold Tok.v at this
          rw [← hkc, ← hki, ← hka, ← hkt] at this
          exact this
        have HFL : Hid (flawT c i am t = 0) := hfl
        have HTR : Hid (0 ≤ c ∧ c ≤ 3 ∧ 0 ≤ am ∧ am ≤ 2097151 ∧ 1 ≤ i ∧ i ≤ 1048575) := ⟨by omega, by have := hk.c3; omega, by omega, by have := hk.a2; omega, by have := hk.i1; omega, by have := hk.i2; omega⟩
        clear hfl hkc hki hka hkt hk
        generalize hbo : bodyI c i am = bo at *
        have HBO : Hid (bodyI c i am = bo) := hbo
        clear hbo
        go_wp2_with fail
        refine (HBD.out _).mono ?_
        rintro e w3 ⟨rfl, hb3⟩
        have HI3 : Hid (Bk w w3 ⟨me, rev, cr, h, b, bad, lock⟩ a n cap l c i am t) := HI2.out.next hb3
        clear hb3 c0 c1 c2 c3 c4 c5 c6 o0 t0 t1 t2 t3 HI2
        have c0 : w3.cell? ⟨w.heap.size, 0, none⟩ = some (.int .i64 me) := HI3.out.bm.met.cell 0
        have c1 : w3.cell? ⟨w.heap.size, 1, none⟩ = some (.int .i64 rev) := HI3.out.bm.met.cell 1
        have c2 : w3.cell? ⟨w.heap.size, 2, none⟩ = some (.int .i64 cr) := HI3.out.bm.met.cell 2
        have c3 : w3.cell? ⟨w.heap.size, 3, none⟩ = some (.int .i64 h) := HI3.out.bm.met.cell 3
        have c4 : w3.cell? ⟨w.heap.size, 4, none⟩ = some (.int .u64 (b : Int)) := HI3.out.bm.met.cell 4
        have c5 : w3.cell? ⟨w.heap.size, 5, none⟩ = some (.int .i64 bad) := HI3.out.bm.met.cell 5
        have c6 : w3.cell? ⟨w.heap.size, 6, none⟩ = some (.int .i64 lock) := HI3.out.bm.met.cell 6
        have o0 := HI3.out.bm.ora.cell 0
        have t0 := HI3.out.tok.cell 0
        have t1 := HI3.out.tok.cell 1
        have t2 := HI3.out.tok.cell 2
        have t3 := HI3.out.tok.cell 3
        by_cases hlk : 0 < lock
        · have HLK : Hid (¬ lock ≤ 0) := by show ¬ lock ≤ 0; omega
          have q1 : decide (0 < lock) = true := by simp [hlk]
          have HOU : Hid (Blk w3 (w.heap.size + 3) #[.int .i64 0, .int .i64 0, .int .i64 0, .int .i64 0, .int .u64 0, .int .i64 0, .int .i64 0] 26) := HI3.out.out
          have HBE : Hid (Below w.heap.size w w3) := HI3.out.bm.bel
          have HF : Hid (KeyIs ⟨me, rev, cr, h, b, bad, lock⟩ l c i am t (bodyI c i am) ⟨me, rev, cr, h, b, bad, lock⟩ 0 10) := KeyIs.locked HML.out HFL.out HLK.out
          clear HI3
          go_wp2_with (first
            | (refine wp_letAll rfl 26 _ _ rfl (w.heap.size + 3) rfl #[.int .i64 me, .int .i64 rev, .int .i64 cr, .int .i64 h, .int .u64 (b : Int), .int .i64 bad, .int .i64 lock] rfl (by kernel_rfl) (by simp [Value.oneCell']) #[.int .i64 0, .int .i64 0, .int .i64 0, .int .i64 0, .int .u64 0, .int .i64 0, .int .i64 0] 26 HOU.out rfl ?_)
            | go_in)
          intro WF hUF
          have R0 : Hid (WF.cell? ⟨w.heap.size + 3, 0, none⟩ = some (.int .i64 me)) := hUF.blk.cell 0
          have R1 : Hid (WF.cell? ⟨w.heap.size + 3, 1, none⟩ = some (.int .i64 rev)) := hUF.blk.cell 1
          have R2 : Hid (WF.cell? ⟨w.heap.size + 3, 2, none⟩ = some (.int .i64 cr)) := hUF.blk.cell 2
          have R3 : Hid (WF.cell? ⟨w.heap.size + 3, 3, none⟩ = some (.int .i64 h)) := hUF.blk.cell 3
          have R4 : Hid (WF.cell? ⟨w.heap.size + 3, 4, none⟩ = some (.int .u64 (b : Int))) := hUF.blk.cell 4
          have R5 : Hid (WF.cell? ⟨w.heap.size + 3, 5, none⟩ = some (.int .i64 bad)) := hUF.blk.cell 5
          have R6 : Hid (WF.cell? ⟨w.heap.size + 3, 6, none⟩ = some (.int .i64 lock)) := hUF.blk.cell 6
          have HB : Hid (Below w.heap.size w WF) := hUF.bel _ _ (by omega) HBE.out
          clear hUF HOU HBE
          go_wp2_with fail
          exact bodyPost_ret (v := .tuple #[.agg #[.int .i64 me, .int .i64 rev, .int .i64 cr, .int .i64 h, .int .u64 (b : Int), .int .i64 bad, .int .i64 lock], .int .i64 0, .int .i64 10]) (by simp [results, Tryd.results6, R0.out, R1.out, R2.out, R3.out, R4.out, R5.out, R6.out, go_sem]) rfl ⟨⟨me, rev, cr, h, b, bad, lock⟩, 0, 10, rfl, HF.out, HB.out⟩
        · have HLK : Hid (lock ≤ 0) := by show lock ≤ 0; omega
          have q1 : decide (0 < lock) = false := by simp; omega
          by_cases hc3 : c = 3
          · have q2 : (c == 3) = true := by simp [hc3]
            have HC3 : Hid (¬ (c ≠ 3)) := fun h => h hc3
            clear hc3
            have HOU : Hid (Blk w3 (w.heap.size + 3) #[.int .i64 0, .int .i64 0, .int .i64 0, .int .i64 0, .int .u64 0, .int .i64 0, .int .i64 0] 26) := HI3.out.out
            have HBE : Hid (Below w.heap.size w w3) := HI3.out.bm.bel
            have HF : Hid (KeyIs ⟨me, rev, cr, h, b, bad, lock⟩ l c i am t (bodyI c i am) ⟨me, rev, cr, h, b, bad, lock⟩ 0 0) := KeyIs.test HML.out HFL.out HLK.out HC3.out
            clear HI3
            go_wp2_with (first
              | (refine wp_letAll rfl 26 _ _ rfl (w.heap.size + 3) rfl #[.int .i64 me, .int .i64 rev, .int .i64 cr, .int .i64 h, .int .u64 (b : Int), .int .i64 bad, .int .i64 lock] rfl (by kernel_rfl) (by simp [Value.oneCell']) #[.int .i64 0, .int .i64 0, .int .i64 0, .int .i64 0, .int .u64 0, .int .i64 0, .int .i64 0] 26 HOU.out rfl ?_)
              | go_in)
            intro WF hUF
            have R0 : Hid (WF.cell? ⟨w.heap.size + 3, 0, none⟩ = some (.int .i64 me)) := hUF.blk.cell 0
            have R1 : Hid (WF.cell? ⟨w.heap.size + 3, 1, none⟩ = some (.int .i64 rev)) := hUF.blk.cell 1
            have R2 : Hid (WF.cell? ⟨w.heap.size + 3, 2, none⟩ = some (.int .i64 cr)) := hUF.blk.cell 2
            have R3 : Hid (WF.cell? ⟨w.heap.size + 3, 3, none⟩ = some (.int .i64 h)) := hUF.blk.cell 3
            have R4 : Hid (WF.cell? ⟨w.heap.size + 3, 4, none⟩ = some (.int .u64 (b : Int))) := hUF.blk.cell 4
            have R5 : Hid (WF.cell? ⟨w.heap.size + 3, 5, none⟩ = some (.int .i64 bad)) := hUF.blk.cell 5
            have R6 : Hid (WF.cell? ⟨w.heap.size + 3, 6, none⟩ = some (.int .i64 lock)) := hUF.blk.cell 6
            have HB : Hid (Below w.heap.size w WF) := hUF.bel _ _ (by omega) HBE.out
            clear hUF HOU HBE
            go_wp2_with fail
            exact bodyPost_ret (v := .tuple #[.agg #[.int .i64 me, .int .i64 rev, .int .i64 cr, .int .i64 h, .int .u64 (b : Int), .int .i64 bad, .int .i64 lock], .int .i64 0, .int .i64 0]) (by simp [results, Tryd.results6, R0.out, R1.out, R2.out, R3.out, R4.out, R5.out, R6.out, go_sem]) rfl ⟨⟨me, rev, cr, h, b, bad, lock⟩, 0, 0, rfl, HF.out, HB.out⟩
          · have q2 : (c == 3) = false := by simp [hc3]
            have HC3 : Hid (c ≠ 3) := hc3
            have HS3 : Hid (Calls Tryd.prog 14 #[.agg #[.int .i64 me, .int .i64 rev, .int .i64 cr, .int .i64 h, .int .u64 (b : Int), .int .i64 bad, .int .i64 lock], .agg #[.slice a n cap], .int .i64 bo, .int .i64 t] w3 fun e w' => SellPost w3 l me rev bo t e w') := HSL.out w3 bo HI3.out.bm.row hn
            clear hc3
            go_wp2_with fail
            refine HS3.out.mono ?_
            rintro e w4 ⟨hb4, r, rfl, hsell⟩
            have HI4 : Hid (Bk w w4 ⟨me, rev, cr, h, b, bad, lock⟩ a n cap l c i am t) := HI3.out.next hb4
            clear hb4 c0 c1 c2 c3 c4 c5 c6 o0 t0 t1 t2 t3 HI3 HS3
            have c0 : w4.cell? ⟨w.heap.size, 0, none⟩ = some (.int .i64 me) := HI4.out.bm.met.cell 0
            have c1 : w4.cell? ⟨w.heap.size, 1, none⟩ = some (.int .i64 rev) := HI4.out.bm.met.cell 1
            have c2 : w4.cell? ⟨w.heap.size, 2, none⟩ = some (.int .i64 cr) := HI4.out.bm.met.cell 2
            have c3 : w4.cell? ⟨w.heap.size, 3, none⟩ = some (.int .i64 h) := HI4.out.bm.met.cell 3
            have c4 : w4.cell? ⟨w.heap.size, 4, none⟩ = some (.int .u64 (b : Int)) := HI4.out.bm.met.cell 4
            have c5 : w4.cell? ⟨w.heap.size, 5, none⟩ = some (.int .i64 bad) := HI4.out.bm.met.cell 5
            have c6 : w4.cell? ⟨w.heap.size, 6, none⟩ = some (.int .i64 lock) := HI4.out.bm.met.cell 6
            have o0 := HI4.out.bm.ora.cell 0
            have t0 := HI4.out.tok.cell 0
            have t1 := HI4.out.tok.cell 1
            have t2 := HI4.out.tok.cell 2
            have t3 := HI4.out.tok.cell 3
            rw [← HBO.out] at hsell
            rcases hsell with ⟨rfl, hhe⟩ | ⟨rfl, hhe, hea⟩ | ⟨rfl, hhe, hea⟩
            · have HHE : Hid (Here l me rev (bodyI c i am) t) := hhe
              clear hhe
              have HI5 : Hid (Bk w (w4.alloc (.cells #[.int .i64 me, .int .i64 rev, .int .i64 cr, .int .i64 h, .int .u64 (b : Int), .int .i64 bad, .int .i64 lock] 26)) ⟨me, rev, cr, h, b, bad, lock⟩ a n cap l c i am t) := HI4.out.alloc _
              have HG5 : Hid (Blk (w4.alloc (.cells #[.int .i64 me, .int .i64 rev, .int .i64 cr, .int .i64 h, .int .u64 (b : Int), .int .i64 bad, .int .i64 lock] 26)) w4.heap.size #[.int .i64 me, .int .i64 rev, .int .i64 cr, .int .i64 h, .int .u64 (b : Int), .int .i64 bad, .int .i64 lock] 26) := Blk.new _ _ _
              have HLT : Hid (w.heap.size + 4 ≤ w4.heap.size) := HI4.out.out.lt
              have HT5 : Hid (Calls Tryd.prog 15 #[.agg #[.int .i64 h, .int .u64 (b : Int)], .int .i64 i] (w4.alloc (.cells #[.int .i64 me, .int .i64 rev, .int .i64 cr, .int .i64 h, .int .u64 (b : Int), .int .i64 bad, .int .i64 lock] 26)) fun e w' => win.TakePost (w4.alloc (.cells #[.int .i64 me, .int .i64 rev, .int .i64 cr, .int .i64 h, .int .u64 (b : Int), .int .i64 bad, .int .i64 lock] 26)) h b i e w') := HTK.out _
              have d3 : (w4.alloc (.cells #[.int .i64 me, .int .i64 rev, .int .i64 cr, .int .i64 h, .int .u64 (b : Int), .int .i64 bad, .int .i64 lock] 26)).cell? ⟨w.heap.size, 3, none⟩ = some (.int .i64 h) := HI5.out.bm.met.cell 3
              have d4 : (w4.alloc (.cells #[.int .i64 me, .int .i64 rev, .int .i64 cr, .int .i64 h, .int .u64 (b : Int), .int .i64 bad, .int .i64 lock] 26)).cell? ⟨w.heap.size, 4, none⟩ = some (.int .u64 (b : Int)) := HI5.out.bm.met.cell 4
              have e1 : (w4.alloc (.cells #[.int .i64 me, .int .i64 rev, .int .i64 cr, .int .i64 h, .int .u64 (b : Int), .int .i64 bad, .int .i64 lock] 26)).cell? ⟨w.heap.size + 2, 1, none⟩ = some (.int .i64 i) := HI5.out.tok.cell 1
              go_wp2_with fail
              refine HT5.out.mono ?_
              rintro e w6 ⟨h1, b1, f, rfl, hj, hne, heq, hb6⟩
              have HI6 : Hid (Bk w (w6.alloc (.cells #[.int .i64 h1, .int .u64 (b1 : Int)] 24)) ⟨me, rev, cr, h, b, bad, lock⟩ a n cap l c i am t) := (HI5.out.next hb6).alloc _
              have HG6 : Hid (Blk (w6.alloc (.cells #[.int .i64 h1, .int .u64 (b1 : Int)] 24)) w4.heap.size #[.int .i64 me, .int .i64 rev, .int .i64 cr, .int .i64 h, .int .u64 (b : Int), .int .i64 bad, .int .i64 lock] 26) := (HG5.out.next hb6).alloc _
              have HW6 : Hid (Blk (w6.alloc (.cells #[.int .i64 h1, .int .u64 (b1 : Int)] 24)) w6.heap.size #[.int .i64 h1, .int .u64 (b1 : Int)] 24) := Blk.new _ _ _
              have HJ6 : Hid (win.JudgeIs h b i f ∧ (f = 0 → h1 = max h i ∧ b1 = win.took h b i)) := ⟨hj, heq⟩
              clear hj hne heq hb6 d3 d4 e1 c0 c1 c2 c3 c4 c5 c6 o0 t0 t1 t2 t3 HI4 HI5 HG5 HT5
              generalize w4.heap.size = g12 at *
              have c0 : (w6.alloc (.cells #[.int .i64 h1, .int .u64 (b1 : Int)] 24)).cell? ⟨w.heap.size, 0, none⟩ = some (.int .i64 me) := HI6.out.bm.met.cell 0
              have c1 : (w6.alloc (.cells #[.int .i64 h1, .int .u64 (b1 : Int)] 24)).cell? ⟨w.heap.size, 1, none⟩ = some (.int .i64 rev) := HI6.out.bm.met.cell 1
              have c2 : (w6.alloc (.cells #[.int .i64 h1, .int .u64 (b1 : Int)] 24)).cell? ⟨w.heap.size, 2, none⟩ = some (.int .i64 cr) := HI6.out.bm.met.cell 2
              have c3 : (w6.alloc (.cells #[.int .i64 h1, .int .u64 (b1 : Int)] 24)).cell? ⟨w.heap.size, 3, none⟩ = some (.int .i64 h) := HI6.out.bm.met.cell 3
              have c4 : (w6.alloc (.cells #[.int .i64 h1, .int .u64 (b1 : Int)] 24)).cell? ⟨w.heap.size, 4, none⟩ = some (.int .u64 (b : Int)) := HI6.out.bm.met.cell 4
              have c5 : (w6.alloc (.cells #[.int .i64 h1, .int .u64 (b1 : Int)] 24)).cell? ⟨w.heap.size, 5, none⟩ = some (.int .i64 bad) := HI6.out.bm.met.cell 5
              have c6 : (w6.alloc (.cells #[.int .i64 h1, .int .u64 (b1 : Int)] 24)).cell? ⟨w.heap.size, 6, none⟩ = some (.int .i64 lock) := HI6.out.bm.met.cell 6
              have o0 := HI6.out.bm.ora.cell 0
              have t0 := HI6.out.tok.cell 0
              have t1 := HI6.out.tok.cell 1
              have t2 := HI6.out.tok.cell 2
              have t3 := HI6.out.tok.cell 3
              by_cases hf : f = 0
              · subst hf
                have HJ0 : Hid (win.JudgeIs h b i 0) := HJ6.out.1
                obtain ⟨hh1, hb1⟩ := HJ6.out.2 rfl
                have HHB : Hid (max h i = h1 ∧ win.took h b i = b1) := ⟨hh1.symm, hb1.symm⟩
                have hcr := HML.out.1.cr
                simp only [] at hcr
                obtain ⟨cr0, cr1⟩ := hcr
                obtain ⟨tr1, tr2, tr3, tr4, _, _⟩ := HTR.out
                clear hh1 hb1 HJ6
                by_cases hfu : c = 0 ∧ 99999999 - cr < am
                · have s1 : (c == 0) = true := by simp [hfu.1]
                  have s2 : decide (99999999 - cr < am) = true := by simp; omega
                  have HFU : Hid (¬ ¬ (c = 0 ∧ 99999999 - cr < am)) := fun h => h hfu
                  clear hfu
                  have HOU : Hid (Blk (w6.alloc (.cells #[.int .i64 h1, .int .u64 (b1 : Int)] 24)) (w.heap.size + 3) #[.int .i64 0, .int .i64 0, .int .i64 0, .int .i64 0, .int .u64 0, .int .i64 0, .int .i64 0] 26) := HI6.out.out
                  have HBE : Hid (Below w.heap.size w (w6.alloc (.cells #[.int .i64 h1, .int .u64 (b1 : Int)] 24))) := HI6.out.bm.bel
                  have HF : Hid (KeyIs ⟨me, rev, cr, h, b, bad, lock⟩ l c i am t (bodyI c i am) ⟨me, rev, cr, h, b, bad, lock⟩ 0 15) := KeyIs.full HML.out HFL.out HLK.out HC3.out HHE.out HJ0.out HFU.out
                  clear HI6
                  go_wp2_with (first
                    | (refine wp_letAll rfl 26 _ _ rfl (w.heap.size + 3) rfl #[.int .i64 me, .int .i64 rev, .int .i64 cr, .int .i64 h, .int .u64 (b : Int), .int .i64 bad, .int .i64 lock] rfl (by kernel_rfl) (by simp [Value.oneCell']) #[.int .i64 0, .int .i64 0, .int .i64 0, .int .i64 0, .int .u64 0, .int .i64 0, .int .i64 0] 26 HOU.out rfl ?_)
                    | go_in)
                  intro WF hUF
                  have R0 : Hid (WF.cell? ⟨w.heap.size + 3, 0, none⟩ = some (.int .i64 me)) := hUF.blk.cell 0
                  have R1 : Hid (WF.cell? ⟨w.heap.size + 3, 1, none⟩ = some (.int .i64 rev)) := hUF.blk.cell 1
                  have R2 : Hid (WF.cell? ⟨w.heap.size + 3, 2, none⟩ = some (.int .i64 cr)) := hUF.blk.cell 2
                  have R3 : Hid (WF.cell? ⟨w.heap.size + 3, 3, none⟩ = some (.int .i64 h)) := hUF.blk.cell 3
                  have R4 : Hid (WF.cell? ⟨w.heap.size + 3, 4, none⟩ = some (.int .u64 (b : Int))) := hUF.blk.cell 4
                  have R5 : Hid (WF.cell? ⟨w.heap.size + 3, 5, none⟩ = some (.int .i64 bad)) := hUF.blk.cell 5
                  have R6 : Hid (WF.cell? ⟨w.heap.size + 3, 6, none⟩ = some (.int .i64 lock)) := hUF.blk.cell 6
                  have HB : Hid (Below w.heap.size w WF) := hUF.bel _ _ (by omega) HBE.out
                  clear hUF HOU HBE
                  go_wp2_with fail
                  exact bodyPost_ret (v := .tuple #[.agg #[.int .i64 me, .int .i64 rev, .int .i64 cr, .int .i64 h, .int .u64 (b : Int), .int .i64 bad, .int .i64 lock], .int .i64 0, .int .i64 15]) (by simp [results, Tryd.results6, R0.out, R1.out, R2.out, R3.out, R4.out, R5.out, R6.out, go_sem]) rfl ⟨⟨me, rev, cr, h, b, bad, lock⟩, 0, 15, rfl, HF.out, HB.out⟩
                · have HFU : Hid (¬ (c = 0 ∧ 99999999 - cr < am)) := hfu
                  by_cases hky : c = 2 ∧ am ≤ rev
                  · have s1 : (c == 0) = false := by simp only [beq_eq_false_iff_ne, ne_eq]; omega
                    have s3 : (c == 2) = true := by simp [hky.1]
                    have s4 : decide (am ≤ rev) = true := by simp; omega
                    have HKY : Hid (¬ ¬ (c = 2 ∧ am ≤ rev)) := fun h => h hky
                    clear hky hfu
                    have HOU : Hid (Blk (w6.alloc (.cells #[.int .i64 h1, .int .u64 (b1 : Int)] 24)) (w.heap.size + 3) #[.int .i64 0, .int .i64 0, .int .i64 0, .int .i64 0, .int .u64 0, .int .i64 0, .int .i64 0] 26) := HI6.out.out
                    have HBE : Hid (Below w.heap.size w (w6.alloc (.cells #[.int .i64 h1, .int .u64 (b1 : Int)] 24))) := HI6.out.bm.bel
                    have HF : Hid (KeyIs ⟨me, rev, cr, h, b, bad, lock⟩ l c i am t (bodyI c i am) ⟨me, rev, cr, h, b, bad, lock⟩ 0 24) := KeyIs.key HML.out HFL.out HLK.out HC3.out HHE.out HJ0.out HFU.out HKY.out
                    clear HI6
                    go_wp2_with (first
                      | (refine wp_letAll rfl 26 _ _ rfl (w.heap.size + 3) rfl #[.int .i64 me, .int .i64 rev, .int .i64 cr, .int .i64 h, .int .u64 (b : Int), .int .i64 bad, .int .i64 lock] rfl (by kernel_rfl) (by simp [Value.oneCell']) #[.int .i64 0, .int .i64 0, .int .i64 0, .int .i64 0, .int .u64 0, .int .i64 0, .int .i64 0] 26 HOU.out rfl ?_)
                      | go_in)
                    intro WF hUF
                    have R0 : Hid (WF.cell? ⟨w.heap.size + 3, 0, none⟩ = some (.int .i64 me)) := hUF.blk.cell 0
                    have R1 : Hid (WF.cell? ⟨w.heap.size + 3, 1, none⟩ = some (.int .i64 rev)) := hUF.blk.cell 1
                    have R2 : Hid (WF.cell? ⟨w.heap.size + 3, 2, none⟩ = some (.int .i64 cr)) := hUF.blk.cell 2
                    have R3 : Hid (WF.cell? ⟨w.heap.size + 3, 3, none⟩ = some (.int .i64 h)) := hUF.blk.cell 3
                    have R4 : Hid (WF.cell? ⟨w.heap.size + 3, 4, none⟩ = some (.int .u64 (b : Int))) := hUF.blk.cell 4
                    have R5 : Hid (WF.cell? ⟨w.heap.size + 3, 5, none⟩ = some (.int .i64 bad)) := hUF.blk.cell 5
                    have R6 : Hid (WF.cell? ⟨w.heap.size + 3, 6, none⟩ = some (.int .i64 lock)) := hUF.blk.cell 6
                    have HB : Hid (Below w.heap.size w WF) := hUF.bel _ _ (by omega) HBE.out
                    clear hUF HOU HBE
                    go_wp2_with fail
                    exact bodyPost_ret (v := .tuple #[.agg #[.int .i64 me, .int .i64 rev, .int .i64 cr, .int .i64 h, .int .u64 (b : Int), .int .i64 bad, .int .i64 lock], .int .i64 0, .int .i64 24]) (by simp [results, Tryd.results6, R0.out, R1.out, R2.out, R3.out, R4.out, R5.out, R6.out, go_sem]) rfl ⟨⟨me, rev, cr, h, b, bad, lock⟩, 0, 24, rfl, HF.out, HB.out⟩
                  · have HKY : Hid (¬ (c = 2 ∧ am ≤ rev)) := hky
                    have HTN : Hid (KeyIs ⟨me, rev, cr, h, b, bad, lock⟩ l c i am t (bodyI c i am) (taken ⟨me, rev, cr, h, b, bad, lock⟩ c i am) (if c = 0 then am else 0) 0) := KeyIs.take HML.out HFL.out HLK.out HC3.out HHE.out HJ0.out HFU.out HKY.out
                    have hcc : c = 0 ∨ c = 1 ∨ c = 2 := by have := HC3.out; omega
                    rcases hcc with hcc | hcc | hcc
                    · have HTV : Hid (KeyIs ⟨me, rev, cr, h, b, bad, lock⟩ l c i am t (bodyI c i am) ⟨me, rev, cr + am, h1, b1, 0, lock⟩ am 0) := by
                        have := HTN.out
                        rw [show taken ⟨me, rev, cr, h, b, bad, lock⟩ c i am = ⟨me, rev, cr + am, h1, b1, 0, lock⟩ from by rw [taken, HHB.out.1, HHB.out.2, hcc]; rfl, show (if c = 0 then am else 0) = am from by rw [hcc]; rfl] at this
                        exact this
                      have s1 : (c == 0) = true := by rw [hcc]; rfl
                      have s2 : (c == 1) = false := by rw [hcc]; rfl
                      have s3 : (c == 2) = false := by rw [hcc]; rfl
                      have s6 : decide (99999999 - cr < am) = false := by simp only [decide_eq_false_iff_not]; omega
                      have hw0 := HW6.out.cell 0
                      have hw1 := HW6.out.cell 1
                      have H6 : Hid (Blk (w6.alloc (.cells #[.int .i64 h1, .int .u64 (b1 : Int)] 24)) g12 #[.int .i64 me, .int .i64 rev, .int .i64 cr, .int .i64 h, .int .u64 (b : Int), .int .i64 bad, .int .i64 lock] 26 ∧ Blk (w6.alloc (.cells #[.int .i64 h1, .int .u64 (b1 : Int)] 24)) (w.heap.size + 2) #[.int .i64 c, .int .i64 i, .int .i64 am, .int .i64 t] 31 ∧ Blk (w6.alloc (.cells #[.int .i64 h1, .int .u64 (b1 : Int)] 24)) w.heap.size #[.int .i64 me, .int .i64 rev, .int .i64 cr, .int .i64 h, .int .u64 (b : Int), .int .i64 bad, .int .i64 lock] 26 ∧ Blk (w6.alloc (.cells #[.int .i64 h1, .int .u64 (b1 : Int)] 24)) (w.heap.size + 3) #[.int .i64 0, .int .i64 0, .int .i64 0, .int .i64 0, .int .u64 0, .int .i64 0, .int .i64 0] 26 ∧ Below w.heap.size w (w6.alloc (.cells #[.int .i64 h1, .int .u64 (b1 : Int)] 24))) := ⟨HG6.out, HI6.out.tok, HI6.out.bm.met, HI6.out.out, HI6.out.bm.bel⟩
                      clear hcc HTN hky hfu HI6 HW6
                      go_wp2_with (first
                        | (refine wp_let rfl 24 _ _ rfl g12 3 rfl _ rfl #[.int .i64 h1, .int .u64 (b1 : Int)] rfl (by kernel_rfl) (by simp [Value.oneCell']) #[.int .i64 me, .int .i64 rev, .int .i64 cr, .int .i64 h, .int .u64 (b : Int), .int .i64 bad, .int .i64 lock] 26 HG6.out (by simp) _ (by rfl) ?_)
                        | go_in)
                      intro W7 hU
                      have hlt := HLT.out
                      clear c0 c1 c2 c3 c4 c5 c6 o0 t0 t1 t2 t3 hw0 hw1
                      have H7 : Hid (Blk W7 g12 #[.int .i64 me, .int .i64 rev, .int .i64 cr, .int .i64 h1, .int .u64 (b1 : Int), .int .i64 bad, .int .i64 lock] 26 ∧ Blk W7 (w.heap.size + 2) #[.int .i64 c, .int .i64 i, .int .i64 am, .int .i64 t] 31 ∧ Blk W7 w.heap.size #[.int .i64 me, .int .i64 rev, .int .i64 cr, .int .i64 h, .int .u64 (b : Int), .int .i64 bad, .int .i64 lock] 26 ∧ Blk W7 (w.heap.size + 3) #[.int .i64 0, .int .i64 0, .int .i64 0, .int .i64 0, .int .u64 0, .int .i64 0, .int .i64 0] 26 ∧ Below w.heap.size w W7) := ⟨hU.blk, hU.keep H6.out.2.1 (by omega), hU.keep H6.out.2.2.1 (by omega), hU.keep H6.out.2.2.2.1 (by omega), hU.bel _ _ (by omega) H6.out.2.2.2.2⟩
                      have HG7 : Hid (Blk W7 g12 #[.int .i64 me, .int .i64 rev, .int .i64 cr, .int .i64 h1, .int .u64 (b1 : Int), .int .i64 bad, .int .i64 lock] 26) := hU.blk
                      clear hU hlt H6 HG6
                      go_wp2_with (first
                        | (refine wp_let1 rfl 3 _ _ rfl g12 5 rfl .i64 0 rfl (by kernel_rfl) #[.int .i64 me, .int .i64 rev, .int .i64 cr, .int .i64 h1, .int .u64 (b1 : Int), .int .i64 bad, .int .i64 lock] 26 HG7.out (by simp) ?_)
                        | go_in)
                      intro W8 hU
                      have hlt := HLT.out
                      have H8 : Hid (Blk W8 g12 #[.int .i64 me, .int .i64 rev, .int .i64 cr, .int .i64 h1, .int .u64 (b1 : Int), .int .i64 0, .int .i64 lock] 26 ∧ Blk W8 (w.heap.size + 2) #[.int .i64 c, .int .i64 i, .int .i64 am, .int .i64 t] 31 ∧ Blk W8 w.heap.size #[.int .i64 me, .int .i64 rev, .int .i64 cr, .int .i64 h, .int .u64 (b : Int), .int .i64 bad, .int .i64 lock] 26 ∧ Blk W8 (w.heap.size + 3) #[.int .i64 0, .int .i64 0, .int .i64 0, .int .i64 0, .int .u64 0, .int .i64 0, .int .i64 0] 26 ∧ Below w.heap.size w W8) := ⟨hU.blk, hU.keep H7.out.2.1 (by omega), hU.keep H7.out.2.2.1 (by omega), hU.keep H7.out.2.2.2.1 (by omega), hU.bel _ _ (by omega) H7.out.2.2.2.2⟩
                      have HG8 : Hid (Blk W8 g12 #[.int .i64 me, .int .i64 rev, .int .i64 cr, .int .i64 h1, .int .u64 (b1 : Int), .int .i64 0, .int .i64 lock] 26) := hU.blk
                      clear hU hlt H7 HG7
                      have a0 := H8.out.2.1.cell 0
                      have a2 := H8.out.2.1.cell 2
                      have m2 : W8.cell? ⟨w.heap.size, 2, none⟩ = some (.int .i64 cr) := H8.out.2.2.1.cell 2
                      go_wp2_with (first
                        | (refine wp_let1 rfl 3 _ _ rfl g12 2 rfl .i64 (cr + am) rfl (by kernel_rfl) #[.int .i64 me, .int .i64 rev, .int .i64 cr, .int .i64 h1, .int .u64 (b1 : Int), .int .i64 0, .int .i64 lock] 26 HG8.out (by simp) ?_)
                        | go_in)
                      intro W9 hU
                      have hlt := HLT.out
                      clear a0 a2 m2
                      have H9 : Hid (Blk W9 g12 #[.int .i64 me, .int .i64 rev, .int .i64 (cr + am), .int .i64 h1, .int .u64 (b1 : Int), .int .i64 0, .int .i64 lock] 26 ∧ Blk W9 (w.heap.size + 2) #[.int .i64 c, .int .i64 i, .int .i64 am, .int .i64 t] 31 ∧ Blk W9 w.heap.size #[.int .i64 me, .int .i64 rev, .int .i64 cr, .int .i64 h, .int .u64 (b : Int), .int .i64 bad, .int .i64 lock] 26 ∧ Blk W9 (w.heap.size + 3) #[.int .i64 0, .int .i64 0, .int .i64 0, .int .i64 0, .int .u64 0, .int .i64 0, .int .i64 0] 26 ∧ Below w.heap.size w W9) := ⟨hU.blk, hU.keep H8.out.2.1 (by omega), hU.keep H8.out.2.2.1 (by omega), hU.keep H8.out.2.2.2.1 (by omega), hU.bel _ _ (by omega) H8.out.2.2.2.2⟩
                      have HG9 : Hid (Blk W9 g12 #[.int .i64 me, .int .i64 rev, .int .i64 (cr + am), .int .i64 h1, .int .u64 (b1 : Int), .int .i64 0, .int .i64 lock] 26) := hU.blk
                      clear hU hlt H8 HG8
                      have a0 := H9.out.2.1.cell 0
                      have a2 := H9.out.2.1.cell 2
                      have HOU : Hid (Blk W9 (w.heap.size + 3) #[.int .i64 0, .int .i64 0, .int .i64 0, .int .i64 0, .int .u64 0, .int .i64 0, .int .i64 0] 26) := H9.out.2.2.2.1
                      have HBE : Hid (Below w.heap.size w W9) := H9.out.2.2.2.2
                      have HF : Hid (KeyIs ⟨me, rev, cr, h, b, bad, lock⟩ l c i am t (bodyI c i am) ⟨me, rev, cr + am, h1, b1, 0, lock⟩ am 0) := HTV.out
                      clear H9
                      go_wp2_with (first
                        | (refine wp_whole rfl 26 _ rfl g12 rfl 26 #[.int .i64 me, .int .i64 rev, .int .i64 (cr + am), .int .i64 h1, .int .u64 (b1 : Int), .int .i64 0, .int .i64 lock] _ HG9.out Tryd.underlying26 rfl (by kernel_rfl) ?_)
                        | (refine wp_letAll rfl 26 _ _ rfl (w.heap.size + 3) rfl #[.int .i64 me, .int .i64 rev, .int .i64 (cr + am), .int .i64 h1, .int .u64 (b1 : Int), .int .i64 0, .int .i64 lock] rfl (by kernel_rfl) (by simp [Value.oneCell']) #[.int .i64 0, .int .i64 0, .int .i64 0, .int .i64 0, .int .u64 0, .int .i64 0, .int .i64 0] 26 HOU.out rfl ?_)
                        | go_in)
                      intro WF hUF
                      have R0 : Hid (WF.cell? ⟨w.heap.size + 3, 0, none⟩ = some (.int .i64 me)) := hUF.blk.cell 0
                      have R1 : Hid (WF.cell? ⟨w.heap.size + 3, 1, none⟩ = some (.int .i64 rev)) := hUF.blk.cell 1
                      have R2 : Hid (WF.cell? ⟨w.heap.size + 3, 2, none⟩ = some (.int .i64 (cr + am))) := hUF.blk.cell 2
                      have R3 : Hid (WF.cell? ⟨w.heap.size + 3, 3, none⟩ = some (.int .i64 h1)) := hUF.blk.cell 3
                      have R4 : Hid (WF.cell? ⟨w.heap.size + 3, 4, none⟩ = some (.int .u64 (b1 : Int))) := hUF.blk.cell 4
                      have R5 : Hid (WF.cell? ⟨w.heap.size + 3, 5, none⟩ = some (.int .i64 0)) := hUF.blk.cell 5
                      have R6 : Hid (WF.cell? ⟨w.heap.size + 3, 6, none⟩ = some (.int .i64 lock)) := hUF.blk.cell 6
                      have HB : Hid (Below w.heap.size w WF) := hUF.bel _ _ (by omega) HBE.out
                      clear hUF HOU HBE
                      go_wp2_with fail
                      exact bodyPost_ret (v := .tuple #[.agg #[.int .i64 me, .int .i64 rev, .int .i64 (cr + am), .int .i64 h1, .int .u64 (b1 : Int), .int .i64 0, .int .i64 lock], .int .i64 am, .int .i64 0]) (by simp [results, Tryd.results6, R0.out, R1.out, R2.out, R3.out, R4.out, R5.out, R6.out, go_sem]) rfl ⟨⟨me, rev, cr + am, h1, b1, 0, lock⟩, am, 0, rfl, HF.out, HB.out⟩
                    · have HTV : Hid (KeyIs ⟨me, rev, cr, h, b, bad, lock⟩ l c i am t (bodyI c i am) ⟨me, rev, 0, h1, b1, 0, lock⟩ 0 0) := by
                        have := HTN.out
                        rw [show taken ⟨me, rev, cr, h, b, bad, lock⟩ c i am = ⟨me, rev, 0, h1, b1, 0, lock⟩ from by rw [taken, HHB.out.1, HHB.out.2, hcc]; rfl, show (if c = 0 then am else 0) = 0 from by rw [hcc]; rfl] at this
                        exact this
                      have s1 : (c == 0) = false := by rw [hcc]; rfl
                      have s2 : (c == 1) = true := by rw [hcc]; rfl
                      have s3 : (c == 2) = false := by rw [hcc]; rfl
                      have hw0 := HW6.out.cell 0
                      have hw1 := HW6.out.cell 1
                      have H6 : Hid (Blk (w6.alloc (.cells #[.int .i64 h1, .int .u64 (b1 : Int)] 24)) g12 #[.int .i64 me, .int .i64 rev, .int .i64 cr, .int .i64 h, .int .u64 (b : Int), .int .i64 bad, .int .i64 lock] 26 ∧ Blk (w6.alloc (.cells #[.int .i64 h1, .int .u64 (b1 : Int)] 24)) (w.heap.size + 2) #[.int .i64 c, .int .i64 i, .int .i64 am, .int .i64 t] 31 ∧ Blk (w6.alloc (.cells #[.int .i64 h1, .int .u64 (b1 : Int)] 24)) w.heap.size #[.int .i64 me, .int .i64 rev, .int .i64 cr, .int .i64 h, .int .u64 (b : Int), .int .i64 bad, .int .i64 lock] 26 ∧ Blk (w6.alloc (.cells #[.int .i64 h1, .int .u64 (b1 : Int)] 24)) (w.heap.size + 3) #[.int .i64 0, .int .i64 0, .int .i64 0, .int .i64 0, .int .u64 0, .int .i64 0, .int .i64 0] 26 ∧ Below w.heap.size w (w6.alloc (.cells #[.int .i64 h1, .int .u64 (b1 : Int)] 24))) := ⟨HG6.out, HI6.out.tok, HI6.out.bm.met, HI6.out.out, HI6.out.bm.bel⟩
                      clear hcc HTN hky hfu HI6 HW6
                      go_wp2_with (first
                        | (refine wp_let rfl 24 _ _ rfl g12 3 rfl _ rfl #[.int .i64 h1, .int .u64 (b1 : Int)] rfl (by kernel_rfl) (by simp [Value.oneCell']) #[.int .i64 me, .int .i64 rev, .int .i64 cr, .int .i64 h, .int .u64 (b : Int), .int .i64 bad, .int .i64 lock] 26 HG6.out (by simp) _ (by rfl) ?_)
                        | go_in)
                      intro W7 hU
                      have hlt := HLT.out
                      clear c0 c1 c2 c3 c4 c5 c6 o0 t0 t1 t2 t3 hw0 hw1
                      have H7 : Hid (Blk W7 g12 #[.int .i64 me, .int .i64 rev, .int .i64 cr, .int .i64 h1, .int .u64 (b1 : Int), .int .i64 bad, .int .i64 lock] 26 ∧ Blk W7 (w.heap.size + 2) #[.int .i64 c, .int .i64 i, .int .i64 am, .int .i64 t] 31 ∧ Blk W7 w.heap.size #[.int .i64 me, .int .i64 rev, .int .i64 cr, .int .i64 h, .int .u64 (b : Int), .int .i64 bad, .int .i64 lock] 26 ∧ Blk W7 (w.heap.size + 3) #[.int .i64 0, .int .i64 0, .int .i64 0, .int .i64 0, .int .u64 0, .int .i64 0, .int .i64 0] 26 ∧ Below w.heap.size w W7) := ⟨hU.blk, hU.keep H6.out.2.1 (by omega), hU.keep H6.out.2.2.1 (by omega), hU.keep H6.out.2.2.2.1 (by omega), hU.bel _ _ (by omega) H6.out.2.2.2.2⟩
                      have HG7 : Hid (Blk W7 g12 #[.int .i64 me, .int .i64 rev, .int .i64 cr, .int .i64 h1, .int .u64 (b1 : Int), .int .i64 bad, .int .i64 lock] 26) := hU.blk
                      clear hU hlt H6 HG6
                      go_wp2_with (first
                        | (refine wp_let1 rfl 3 _ _ rfl g12 5 rfl .i64 0 rfl (by kernel_rfl) #[.int .i64 me, .int .i64 rev, .int .i64 cr, .int .i64 h1, .int .u64 (b1 : Int), .int .i64 bad, .int .i64 lock] 26 HG7.out (by simp) ?_)
                        | go_in)
                      intro W8 hU
                      have hlt := HLT.out
                      have H8 : Hid (Blk W8 g12 #[.int .i64 me, .int .i64 rev, .int .i64 cr, .int .i64 h1, .int .u64 (b1 : Int), .int .i64 0, .int .i64 lock] 26 ∧ Blk W8 (w.heap.size + 2) #[.int .i64 c, .int .i64 i, .int .i64 am, .int .i64 t] 31 ∧ Blk W8 w.heap.size #[.int .i64 me, .int .i64 rev, .int .i64 cr, .int .i64 h, .int .u64 (b : Int), .int .i64 bad, .int .i64 lock] 26 ∧ Blk W8 (w.heap.size + 3) #[.int .i64 0, .int .i64 0, .int .i64 0, .int .i64 0, .int .u64 0, .int .i64 0, .int .i64 0] 26 ∧ Below w.heap.size w W8) := ⟨hU.blk, hU.keep H7.out.2.1 (by omega), hU.keep H7.out.2.2.1 (by omega), hU.keep H7.out.2.2.2.1 (by omega), hU.bel _ _ (by omega) H7.out.2.2.2.2⟩
                      have HG8 : Hid (Blk W8 g12 #[.int .i64 me, .int .i64 rev, .int .i64 cr, .int .i64 h1, .int .u64 (b1 : Int), .int .i64 0, .int .i64 lock] 26) := hU.blk
                      clear hU hlt H7 HG7
                      have a0 := H8.out.2.1.cell 0
                      have a2 := H8.out.2.1.cell 2
                      have m2 : W8.cell? ⟨w.heap.size, 2, none⟩ = some (.int .i64 cr) := H8.out.2.2.1.cell 2
                      go_wp2_with (first
                        | (refine wp_let1 rfl 3 _ _ rfl g12 2 rfl .i64 0 rfl (by kernel_rfl) #[.int .i64 me, .int .i64 rev, .int .i64 cr, .int .i64 h1, .int .u64 (b1 : Int), .int .i64 0, .int .i64 lock] 26 HG8.out (by simp) ?_)
                        | go_in)
                      intro W9 hU
                      have hlt := HLT.out
                      clear a0 a2 m2
                      have H9 : Hid (Blk W9 g12 #[.int .i64 me, .int .i64 rev, .int .i64 0, .int .i64 h1, .int .u64 (b1 : Int), .int .i64 0, .int .i64 lock] 26 ∧ Blk W9 (w.heap.size + 2) #[.int .i64 c, .int .i64 i, .int .i64 am, .int .i64 t] 31 ∧ Blk W9 w.heap.size #[.int .i64 me, .int .i64 rev, .int .i64 cr, .int .i64 h, .int .u64 (b : Int), .int .i64 bad, .int .i64 lock] 26 ∧ Blk W9 (w.heap.size + 3) #[.int .i64 0, .int .i64 0, .int .i64 0, .int .i64 0, .int .u64 0, .int .i64 0, .int .i64 0] 26 ∧ Below w.heap.size w W9) := ⟨hU.blk, hU.keep H8.out.2.1 (by omega), hU.keep H8.out.2.2.1 (by omega), hU.keep H8.out.2.2.2.1 (by omega), hU.bel _ _ (by omega) H8.out.2.2.2.2⟩
                      have HG9 : Hid (Blk W9 g12 #[.int .i64 me, .int .i64 rev, .int .i64 0, .int .i64 h1, .int .u64 (b1 : Int), .int .i64 0, .int .i64 lock] 26) := hU.blk
                      clear hU hlt H8 HG8
                      have a0 := H9.out.2.1.cell 0
                      have a2 := H9.out.2.1.cell 2
                      have HOU : Hid (Blk W9 (w.heap.size + 3) #[.int .i64 0, .int .i64 0, .int .i64 0, .int .i64 0, .int .u64 0, .int .i64 0, .int .i64 0] 26) := H9.out.2.2.2.1
                      have HBE : Hid (Below w.heap.size w W9) := H9.out.2.2.2.2
                      have HF : Hid (KeyIs ⟨me, rev, cr, h, b, bad, lock⟩ l c i am t (bodyI c i am) ⟨me, rev, 0, h1, b1, 0, lock⟩ 0 0) := HTV.out
                      clear H9
                      go_wp2_with (first
                        | (refine wp_whole rfl 26 _ rfl g12 rfl 26 #[.int .i64 me, .int .i64 rev, .int .i64 0, .int .i64 h1, .int .u64 (b1 : Int), .int .i64 0, .int .i64 lock] _ HG9.out Tryd.underlying26 rfl (by kernel_rfl) ?_)
                        | (refine wp_letAll rfl 26 _ _ rfl (w.heap.size + 3) rfl #[.int .i64 me, .int .i64 rev, .int .i64 0, .int .i64 h1, .int .u64 (b1 : Int), .int .i64 0, .int .i64 lock] rfl (by kernel_rfl) (by simp [Value.oneCell']) #[.int .i64 0, .int .i64 0, .int .i64 0, .int .i64 0, .int .u64 0, .int .i64 0, .int .i64 0] 26 HOU.out rfl ?_)
                        | go_in)
                      intro WF hUF
                      have R0 : Hid (WF.cell? ⟨w.heap.size + 3, 0, none⟩ = some (.int .i64 me)) := hUF.blk.cell 0
                      have R1 : Hid (WF.cell? ⟨w.heap.size + 3, 1, none⟩ = some (.int .i64 rev)) := hUF.blk.cell 1
                      have R2 : Hid (WF.cell? ⟨w.heap.size + 3, 2, none⟩ = some (.int .i64 0)) := hUF.blk.cell 2
                      have R3 : Hid (WF.cell? ⟨w.heap.size + 3, 3, none⟩ = some (.int .i64 h1)) := hUF.blk.cell 3
                      have R4 : Hid (WF.cell? ⟨w.heap.size + 3, 4, none⟩ = some (.int .u64 (b1 : Int))) := hUF.blk.cell 4
                      have R5 : Hid (WF.cell? ⟨w.heap.size + 3, 5, none⟩ = some (.int .i64 0)) := hUF.blk.cell 5
                      have R6 : Hid (WF.cell? ⟨w.heap.size + 3, 6, none⟩ = some (.int .i64 lock)) := hUF.blk.cell 6
                      have HB : Hid (Below w.heap.size w WF) := hUF.bel _ _ (by omega) HBE.out
                      clear hUF HOU HBE
                      go_wp2_with fail
                      exact bodyPost_ret (v := .tuple #[.agg #[.int .i64 me, .int .i64 rev, .int .i64 0, .int .i64 h1, .int .u64 (b1 : Int), .int .i64 0, .int .i64 lock], .int .i64 0, .int .i64 0]) (by simp [results, Tryd.results6, R0.out, R1.out, R2.out, R3.out, R4.out, R5.out, R6.out, go_sem]) rfl ⟨⟨me, rev, 0, h1, b1, 0, lock⟩, 0, 0, rfl, HF.out, HB.out⟩
                    · have HTV : Hid (KeyIs ⟨me, rev, cr, h, b, bad, lock⟩ l c i am t (bodyI c i am) ⟨me, am, cr, h1, b1, 0, lock⟩ 0 0) := by
                        have := HTN.out
                        rw [show taken ⟨me, rev, cr, h, b, bad, lock⟩ c i am = ⟨me, am, cr, h1, b1, 0, lock⟩ from by rw [taken, HHB.out.1, HHB.out.2, hcc]; rfl, show (if c = 0 then am else 0) = 0 from by rw [hcc]; rfl] at this
                        exact this
                      have s1 : (c == 0) = false := by rw [hcc]; rfl
                      have s2 : (c == 1) = false := by rw [hcc]; rfl
                      have s3 : (c == 2) = true := by rw [hcc]; rfl
                      have s6 : decide (am ≤ rev) = false := by simp only [decide_eq_false_iff_not]; omega
                      have hw0 := HW6.out.cell 0
                      have hw1 := HW6.out.cell 1
                      have H6 : Hid (Blk (w6.alloc (.cells #[.int .i64 h1, .int .u64 (b1 : Int)] 24)) g12 #[.int .i64 me, .int .i64 rev, .int .i64 cr, .int .i64 h, .int .u64 (b : Int), .int .i64 bad, .int .i64 lock] 26 ∧ Blk (w6.alloc (.cells #[.int .i64 h1, .int .u64 (b1 : Int)] 24)) (w.heap.size + 2) #[.int .i64 c, .int .i64 i, .int .i64 am, .int .i64 t] 31 ∧ Blk (w6.alloc (.cells #[.int .i64 h1, .int .u64 (b1 : Int)] 24)) w.heap.size #[.int .i64 me, .int .i64 rev, .int .i64 cr, .int .i64 h, .int .u64 (b : Int), .int .i64 bad, .int .i64 lock] 26 ∧ Blk (w6.alloc (.cells #[.int .i64 h1, .int .u64 (b1 : Int)] 24)) (w.heap.size + 3) #[.int .i64 0, .int .i64 0, .int .i64 0, .int .i64 0, .int .u64 0, .int .i64 0, .int .i64 0] 26 ∧ Below w.heap.size w (w6.alloc (.cells #[.int .i64 h1, .int .u64 (b1 : Int)] 24))) := ⟨HG6.out, HI6.out.tok, HI6.out.bm.met, HI6.out.out, HI6.out.bm.bel⟩
                      clear hcc HTN hky hfu HI6 HW6
                      go_wp2_with (first
                        | (refine wp_let rfl 24 _ _ rfl g12 3 rfl _ rfl #[.int .i64 h1, .int .u64 (b1 : Int)] rfl (by kernel_rfl) (by simp [Value.oneCell']) #[.int .i64 me, .int .i64 rev, .int .i64 cr, .int .i64 h, .int .u64 (b : Int), .int .i64 bad, .int .i64 lock] 26 HG6.out (by simp) _ (by rfl) ?_)
                        | go_in)
                      intro W7 hU
                      have hlt := HLT.out
                      clear c0 c1 c2 c3 c4 c5 c6 o0 t0 t1 t2 t3 hw0 hw1
                      have H7 : Hid (Blk W7 g12 #[.int .i64 me, .int .i64 rev, .int .i64 cr, .int .i64 h1, .int .u64 (b1 : Int), .int .i64 bad, .int .i64 lock] 26 ∧ Blk W7 (w.heap.size + 2) #[.int .i64 c, .int .i64 i, .int .i64 am, .int .i64 t] 31 ∧ Blk W7 w.heap.size #[.int .i64 me, .int .i64 rev, .int .i64 cr, .int .i64 h, .int .u64 (b : Int), .int .i64 bad, .int .i64 lock] 26 ∧ Blk W7 (w.heap.size + 3) #[.int .i64 0, .int .i64 0, .int .i64 0, .int .i64 0, .int .u64 0, .int .i64 0, .int .i64 0] 26 ∧ Below w.heap.size w W7) := ⟨hU.blk, hU.keep H6.out.2.1 (by omega), hU.keep H6.out.2.2.1 (by omega), hU.keep H6.out.2.2.2.1 (by omega), hU.bel _ _ (by omega) H6.out.2.2.2.2⟩
                      have HG7 : Hid (Blk W7 g12 #[.int .i64 me, .int .i64 rev, .int .i64 cr, .int .i64 h1, .int .u64 (b1 : Int), .int .i64 bad, .int .i64 lock] 26) := hU.blk
                      clear hU hlt H6 HG6
                      go_wp2_with (first
                        | (refine wp_let1 rfl 3 _ _ rfl g12 5 rfl .i64 0 rfl (by kernel_rfl) #[.int .i64 me, .int .i64 rev, .int .i64 cr, .int .i64 h1, .int .u64 (b1 : Int), .int .i64 bad, .int .i64 lock] 26 HG7.out (by simp) ?_)
                        | go_in)
                      intro W8 hU
                      have hlt := HLT.out
                      have H8 : Hid (Blk W8 g12 #[.int .i64 me, .int .i64 rev, .int .i64 cr, .int .i64 h1, .int .u64 (b1 : Int), .int .i64 0, .int .i64 lock] 26 ∧ Blk W8 (w.heap.size + 2) #[.int .i64 c, .int .i64 i, .int .i64 am, .int .i64 t] 31 ∧ Blk W8 w.heap.size #[.int .i64 me, .int .i64 rev, .int .i64 cr, .int .i64 h, .int .u64 (b : Int), .int .i64 bad, .int .i64 lock] 26 ∧ Blk W8 (w.heap.size + 3) #[.int .i64 0, .int .i64 0, .int .i64 0, .int .i64 0, .int .u64 0, .int .i64 0, .int .i64 0] 26 ∧ Below w.heap.size w W8) := ⟨hU.blk, hU.keep H7.out.2.1 (by omega), hU.keep H7.out.2.2.1 (by omega), hU.keep H7.out.2.2.2.1 (by omega), hU.bel _ _ (by omega) H7.out.2.2.2.2⟩
                      have HG8 : Hid (Blk W8 g12 #[.int .i64 me, .int .i64 rev, .int .i64 cr, .int .i64 h1, .int .u64 (b1 : Int), .int .i64 0, .int .i64 lock] 26) := hU.blk
                      clear hU hlt H7 HG7
                      have a0 := H8.out.2.1.cell 0
                      have a2 := H8.out.2.1.cell 2
                      have m2 : W8.cell? ⟨w.heap.size, 2, none⟩ = some (.int .i64 cr) := H8.out.2.2.1.cell 2
                      go_wp2_with (first
                        | (refine wp_let1 rfl 3 _ _ rfl g12 1 rfl .i64 am rfl (by kernel_rfl) #[.int .i64 me, .int .i64 rev, .int .i64 cr, .int .i64 h1, .int .u64 (b1 : Int), .int .i64 0, .int .i64 lock] 26 HG8.out (by simp) ?_)
                        | go_in)
                      intro W9 hU
                      have hlt := HLT.out
                      clear a0 a2 m2
                      have H9 : Hid (Blk W9 g12 #[.int .i64 me, .int .i64 am, .int .i64 cr, .int .i64 h1, .int .u64 (b1 : Int), .int .i64 0, .int .i64 lock] 26 ∧ Blk W9 (w.heap.size + 2) #[.int .i64 c, .int .i64 i, .int .i64 am, .int .i64 t] 31 ∧ Blk W9 w.heap.size #[.int .i64 me, .int .i64 rev, .int .i64 cr, .int .i64 h, .int .u64 (b : Int), .int .i64 bad, .int .i64 lock] 26 ∧ Blk W9 (w.heap.size + 3) #[.int .i64 0, .int .i64 0, .int .i64 0, .int .i64 0, .int .u64 0, .int .i64 0, .int .i64 0] 26 ∧ Below w.heap.size w W9) := ⟨hU.blk, hU.keep H8.out.2.1 (by omega), hU.keep H8.out.2.2.1 (by omega), hU.keep H8.out.2.2.2.1 (by omega), hU.bel _ _ (by omega) H8.out.2.2.2.2⟩
                      have HG9 : Hid (Blk W9 g12 #[.int .i64 me, .int .i64 am, .int .i64 cr, .int .i64 h1, .int .u64 (b1 : Int), .int .i64 0, .int .i64 lock] 26) := hU.blk
                      clear hU hlt H8 HG8
                      have a0 := H9.out.2.1.cell 0
                      have a2 := H9.out.2.1.cell 2
                      have HOU : Hid (Blk W9 (w.heap.size + 3) #[.int .i64 0, .int .i64 0, .int .i64 0, .int .i64 0, .int .u64 0, .int .i64 0, .int .i64 0] 26) := H9.out.2.2.2.1
                      have HBE : Hid (Below w.heap.size w W9) := H9.out.2.2.2.2
                      have HF : Hid (KeyIs ⟨me, rev, cr, h, b, bad, lock⟩ l c i am t (bodyI c i am) ⟨me, am, cr, h1, b1, 0, lock⟩ 0 0) := HTV.out
                      clear H9
                      go_wp2_with (first
                        | (refine wp_whole rfl 26 _ rfl g12 rfl 26 #[.int .i64 me, .int .i64 am, .int .i64 cr, .int .i64 h1, .int .u64 (b1 : Int), .int .i64 0, .int .i64 lock] _ HG9.out Tryd.underlying26 rfl (by kernel_rfl) ?_)
                        | (refine wp_letAll rfl 26 _ _ rfl (w.heap.size + 3) rfl #[.int .i64 me, .int .i64 am, .int .i64 cr, .int .i64 h1, .int .u64 (b1 : Int), .int .i64 0, .int .i64 lock] rfl (by kernel_rfl) (by simp [Value.oneCell']) #[.int .i64 0, .int .i64 0, .int .i64 0, .int .i64 0, .int .u64 0, .int .i64 0, .int .i64 0] 26 HOU.out rfl ?_)
                        | go_in)
                      intro WF hUF
                      have R0 : Hid (WF.cell? ⟨w.heap.size + 3, 0, none⟩ = some (.int .i64 me)) := hUF.blk.cell 0
                      have R1 : Hid (WF.cell? ⟨w.heap.size + 3, 1, none⟩ = some (.int .i64 am)) := hUF.blk.cell 1
                      have R2 : Hid (WF.cell? ⟨w.heap.size + 3, 2, none⟩ = some (.int .i64 cr)) := hUF.blk.cell 2
                      have R3 : Hid (WF.cell? ⟨w.heap.size + 3, 3, none⟩ = some (.int .i64 h1)) := hUF.blk.cell 3
                      have R4 : Hid (WF.cell? ⟨w.heap.size + 3, 4, none⟩ = some (.int .u64 (b1 : Int))) := hUF.blk.cell 4
                      have R5 : Hid (WF.cell? ⟨w.heap.size + 3, 5, none⟩ = some (.int .i64 0)) := hUF.blk.cell 5
                      have R6 : Hid (WF.cell? ⟨w.heap.size + 3, 6, none⟩ = some (.int .i64 lock)) := hUF.blk.cell 6
                      have HB : Hid (Below w.heap.size w WF) := hUF.bel _ _ (by omega) HBE.out
                      clear hUF HOU HBE
                      go_wp2_with fail
                      exact bodyPost_ret (v := .tuple #[.agg #[.int .i64 me, .int .i64 am, .int .i64 cr, .int .i64 h1, .int .u64 (b1 : Int), .int .i64 0, .int .i64 lock], .int .i64 0, .int .i64 0]) (by simp [results, Tryd.results6, R0.out, R1.out, R2.out, R3.out, R4.out, R5.out, R6.out, go_sem]) rfl ⟨⟨me, am, cr, h1, b1, 0, lock⟩, 0, 0, rfl, HF.out, HB.out⟩
              · have HNZ : Hid (f ≠ 0) := hf
                have q6 : (f != 0) = true := by simp [hf]
                clear hf
                have HOU : Hid (Blk (w6.alloc (.cells #[.int .i64 h1, .int .u64 (b1 : Int)] 24)) (w.heap.size + 3) #[.int .i64 0, .int .i64 0, .int .i64 0, .int .i64 0, .int .u64 0, .int .i64 0, .int .i64 0] 26) := HI6.out.out
                have HBE : Hid (Below w.heap.size w (w6.alloc (.cells #[.int .i64 h1, .int .u64 (b1 : Int)] 24))) := HI6.out.bm.bel
                have HF : Hid (KeyIs ⟨me, rev, cr, h, b, bad, lock⟩ l c i am t (bodyI c i am) ⟨me, rev, cr, h, b, bad, lock⟩ 0 f) := KeyIs.judge f HML.out HFL.out HLK.out HC3.out HHE.out HJ6.out.1 HNZ.out
                clear HI6
                go_wp2_with (first
                  | (refine wp_letAll rfl 26 _ _ rfl (w.heap.size + 3) rfl #[.int .i64 me, .int .i64 rev, .int .i64 cr, .int .i64 h, .int .u64 (b : Int), .int .i64 bad, .int .i64 lock] rfl (by kernel_rfl) (by simp [Value.oneCell']) #[.int .i64 0, .int .i64 0, .int .i64 0, .int .i64 0, .int .u64 0, .int .i64 0, .int .i64 0] 26 HOU.out rfl ?_)
                  | go_in)
                intro WF hUF
                have R0 : Hid (WF.cell? ⟨w.heap.size + 3, 0, none⟩ = some (.int .i64 me)) := hUF.blk.cell 0
                have R1 : Hid (WF.cell? ⟨w.heap.size + 3, 1, none⟩ = some (.int .i64 rev)) := hUF.blk.cell 1
                have R2 : Hid (WF.cell? ⟨w.heap.size + 3, 2, none⟩ = some (.int .i64 cr)) := hUF.blk.cell 2
                have R3 : Hid (WF.cell? ⟨w.heap.size + 3, 3, none⟩ = some (.int .i64 h)) := hUF.blk.cell 3
                have R4 : Hid (WF.cell? ⟨w.heap.size + 3, 4, none⟩ = some (.int .u64 (b : Int))) := hUF.blk.cell 4
                have R5 : Hid (WF.cell? ⟨w.heap.size + 3, 5, none⟩ = some (.int .i64 bad)) := hUF.blk.cell 5
                have R6 : Hid (WF.cell? ⟨w.heap.size + 3, 6, none⟩ = some (.int .i64 lock)) := hUF.blk.cell 6
                have HB : Hid (Below w.heap.size w WF) := hUF.bel _ _ (by omega) HBE.out
                clear hUF HOU HBE
                go_wp2_with fail
                exact bodyPost_ret (v := .tuple #[.agg #[.int .i64 me, .int .i64 rev, .int .i64 cr, .int .i64 h, .int .u64 (b : Int), .int .i64 bad, .int .i64 lock], .int .i64 0, .int .i64 f]) (by simp [results, Tryd.results6, R0.out, R1.out, R2.out, R3.out, R4.out, R5.out, R6.out, go_sem]) rfl ⟨⟨me, rev, cr, h, b, bad, lock⟩, 0, f, rfl, HF.out, HB.out⟩
            · have HHE : Hid (¬ Here l me rev (bodyI c i am) t ∧ Early l me rev (bodyI c i am) t) := ⟨hhe, hea⟩
              clear hhe hea
              have HOU : Hid (Blk w4 (w.heap.size + 3) #[.int .i64 0, .int .i64 0, .int .i64 0, .int .i64 0, .int .u64 0, .int .i64 0, .int .i64 0] 26) := HI4.out.out
              have HBE : Hid (Below w.heap.size w w4) := HI4.out.bm.bel
              have HF : Hid (KeyIs ⟨me, rev, cr, h, b, bad, lock⟩ l c i am t (bodyI c i am) ⟨me, rev, cr, h, b, bad, lock⟩ 0 11) := KeyIs.old HML.out HFL.out HLK.out HC3.out HHE.out.1 HHE.out.2
              clear HI4
              go_wp2_with (first
                | (refine wp_letAll rfl 26 _ _ rfl (w.heap.size + 3) rfl #[.int .i64 me, .int .i64 rev, .int .i64 cr, .int .i64 h, .int .u64 (b : Int), .int .i64 bad, .int .i64 lock] rfl (by kernel_rfl) (by simp [Value.oneCell']) #[.int .i64 0, .int .i64 0, .int .i64 0, .int .i64 0, .int .u64 0, .int .i64 0, .int .i64 0] 26 HOU.out rfl ?_)
                | go_in)
              intro WF hUF
              have R0 : Hid (WF.cell? ⟨w.heap.size + 3, 0, none⟩ = some (.int .i64 me)) := hUF.blk.cell 0
              have R1 : Hid (WF.cell? ⟨w.heap.size + 3, 1, none⟩ = some (.int .i64 rev)) := hUF.blk.cell 1
              have R2 : Hid (WF.cell? ⟨w.heap.size + 3, 2, none⟩ = some (.int .i64 cr)) := hUF.blk.cell 2
              have R3 : Hid (WF.cell? ⟨w.heap.size + 3, 3, none⟩ = some (.int .i64 h)) := hUF.blk.cell 3
              have R4 : Hid (WF.cell? ⟨w.heap.size + 3, 4, none⟩ = some (.int .u64 (b : Int))) := hUF.blk.cell 4
              have R5 : Hid (WF.cell? ⟨w.heap.size + 3, 5, none⟩ = some (.int .i64 bad)) := hUF.blk.cell 5
              have R6 : Hid (WF.cell? ⟨w.heap.size + 3, 6, none⟩ = some (.int .i64 lock)) := hUF.blk.cell 6
              have HB : Hid (Below w.heap.size w WF) := hUF.bel _ _ (by omega) HBE.out
              clear hUF HOU HBE
              go_wp2_with fail
              exact bodyPost_ret (v := .tuple #[.agg #[.int .i64 me, .int .i64 rev, .int .i64 cr, .int .i64 h, .int .u64 (b : Int), .int .i64 bad, .int .i64 lock], .int .i64 0, .int .i64 11]) (by simp [results, Tryd.results6, R0.out, R1.out, R2.out, R3.out, R4.out, R5.out, R6.out, go_sem]) rfl ⟨⟨me, rev, cr, h, b, bad, lock⟩, 0, 11, rfl, HF.out, HB.out⟩
            · have HHE : Hid (¬ Here l me rev (bodyI c i am) t ∧ ¬ Early l me rev (bodyI c i am) t) := ⟨hhe, hea⟩
              clear hhe hea
              have HBM := HML.out.1.bad
              simp only [] at HBM
              by_cases hbd : bad + 1 ≥ 5
              · have q5 : decide (5 ≤ bad + 1) = true := by simp; omega
                have HKT : Hid (KeyIs ⟨me, rev, cr, h, b, bad, lock⟩ l c i am t (bodyI c i am) ⟨me, rev, cr, h, b, 0, 30⟩ 0 12) := by
                  have := KeyIs.tag (i := i) (a := am) HML.out HFL.out HLK.out HC3.out HHE.out.1 HHE.out.2
                  rw [badTry, if_pos hbd] at this
                  exact this
                have HI5 : Hid (Bk w (w4.alloc (.cells #[.int .i64 me, .int .i64 rev, .int .i64 cr, .int .i64 h, .int .u64 (b : Int), .int .i64 0, .int .i64 30] 26)) ⟨me, rev, cr, h, b, bad, lock⟩ a n cap l c i am t) := HI4.out.alloc _
                have d5 : (w4.alloc (.cells #[.int .i64 me, .int .i64 rev, .int .i64 cr, .int .i64 h, .int .u64 (b : Int), .int .i64 bad, .int .i64 lock] 26)).cell? ⟨w.heap.size, 5, none⟩ = some (.int .i64 bad) := (HI4.out.bm.met.alloc _).cell 5
                clear hbd
                have HOU : Hid (Blk (w4.alloc (.cells #[.int .i64 me, .int .i64 rev, .int .i64 cr, .int .i64 h, .int .u64 (b : Int), .int .i64 0, .int .i64 30] 26)) (w.heap.size + 3) #[.int .i64 0, .int .i64 0, .int .i64 0, .int .i64 0, .int .u64 0, .int .i64 0, .int .i64 0] 26) := HI5.out.out
                have HBE : Hid (Below w.heap.size w (w4.alloc (.cells #[.int .i64 me, .int .i64 rev, .int .i64 cr, .int .i64 h, .int .u64 (b : Int), .int .i64 0, .int .i64 30] 26))) := HI5.out.bm.bel
                have HF : Hid (KeyIs ⟨me, rev, cr, h, b, bad, lock⟩ l c i am t (bodyI c i am) ⟨me, rev, cr, h, b, 0, 30⟩ 0 12) := HKT.out
                clear HI5
                go_wp2_with (first
                  | (refine wp_letAll rfl 26 _ _ rfl (w.heap.size + 3) rfl #[.int .i64 me, .int .i64 rev, .int .i64 cr, .int .i64 h, .int .u64 (b : Int), .int .i64 0, .int .i64 30] rfl (by kernel_rfl) (by simp [Value.oneCell']) #[.int .i64 0, .int .i64 0, .int .i64 0, .int .i64 0, .int .u64 0, .int .i64 0, .int .i64 0] 26 HOU.out rfl ?_)
                  | go_in)
                intro WF hUF
                have R0 : Hid (WF.cell? ⟨w.heap.size + 3, 0, none⟩ = some (.int .i64 me)) := hUF.blk.cell 0
                have R1 : Hid (WF.cell? ⟨w.heap.size + 3, 1, none⟩ = some (.int .i64 rev)) := hUF.blk.cell 1
                have R2 : Hid (WF.cell? ⟨w.heap.size + 3, 2, none⟩ = some (.int .i64 cr)) := hUF.blk.cell 2
                have R3 : Hid (WF.cell? ⟨w.heap.size + 3, 3, none⟩ = some (.int .i64 h)) := hUF.blk.cell 3
                have R4 : Hid (WF.cell? ⟨w.heap.size + 3, 4, none⟩ = some (.int .u64 (b : Int))) := hUF.blk.cell 4
                have R5 : Hid (WF.cell? ⟨w.heap.size + 3, 5, none⟩ = some (.int .i64 0)) := hUF.blk.cell 5
                have R6 : Hid (WF.cell? ⟨w.heap.size + 3, 6, none⟩ = some (.int .i64 30)) := hUF.blk.cell 6
                have HB : Hid (Below w.heap.size w WF) := hUF.bel _ _ (by omega) HBE.out
                clear hUF HOU HBE
                go_wp2_with fail
                exact bodyPost_ret (v := .tuple #[.agg #[.int .i64 me, .int .i64 rev, .int .i64 cr, .int .i64 h, .int .u64 (b : Int), .int .i64 0, .int .i64 30], .int .i64 0, .int .i64 12]) (by simp [results, Tryd.results6, R0.out, R1.out, R2.out, R3.out, R4.out, R5.out, R6.out, go_sem]) rfl ⟨⟨me, rev, cr, h, b, 0, 30⟩, 0, 12, rfl, HF.out, HB.out⟩
              · have q5 : decide (5 ≤ bad + 1) = false := by simp; omega
                have HKT : Hid (KeyIs ⟨me, rev, cr, h, b, bad, lock⟩ l c i am t (bodyI c i am) ⟨me, rev, cr, h, b, bad + 1, lock⟩ 0 12) := by
                  have := KeyIs.tag (i := i) (a := am) HML.out HFL.out HLK.out HC3.out HHE.out.1 HHE.out.2
                  rw [badTry, if_neg hbd] at this
                  exact this
                have HI5 : Hid (Bk w (w4.alloc (.cells #[.int .i64 me, .int .i64 rev, .int .i64 cr, .int .i64 h, .int .u64 (b : Int), .int .i64 (bad + 1), .int .i64 lock] 26)) ⟨me, rev, cr, h, b, bad, lock⟩ a n cap l c i am t) := HI4.out.alloc _
                have d5 : (w4.alloc (.cells #[.int .i64 me, .int .i64 rev, .int .i64 cr, .int .i64 h, .int .u64 (b : Int), .int .i64 bad, .int .i64 lock] 26)).cell? ⟨w.heap.size, 5, none⟩ = some (.int .i64 bad) := (HI4.out.bm.met.alloc _).cell 5
                clear hbd
                have HOU : Hid (Blk (w4.alloc (.cells #[.int .i64 me, .int .i64 rev, .int .i64 cr, .int .i64 h, .int .u64 (b : Int), .int .i64 (bad + 1), .int .i64 lock] 26)) (w.heap.size + 3) #[.int .i64 0, .int .i64 0, .int .i64 0, .int .i64 0, .int .u64 0, .int .i64 0, .int .i64 0] 26) := HI5.out.out
                have HBE : Hid (Below w.heap.size w (w4.alloc (.cells #[.int .i64 me, .int .i64 rev, .int .i64 cr, .int .i64 h, .int .u64 (b : Int), .int .i64 (bad + 1), .int .i64 lock] 26))) := HI5.out.bm.bel
                have HF : Hid (KeyIs ⟨me, rev, cr, h, b, bad, lock⟩ l c i am t (bodyI c i am) ⟨me, rev, cr, h, b, bad + 1, lock⟩ 0 12) := HKT.out
                clear HI5
                go_wp2_with (first
                  | (refine wp_letAll rfl 26 _ _ rfl (w.heap.size + 3) rfl #[.int .i64 me, .int .i64 rev, .int .i64 cr, .int .i64 h, .int .u64 (b : Int), .int .i64 (bad + 1), .int .i64 lock] rfl (by kernel_rfl) (by simp [Value.oneCell']) #[.int .i64 0, .int .i64 0, .int .i64 0, .int .i64 0, .int .u64 0, .int .i64 0, .int .i64 0] 26 HOU.out rfl ?_)
                  | go_in)
                intro WF hUF
                have R0 : Hid (WF.cell? ⟨w.heap.size + 3, 0, none⟩ = some (.int .i64 me)) := hUF.blk.cell 0
                have R1 : Hid (WF.cell? ⟨w.heap.size + 3, 1, none⟩ = some (.int .i64 rev)) := hUF.blk.cell 1
                have R2 : Hid (WF.cell? ⟨w.heap.size + 3, 2, none⟩ = some (.int .i64 cr)) := hUF.blk.cell 2
                have R3 : Hid (WF.cell? ⟨w.heap.size + 3, 3, none⟩ = some (.int .i64 h)) := hUF.blk.cell 3
                have R4 : Hid (WF.cell? ⟨w.heap.size + 3, 4, none⟩ = some (.int .u64 (b : Int))) := hUF.blk.cell 4
                have R5 : Hid (WF.cell? ⟨w.heap.size + 3, 5, none⟩ = some (.int .i64 (bad + 1))) := hUF.blk.cell 5
                have R6 : Hid (WF.cell? ⟨w.heap.size + 3, 6, none⟩ = some (.int .i64 lock)) := hUF.blk.cell 6
                have HB : Hid (Below w.heap.size w WF) := hUF.bel _ _ (by omega) HBE.out
                clear hUF HOU HBE
                go_wp2_with fail
                exact bodyPost_ret (v := .tuple #[.agg #[.int .i64 me, .int .i64 rev, .int .i64 cr, .int .i64 h, .int .u64 (b : Int), .int .i64 (bad + 1), .int .i64 lock], .int .i64 0, .int .i64 12]) (by simp [results, Tryd.results6, R0.out, R1.out, R2.out, R3.out, R4.out, R5.out, R6.out, go_sem]) rfl ⟨⟨me, rev, cr, h, b, bad + 1, lock⟩, 0, 12, rfl, HF.out, HB.out⟩
      · have HFN : Hid (flawT c i am t ≠ 0) := hfl
        have HBD : Hid (∀ W, Calls Tryd.prog 13 #[.agg #[.int .i64 c, .int .i64 i, .int .i64 am, .int .i64 t]] W fun e w' => e = .returned (.tuple #[.int .i64 0, .int .i64 (flawT c i am t)]) ∧ Below W.heap.size W w') := fun W => bodyOf_no c i am t W hfl
        have HPF : Hid (KeyIs ⟨me, rev, cr, h, b, bad, lock⟩ l c i am t (bodyI c i am) ⟨me, rev, cr, h, b, bad, lock⟩ 0 (flawT c i am t)) := KeyIs.flaw HML.out hfl
        have hq : (flawT c i am t != 0) = true := by simpa using hfl
        clear hfl
        generalize hfx : flawT c i am t = fl at *
        clear hfx
        go_wp2_with fail
        refine (HBD.out _).mono ?_
        rintro e w3 ⟨rfl, hb3⟩
        have HI3 : Hid (Bk w w3 ⟨me, rev, cr, h, b, bad, lock⟩ a n cap l c i am t) := HI2.out.next hb3
        clear hb3 c0 c1 c2 c3 c4 c5 c6 o0 t0 t1 t2 t3 HI2
        have c0 : w3.cell? ⟨w.heap.size, 0, none⟩ = some (.int .i64 me) := HI3.out.bm.met.cell 0
        have c1 : w3.cell? ⟨w.heap.size, 1, none⟩ = some (.int .i64 rev) := HI3.out.bm.met.cell 1
        have c2 : w3.cell? ⟨w.heap.size, 2, none⟩ = some (.int .i64 cr) := HI3.out.bm.met.cell 2
        have c3 : w3.cell? ⟨w.heap.size, 3, none⟩ = some (.int .i64 h) := HI3.out.bm.met.cell 3
        have c4 : w3.cell? ⟨w.heap.size, 4, none⟩ = some (.int .u64 (b : Int)) := HI3.out.bm.met.cell 4
        have c5 : w3.cell? ⟨w.heap.size, 5, none⟩ = some (.int .i64 bad) := HI3.out.bm.met.cell 5
        have c6 : w3.cell? ⟨w.heap.size, 6, none⟩ = some (.int .i64 lock) := HI3.out.bm.met.cell 6
        have o0 := HI3.out.bm.ora.cell 0
        have t0 := HI3.out.tok.cell 0
        have t1 := HI3.out.tok.cell 1
        have t2 := HI3.out.tok.cell 2
        have t3 := HI3.out.tok.cell 3
        have HOU : Hid (Blk w3 (w.heap.size + 3) #[.int .i64 0, .int .i64 0, .int .i64 0, .int .i64 0, .int .u64 0, .int .i64 0, .int .i64 0] 26) := HI3.out.out
        have HBE : Hid (Below w.heap.size w w3) := HI3.out.bm.bel
        have HF : Hid (KeyIs ⟨me, rev, cr, h, b, bad, lock⟩ l c i am t (bodyI c i am) ⟨me, rev, cr, h, b, bad, lock⟩ 0 fl) := HPF.out
        clear HI3
        go_wp2_with (first
          | (refine wp_letAll rfl 26 _ _ rfl (w.heap.size + 3) rfl #[.int .i64 me, .int .i64 rev, .int .i64 cr, .int .i64 h, .int .u64 (b : Int), .int .i64 bad, .int .i64 lock] rfl (by kernel_rfl) (by simp [Value.oneCell']) #[.int .i64 0, .int .i64 0, .int .i64 0, .int .i64 0, .int .u64 0, .int .i64 0, .int .i64 0] 26 HOU.out rfl ?_)
          | go_in)
        intro WF hUF
        have R0 : Hid (WF.cell? ⟨w.heap.size + 3, 0, none⟩ = some (.int .i64 me)) := hUF.blk.cell 0
        have R1 : Hid (WF.cell? ⟨w.heap.size + 3, 1, none⟩ = some (.int .i64 rev)) := hUF.blk.cell 1
        have R2 : Hid (WF.cell? ⟨w.heap.size + 3, 2, none⟩ = some (.int .i64 cr)) := hUF.blk.cell 2
        have R3 : Hid (WF.cell? ⟨w.heap.size + 3, 3, none⟩ = some (.int .i64 h)) := hUF.blk.cell 3
        have R4 : Hid (WF.cell? ⟨w.heap.size + 3, 4, none⟩ = some (.int .u64 (b : Int))) := hUF.blk.cell 4
        have R5 : Hid (WF.cell? ⟨w.heap.size + 3, 5, none⟩ = some (.int .i64 bad)) := hUF.blk.cell 5
        have R6 : Hid (WF.cell? ⟨w.heap.size + 3, 6, none⟩ = some (.int .i64 lock)) := hUF.blk.cell 6
        have HB : Hid (Below w.heap.size w WF) := hUF.bel _ _ (by omega) HBE.out
        clear hUF HOU HBE
        go_wp2_with fail
        exact bodyPost_ret (v := .tuple #[.agg #[.int .i64 me, .int .i64 rev, .int .i64 cr, .int .i64 h, .int .u64 (b : Int), .int .i64 bad, .int .i64 lock], .int .i64 0, .int .i64 fl]) (by simp [results, Tryd.results6, R0.out, R1.out, R2.out, R3.out, R4.out, R5.out, R6.out, go_sem]) rfl ⟨⟨me, rev, cr, h, b, bad, lock⟩, 0, fl, rfl, HF.out, HB.out⟩

end Go.Proofs.YtmpapnblpjnlmaaDoor.met
