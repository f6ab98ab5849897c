/- The program's keying. -/
import Derived.Test.YtmpapnblpjnlmabDoorMpY
import Derived.Test.YtmpapnblpjnlmabDoorMpM
import Derived.Test.YtmpapnblpjnlmabDoorMjK
namespace Go.Proofs.YtmpapnblpjnlmabDoor.met
open Go.RowKit Go.Proofs.YtmpapnblpjnlmabDoor.ora Go.Proofs.YtmpapnblpjnlmabDoor.token
set_option maxRecDepth 100000
set_option linter.unusedVariables false
set_option linter.unusedSimpArgs false

set_option maxHeartbeats 4000000 in
theorem pkey (m : Mt) (a : Option Addr) (n cap : Nat) (l : List Pr) (c i am t : Int) (w : World) (ht : TTab w) (hb : m.b < 18446744073709551616) (hr : RowP w a n l) :
    Calls Tryd.prog 9 #[m.v, .agg #[.slice a n cap], .agg #[.int .i64 c, .int .i64 i, .int .i64 am, .int .i64 t]] w fun e w' => KeyPost w m l c i am t e w' := by
  have HM : Hid (∀ W, Calls Tryd.prog 16 #[m.v] W fun e w' => Told W m.may e w') := fun W => pmay_any m W hb
  have HOM : Hid (∀ W, RowP W a n l → Calls Tryd.prog 17 #[.agg #[.slice a n cap]] W fun e w' => ora.Told W (May l) e w') := fun W h => pom a n cap l W h
  have HKW : Hid (∀ W g, TTab W → Wk W g m → RowP W a n l → m.may → May l → Calls Tryd.prog 18 #[.pointer (some ⟨g, 0, none⟩), .agg #[.slice a n cap], .agg #[.int .i64 c, .int .i64 i, .int .i64 am, .int .i64 t]] W fun e w' => KeyW W g m l c i am t e w') := fun W g h1 h2 h3 h4 h5 => pkeyw g m a n cap l c i am t W h1 h2 h3 hb h4 h5
  clear hb
  obtain ⟨me, rev, cr, h, b, bad, lock⟩ := m
  unfold Mt.v Mt.cells at *
  simp only [] at HM ⊢
  have HM0 : Hid (Blk ((((w.alloc (.cells #[.int .i64 me, .int .i64 rev, .int .i64 cr, .int .i64 h, .int .u64 (b : Int), .int .i64 bad, .int .i64 lock] 30)).alloc (.cells #[.slice a n cap] 34)).alloc (.cells #[.int .i64 c, .int .i64 i, .int .i64 am, .int .i64 t] 35)).alloc (.cells #[.int .i64 0, .int .i64 0, .int .i64 0, .int .i64 0, .int .u64 0, .int .i64 0, .int .i64 0] 30)) (w.heap.size) #[.int .i64 me, .int .i64 rev, .int .i64 cr, .int .i64 h, .int .u64 (b : Int), .int .i64 bad, .int .i64 lock] 30) := (((Blk.new _ _ _).alloc _).alloc _).alloc _
  have HO0 : Hid (Blk ((((w.alloc (.cells #[.int .i64 me, .int .i64 rev, .int .i64 cr, .int .i64 h, .int .u64 (b : Int), .int .i64 bad, .int .i64 lock] 30)).alloc (.cells #[.slice a n cap] 34)).alloc (.cells #[.int .i64 c, .int .i64 i, .int .i64 am, .int .i64 t] 35)).alloc (.cells #[.int .i64 0, .int .i64 0, .int .i64 0, .int .i64 0, .int .u64 0, .int .i64 0, .int .i64 0] 30)) (w.heap.size + 1) #[.slice a n cap] 34) := ((Blk.new1 w _ _ _).alloc _).alloc _
  have HK0 : Hid (Blk ((((w.alloc (.cells #[.int .i64 me, .int .i64 rev, .int .i64 cr, .int .i64 h, .int .u64 (b : Int), .int .i64 bad, .int .i64 lock] 30)).alloc (.cells #[.slice a n cap] 34)).alloc (.cells #[.int .i64 c, .int .i64 i, .int .i64 am, .int .i64 t] 35)).alloc (.cells #[.int .i64 0, .int .i64 0, .int .i64 0, .int .i64 0, .int .u64 0, .int .i64 0, .int .i64 0] 30)) (w.heap.size + 1 + 1) #[.int .i64 c, .int .i64 i, .int .i64 am, .int .i64 t] 35) := (Blk.new2 w _ _ _ _).alloc _
  have HR0 : Hid (Blk ((((w.alloc (.cells #[.int .i64 me, .int .i64 rev, .int .i64 cr, .int .i64 h, .int .u64 (b : Int), .int .i64 bad, .int .i64 lock] 30)).alloc (.cells #[.slice a n cap] 34)).alloc (.cells #[.int .i64 c, .int .i64 i, .int .i64 am, .int .i64 t] 35)).alloc (.cells #[.int .i64 0, .int .i64 0, .int .i64 0, .int .i64 0, .int .u64 0, .int .i64 0, .int .i64 0] 30)) (w.heap.size + 1 + 1 + 1) #[.int .i64 0, .int .i64 0, .int .i64 0, .int .i64 0, .int .u64 0, .int .i64 0, .int .i64 0] 30) := Blk.new3 w _ _ _ _ _
  have HB0 : Hid (Below w.heap.size w ((((w.alloc (.cells #[.int .i64 me, .int .i64 rev, .int .i64 cr, .int .i64 h, .int .u64 (b : Int), .int .i64 bad, .int .i64 lock] 30)).alloc (.cells #[.slice a n cap] 34)).alloc (.cells #[.int .i64 c, .int .i64 i, .int .i64 am, .int .i64 t] 35)).alloc (.cells #[.int .i64 0, .int .i64 0, .int .i64 0, .int .i64 0, .int .u64 0, .int .i64 0, .int .i64 0] 30))) := ((((Below.refl _ _).alloc (Nat.le_refl _) _).alloc (by simp) _).alloc (by simp; omega) _).alloc (by simp; omega) _
  have HT : Hid (∀ W, Below w.heap.size w W → TTab W) := fun W h => ht.below h
  have HRW : Hid (∀ W, Below w.heap.size w W → RowP W a n l) := fun W h => hr.below h
  clear ht hr
  go_enter Tryd.func9, Tryd.ntmps9
  go_wp2_with (first | (refine wp_whole rfl 30 _ rfl (w.heap.size) rfl 30 #[.int .i64 me, .int .i64 rev, .int .i64 cr, .int .i64 h, .int .u64 (b : Int), .int .i64 bad, .int .i64 lock] _ HM0.out Tryd.underlying30 rfl (by kernel_rfl) ?_) | fail)
  refine (HM.out _).mono ?_
  rintro e w1 ⟨r, rfl, hr1, hb1⟩
  have HM1 : Hid (Blk w1 (w.heap.size) #[.int .i64 me, .int .i64 rev, .int .i64 cr, .int .i64 h, .int .u64 (b : Int), .int .i64 bad, .int .i64 lock] 30) := HM0.out.next hb1
  have HO1 : Hid (Blk w1 (w.heap.size + 1) #[.slice a n cap] 34) := HO0.out.next hb1
  have HK1 : Hid (Blk w1 (w.heap.size + 1 + 1) #[.int .i64 c, .int .i64 i, .int .i64 am, .int .i64 t] 35) := HK0.out.next hb1
  have HR1 : Hid (Blk w1 (w.heap.size + 1 + 1 + 1) #[.int .i64 0, .int .i64 0, .int .i64 0, .int .i64 0, .int .u64 0, .int .i64 0, .int .i64 0] 30) := HR0.out.next hb1
  have HB1 : Hid (Below w.heap.size w w1) := bel_step HB0.out hb1
  clear hb1 HM0 HO0 HK0 HR0 HB0 HM
  cases r with
  | false =>
    have HN : Hid (¬ (Mt.may ⟨me, rev, cr, h, b, bad, lock⟩ ∧ May l)) := fun h => by have := hr1.2 h.1; cases this
    clear hr1
    go_wp2_with (first | (refine wp_letAll rfl 30 _ _ rfl (w.heap.size + 1 + 1 + 1) rfl #[.int .i64 0, .int .i64 0, .int .i64 0, .int .i64 0, .int .u64 0, .int .i64 0, .int .i64 0] rfl (by kernel_rfl) (by simp [Value.oneCell']) #[.int .i64 0, .int .i64 0, .int .i64 0, .int .i64 0, .int .u64 0, .int .i64 0, .int .i64 0] 30 HR1.out rfl ?_) | fail)
    intro WF hUF
    have HBF : Hid (Below w.heap.size w WF) := hUF.bel _ _ (by omega) HB1.out
    have R0 : Hid (WF.cell? ⟨w.heap.size + 1 + 1 + 1, 0, none⟩ = some (.int .i64 0)) := hUF.blk.cell 0
    have R1 : Hid (WF.cell? ⟨w.heap.size + 1 + 1 + 1, 1, none⟩ = some (.int .i64 0)) := hUF.blk.cell 1
    have R2 : Hid (WF.cell? ⟨w.heap.size + 1 + 1 + 1, 2, none⟩ = some (.int .i64 0)) := hUF.blk.cell 2
    have R3 : Hid (WF.cell? ⟨w.heap.size + 1 + 1 + 1, 3, none⟩ = some (.int .i64 0)) := hUF.blk.cell 3
    have R4 : Hid (WF.cell? ⟨w.heap.size + 1 + 1 + 1, 4, none⟩ = some (.int .u64 0)) := hUF.blk.cell 4
    have R5 : Hid (WF.cell? ⟨w.heap.size + 1 + 1 + 1, 5, none⟩ = some (.int .i64 0)) := hUF.blk.cell 5
    have R6 : Hid (WF.cell? ⟨w.heap.size + 1 + 1 + 1, 6, none⟩ = some (.int .i64 0)) := hUF.blk.cell 6
    clear hUF
    go_wp2_with fail
    exact bodyPost_ret (v := .tuple #[.agg #[.int .i64 0, .int .i64 0, .int .i64 0, .int .i64 0, .int .u64 0, .int .i64 0, .int .i64 0], .int .i64 0, .int .i64 5]) (by simp [results, Tryd.results9, R0.out, R1.out, R2.out, R3.out, R4.out, R5.out, R6.out, go_sem]) rfl ⟨mt0, 0, 5, rfl, .state HN.out, HBF.out⟩
  | true =>
    have HY : Hid (Mt.may ⟨me, rev, cr, h, b, bad, lock⟩) := hr1.1 rfl
    clear hr1
    have o1 : w1.cell? ⟨w.heap.size + 1, 0, none⟩ = some (.slice a n cap) := HO1.out.cell 0
    go_wp2_with fail
    refine (HOM.out _ (HRW.out _ HB1.out)).mono ?_
    rintro e w2 ⟨r, rfl, hr2, hb2⟩
    have HM2 : Hid (Blk w2 (w.heap.size) #[.int .i64 me, .int .i64 rev, .int .i64 cr, .int .i64 h, .int .u64 (b : Int), .int .i64 bad, .int .i64 lock] 30) := HM1.out.next hb2
    have HO2 : Hid (Blk w2 (w.heap.size + 1) #[.slice a n cap] 34) := HO1.out.next hb2
    have HK2 : Hid (Blk w2 (w.heap.size + 1 + 1) #[.int .i64 c, .int .i64 i, .int .i64 am, .int .i64 t] 35) := HK1.out.next hb2
    have HR2 : Hid (Blk w2 (w.heap.size + 1 + 1 + 1) #[.int .i64 0, .int .i64 0, .int .i64 0, .int .i64 0, .int .u64 0, .int .i64 0, .int .i64 0] 30) := HR1.out.next hb2
    have HB2 : Hid (Below w.heap.size w w2) := bel_step HB1.out hb2
    clear hb2 o1 HM1 HO1 HK1 HR1 HB1 HOM
    cases r with
    | false =>
      have HN : Hid (¬ (Mt.may ⟨me, rev, cr, h, b, bad, lock⟩ ∧ May l)) := fun h => by have := hr2.2 h.2; cases this
      clear hr2
      go_wp2_with (first | (refine wp_letAll rfl 30 _ _ rfl (w.heap.size + 1 + 1 + 1) rfl #[.int .i64 0, .int .i64 0, .int .i64 0, .int .i64 0, .int .u64 0, .int .i64 0, .int .i64 0] rfl (by kernel_rfl) (by simp [Value.oneCell']) #[.int .i64 0, .int .i64 0, .int .i64 0, .int .i64 0, .int .u64 0, .int .i64 0, .int .i64 0] 30 HR2.out rfl ?_) | fail)
      intro WF hUF
      have HBF : Hid (Below w.heap.size w WF) := hUF.bel _ _ (by omega) HB2.out
      have R0 : Hid (WF.cell? ⟨w.heap.size + 1 + 1 + 1, 0, none⟩ = some (.int .i64 0)) := hUF.blk.cell 0
      have R1 : Hid (WF.cell? ⟨w.heap.size + 1 + 1 + 1, 1, none⟩ = some (.int .i64 0)) := hUF.blk.cell 1
      have R2 : Hid (WF.cell? ⟨w.heap.size + 1 + 1 + 1, 2, none⟩ = some (.int .i64 0)) := hUF.blk.cell 2
      have R3 : Hid (WF.cell? ⟨w.heap.size + 1 + 1 + 1, 3, none⟩ = some (.int .i64 0)) := hUF.blk.cell 3
      have R4 : Hid (WF.cell? ⟨w.heap.size + 1 + 1 + 1, 4, none⟩ = some (.int .u64 0)) := hUF.blk.cell 4
      have R5 : Hid (WF.cell? ⟨w.heap.size + 1 + 1 + 1, 5, none⟩ = some (.int .i64 0)) := hUF.blk.cell 5
      have R6 : Hid (WF.cell? ⟨w.heap.size + 1 + 1 + 1, 6, none⟩ = some (.int .i64 0)) := hUF.blk.cell 6
      clear hUF
      go_wp2_with fail
      exact bodyPost_ret (v := .tuple #[.agg #[.int .i64 0, .int .i64 0, .int .i64 0, .int .i64 0, .int .u64 0, .int .i64 0, .int .i64 0], .int .i64 0, .int .i64 5]) (by simp [results, Tryd.results9, R0.out, R1.out, R2.out, R3.out, R4.out, R5.out, R6.out, go_sem]) rfl ⟨mt0, 0, 5, rfl, .state HN.out, HBF.out⟩
    | true =>
      have HYL : Hid (May l) := hr2.1 rfl
      clear hr2
      have HM3 : Hid (Blk (w2.alloc (.cells #[.int .i64 0, .int .i64 0, .int .i64 0, .int .i64 0, .int .u64 0, .int .i64 0, .int .i64 0] 57)) (w.heap.size) #[.int .i64 me, .int .i64 rev, .int .i64 cr, .int .i64 h, .int .u64 (b : Int), .int .i64 bad, .int .i64 lock] 30) := HM2.out.alloc _
      have HO3 : Hid (Blk (w2.alloc (.cells #[.int .i64 0, .int .i64 0, .int .i64 0, .int .i64 0, .int .u64 0, .int .i64 0, .int .i64 0] 57)) (w.heap.size + 1) #[.slice a n cap] 34) := HO2.out.alloc _
      have HK3 : Hid (Blk (w2.alloc (.cells #[.int .i64 0, .int .i64 0, .int .i64 0, .int .i64 0, .int .u64 0, .int .i64 0, .int .i64 0] 57)) (w.heap.size + 1 + 1) #[.int .i64 c, .int .i64 i, .int .i64 am, .int .i64 t] 35) := HK2.out.alloc _
      have HR3 : Hid (Blk (w2.alloc (.cells #[.int .i64 0, .int .i64 0, .int .i64 0, .int .i64 0, .int .u64 0, .int .i64 0, .int .i64 0] 57)) (w.heap.size + 1 + 1 + 1) #[.int .i64 0, .int .i64 0, .int .i64 0, .int .i64 0, .int .u64 0, .int .i64 0, .int .i64 0] 30) := HR2.out.alloc _
      have HB3 : Hid (Below w.heap.size w (w2.alloc (.cells #[.int .i64 0, .int .i64 0, .int .i64 0, .int .i64 0, .int .u64 0, .int .i64 0, .int .i64 0] 57))) := HB2.out.alloc HB2.out.size _
      have HG3 : Hid (Blk (w2.alloc (.cells #[.int .i64 0, .int .i64 0, .int .i64 0, .int .i64 0, .int .u64 0, .int .i64 0, .int .i64 0] 57)) w2.heap.size #[.int .i64 0, .int .i64 0, .int .i64 0, .int .i64 0, .int .u64 0, .int .i64 0, .int .i64 0] 57) := Blk.new _ _ _
      have HL : Hid (w.heap.size ≤ w2.heap.size ∧ w.heap.size + 1 + 1 + 1 < w2.heap.size) := ⟨HB2.out.size, HR2.out.lt⟩
      go_wp2_with (first | (refine wp_whole rfl 30 _ rfl (w.heap.size) rfl 30 #[.int .i64 me, .int .i64 rev, .int .i64 cr, .int .i64 h, .int .u64 (b : Int), .int .i64 bad, .int .i64 lock] _ HM2.out Tryd.underlying30 rfl (by kernel_rfl) ?_) | (refine wp_letAll rfl 57 _ _ rfl (w2.heap.size) rfl #[.int .i64 me, .int .i64 rev, .int .i64 cr, .int .i64 h, .int .u64 (b : Int), .int .i64 bad, .int .i64 lock] rfl (by kernel_rfl) (by simp [Value.oneCell']) #[.int .i64 0, .int .i64 0, .int .i64 0, .int .i64 0, .int .u64 0, .int .i64 0, .int .i64 0] 57 HG3.out rfl ?_) | fail)
      intro W4 hU4
      have hl := HL.out
      have HM4 : Hid (Blk W4 (w.heap.size) #[.int .i64 me, .int .i64 rev, .int .i64 cr, .int .i64 h, .int .u64 (b : Int), .int .i64 bad, .int .i64 lock] 30) := hU4.keep HM3.out (by omega)
      have HO4 : Hid (Blk W4 (w.heap.size + 1) #[.slice a n cap] 34) := hU4.keep HO3.out (by omega)
      have HK4 : Hid (Blk W4 (w.heap.size + 1 + 1) #[.int .i64 c, .int .i64 i, .int .i64 am, .int .i64 t] 35) := hU4.keep HK3.out (by omega)
      have HR4 : Hid (Blk W4 (w.heap.size + 1 + 1 + 1) #[.int .i64 0, .int .i64 0, .int .i64 0, .int .i64 0, .int .u64 0, .int .i64 0, .int .i64 0] 30) := hU4.keep HR3.out (by omega)
      have HB4 : Hid (Below w.heap.size w W4) := hU4.bel _ _ (by omega) HB3.out
      have HG4 : Hid (Wk W4 w2.heap.size ⟨me, rev, cr, h, b, bad, lock⟩) := hU4.blk
      clear hU4 hl HM2 HO2 HK2 HR2 HB2 HM3 HO3 HK3 HR3 HB3 HG3
      generalize w2.heap.size = g at *
      have o4 : W4.cell? ⟨w.heap.size + 1, 0, none⟩ = some (.slice a n cap) := HO4.out.cell 0
      go_wp2_with (first | (refine wp_whole rfl 35 _ rfl (w.heap.size + 1 + 1) rfl 35 #[.int .i64 c, .int .i64 i, .int .i64 am, .int .i64 t] _ HK4.out Tryd.underlying35 rfl (by kernel_rfl) ?_) | fail)
      refine (HKW.out _ _ (HT.out _ HB4.out) HG4.out (HRW.out _ HB4.out) HY.out HYL.out).mono ?_
      rintro e w5 ⟨hc5, m5, x5, f5, rfl, hw5, hk5⟩
      have hl := HL.out
      have HR5 : Hid (Blk w5 (w.heap.size + 1 + 1 + 1) #[.int .i64 0, .int .i64 0, .int .i64 0, .int .i64 0, .int .u64 0, .int .i64 0, .int .i64 0] 30) := hc5.keep HR4.out (by omega)
      have HB5 : Hid (Below w.heap.size w w5) := hc5.bel HB4.out (by omega) HB4.out.size
      have HI5 : Hid (KeyIs ⟨me, rev, cr, h, b, bad, lock⟩ l c i am t (bodyI c i am) m5 x5 f5) := hk5
      obtain ⟨me5, rev5, cr5, h5, b5, bad5, lock5⟩ := m5
      have HG5 : Hid (Blk w5 g #[.int .i64 me5, .int .i64 rev5, .int .i64 cr5, .int .i64 h5, .int .u64 (b5 : Int), .int .i64 bad5, .int .i64 lock5] 57) := hw5
      clear hc5 hw5 hk5 hl o4 HM4 HO4 HK4 HR4 HB4 HG4 HKW HT HRW
      go_wp2_with (first | (refine wp_whole rfl 30 _ rfl (g) rfl 57 #[.int .i64 me5, .int .i64 rev5, .int .i64 cr5, .int .i64 h5, .int .u64 (b5 : Int), .int .i64 bad5, .int .i64 lock5] _ HG5.out Tryd.underlying30 rfl (by kernel_rfl) ?_) | (refine wp_letAll rfl 30 _ _ rfl (w.heap.size + 1 + 1 + 1) rfl #[.int .i64 me5, .int .i64 rev5, .int .i64 cr5, .int .i64 h5, .int .u64 (b5 : Int), .int .i64 bad5, .int .i64 lock5] rfl (by kernel_rfl) (by simp [Value.oneCell']) #[.int .i64 0, .int .i64 0, .int .i64 0, .int .i64 0, .int .u64 0, .int .i64 0, .int .i64 0] 30 HR5.out rfl ?_) | fail)
      intro WF hUF
      have HBF : Hid (Below w.heap.size w WF) := hUF.bel _ _ (by omega) HB5.out
      have R0 : Hid (WF.cell? ⟨w.heap.size + 1 + 1 + 1, 0, none⟩ = some (.int .i64 me5)) := hUF.blk.cell 0
      have R1 : Hid (WF.cell? ⟨w.heap.size + 1 + 1 + 1, 1, none⟩ = some (.int .i64 rev5)) := hUF.blk.cell 1
      have R2 : Hid (WF.cell? ⟨w.heap.size + 1 + 1 + 1, 2, none⟩ = some (.int .i64 cr5)) := hUF.blk.cell 2
      have R3 : Hid (WF.cell? ⟨w.heap.size + 1 + 1 + 1, 3, none⟩ = some (.int .i64 h5)) := hUF.blk.cell 3
      have R4 : Hid (WF.cell? ⟨w.heap.size + 1 + 1 + 1, 4, none⟩ = some (.int .u64 (b5 : Int))) := hUF.blk.cell 4
      have R5 : Hid (WF.cell? ⟨w.heap.size + 1 + 1 + 1, 5, none⟩ = some (.int .i64 bad5)) := hUF.blk.cell 5
      have R6 : Hid (WF.cell? ⟨w.heap.size + 1 + 1 + 1, 6, none⟩ = some (.int .i64 lock5)) := hUF.blk.cell 6
      clear hUF
      go_wp2_with fail
      exact bodyPost_ret (v := .tuple #[.agg #[.int .i64 me5, .int .i64 rev5, .int .i64 cr5, .int .i64 h5, .int .u64 (b5 : Int), .int .i64 bad5, .int .i64 lock5], .int .i64 x5, .int .i64 f5]) (by simp [results, Tryd.results9, R0.out, R1.out, R2.out, R3.out, R4.out, R5.out, R6.out, go_sem]) rfl ⟨⟨me5, rev5, cr5, h5, b5, bad5, lock5⟩, x5, f5, rfl, HI5.out, HBF.out⟩
theorem kkey : KKey TTab := fun W m a n cap l c i am t ht hb hr _ _ => pkey m a n cap l c i am t W ht hb hr

end Go.Proofs.YtmpapnblpjnlmabDoor.met
