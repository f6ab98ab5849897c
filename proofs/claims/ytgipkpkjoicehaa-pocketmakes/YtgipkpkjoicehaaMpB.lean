/- The program's beginning. -/
import Derived.Test.YtgipkpkjoicehaaMpM
import Derived.Test.YtgipkpkjoicehaaLet
import Derived.Test.YtgipkpkjoicehaaMjB
namespace Go.Proofs.Ytgipkpkjoicehaa.met
open Go.RowKit
set_option maxRecDepth 100000
set_option linter.unusedVariables false
set_option linter.unusedSimpArgs false

theorem new_may (me : Int) : (mtNew me).may ↔ (0 ≤ me ∧ me ≤ 49) :=
  ⟨fun h => h.me, fun h => ⟨h, by unfold mtNew; simp, by unfold mtNew; simp, by unfold mtNew; simp, by unfold mtNew; simp, (fun hx => hx.1 rfl), .inl ⟨rfl, rfl⟩⟩⟩
set_option maxHeartbeats 1000000 in
theorem pbegin (me : Int) (w : World) : Calls Try.prog 15 #[.int .i64 me] w fun e w' => BeginPost w me e w' := by
  have HM : Hid (∀ W, Calls Try.prog 27 #[.agg #[.int .i64 me, .int .i64 0, .int .i64 0, .int .i64 0, .int .u64 0, .int .i64 0, .int .i64 0]] W fun e w' => Told W (mtNew me).may e w') := fun W => pmay_any (mtNew me) W (by show (0 : Nat) < _; decide)
  have HR : Hid (Blk ((w.alloc (.cells #[.int .i64 0, .int .i64 0, .int .i64 0, .int .i64 0, .int .u64 0, .int .i64 0, .int .i64 0] 33)).alloc (.cells #[.int .i64 0, .int .i64 0, .int .i64 0, .int .i64 0, .int .u64 0, .int .i64 0, .int .i64 0] 33)) (w.heap.size) #[.int .i64 0, .int .i64 0, .int .i64 0, .int .i64 0, .int .u64 0, .int .i64 0, .int .i64 0] 33) := (Blk.new _ _ _).alloc _
  have HN : Hid (Blk ((w.alloc (.cells #[.int .i64 0, .int .i64 0, .int .i64 0, .int .i64 0, .int .u64 0, .int .i64 0, .int .i64 0] 33)).alloc (.cells #[.int .i64 0, .int .i64 0, .int .i64 0, .int .i64 0, .int .u64 0, .int .i64 0, .int .i64 0] 33)) (w.heap.size + 1) #[.int .i64 0, .int .i64 0, .int .i64 0, .int .i64 0, .int .u64 0, .int .i64 0, .int .i64 0] 33) := Blk.new1 w _ _ _
  have HB : Hid (Below w.heap.size w ((w.alloc (.cells #[.int .i64 0, .int .i64 0, .int .i64 0, .int .i64 0, .int .u64 0, .int .i64 0, .int .i64 0] 33)).alloc (.cells #[.int .i64 0, .int .i64 0, .int .i64 0, .int .i64 0, .int .u64 0, .int .i64 0, .int .i64 0] 33))) := ((Below.refl _ _).alloc (Nat.le_refl _) _).alloc (by simp) _
  go_enter Try.func15, Try.ntmps15
  go_wp2_with (first
    | (refine wp_letAll rfl 33 _ _ rfl (w.heap.size + 1) rfl #[.int .i64 me, .int .i64 0, .int .i64 0, .int .i64 0, .int .u64 0, .int .i64 0, .int .i64 0] rfl (by kernel_rfl) (by simp [Value.oneCell']) #[.int .i64 0, .int .i64 0, .int .i64 0, .int .i64 0, .int .u64 0, .int .i64 0, .int .i64 0] 33 HN.out rfl ?_)
    | fail)
  intro W1 hU1
  have HR1 : Hid (Blk W1 (w.heap.size) #[.int .i64 0, .int .i64 0, .int .i64 0, .int .i64 0, .int .u64 0, .int .i64 0, .int .i64 0] 33) := hU1.keep HR.out (by omega)
  have HN1 : Hid (Blk W1 (w.heap.size + 1) #[.int .i64 me, .int .i64 0, .int .i64 0, .int .i64 0, .int .u64 0, .int .i64 0, .int .i64 0] 33) := hU1.blk
  have HB1 : Hid (Below w.heap.size w W1) := hU1.bel _ _ (by omega) HB.out
  clear hU1 HR HN HB
  go_wp2_with (first
    | (refine wp_whole rfl 33 _ rfl (w.heap.size + 1) rfl 33 #[.int .i64 me, .int .i64 0, .int .i64 0, .int .i64 0, .int .u64 0, .int .i64 0, .int .i64 0] _ HN1.out Try.underlying33 rfl (by kernel_rfl) ?_)
    | fail)
  refine (HM.out _).mono ?_
  rintro e w2 ⟨r, rfl, hr, hb2⟩
  have HR2 : Hid (Blk w2 (w.heap.size) #[.int .i64 0, .int .i64 0, .int .i64 0, .int .i64 0, .int .u64 0, .int .i64 0, .int .i64 0] 33) := HR1.out.next hb2
  have HN2 : Hid (Blk w2 (w.heap.size + 1) #[.int .i64 me, .int .i64 0, .int .i64 0, .int .i64 0, .int .u64 0, .int .i64 0, .int .i64 0] 33) := HN1.out.next hb2
  have HB2 : Hid (Below w.heap.size w w2) := bel_step HB1.out hb2
  have HK : Hid (r = true ↔ (0 ≤ me ∧ me ≤ 49)) := hr.trans (new_may me)
  clear hr hb2 HR1 HN1 HB1 HM
  cases r with
  | false =>
    have HNO : Hid (¬ (0 ≤ me ∧ me ≤ 49)) := fun h => by have := HK.out.2 h; cases this
    go_wp2_with (first
      | (refine wp_letAll rfl 33 _ _ rfl (w.heap.size) rfl #[.int .i64 0, .int .i64 0, .int .i64 0, .int .i64 0, .int .u64 0, .int .i64 0, .int .i64 0] rfl (by kernel_rfl) (by simp [Value.oneCell']) #[.int .i64 0, .int .i64 0, .int .i64 0, .int .i64 0, .int .u64 0, .int .i64 0, .int .i64 0] 33 HR2.out rfl ?_)
      | fail)
    intro WF hUF
    have HBF : Hid (Below w.heap.size w WF) := hUF.bel _ _ (by omega) HB2.out
    have R0 : Hid (WF.cell? ⟨w.heap.size, 0, none⟩ = some (.int .i64 0)) := hUF.blk.cell 0
    have R1 : Hid (WF.cell? ⟨w.heap.size, 1, none⟩ = some (.int .i64 0)) := hUF.blk.cell 1
    have R2 : Hid (WF.cell? ⟨w.heap.size, 2, none⟩ = some (.int .i64 0)) := hUF.blk.cell 2
    have R3 : Hid (WF.cell? ⟨w.heap.size, 3, none⟩ = some (.int .i64 0)) := hUF.blk.cell 3
    have R4 : Hid (WF.cell? ⟨w.heap.size, 4, none⟩ = some (.int .u64 0)) := hUF.blk.cell 4
    have R5 : Hid (WF.cell? ⟨w.heap.size, 5, none⟩ = some (.int .i64 0)) := hUF.blk.cell 5
    have R6 : Hid (WF.cell? ⟨w.heap.size, 6, none⟩ = some (.int .i64 0)) := hUF.blk.cell 6
    clear hUF
    go_wp2_with fail
    exact bodyPost_ret (v := .tuple #[.agg #[.int .i64 0, .int .i64 0, .int .i64 0, .int .i64 0, .int .u64 0, .int .i64 0, .int .i64 0], .int .i64 2]) (by simp [results, Try.results15, R0.out, R1.out, R2.out, R3.out, R4.out, R5.out, R6.out, go_sem]) rfl ⟨mt0, 2, rfl, .range HNO.out, HBF.out⟩
  | true =>
    have HYE : Hid (0 ≤ me ∧ me ≤ 49) := HK.out.1 rfl
    go_wp2_with (first
      | (refine wp_whole rfl 33 _ rfl (w.heap.size + 1) rfl 33 #[.int .i64 me, .int .i64 0, .int .i64 0, .int .i64 0, .int .u64 0, .int .i64 0, .int .i64 0] _ HN2.out Try.underlying33 rfl (by kernel_rfl) ?_)
      | (refine wp_letAll rfl 33 _ _ rfl (w.heap.size) rfl #[.int .i64 me, .int .i64 0, .int .i64 0, .int .i64 0, .int .u64 0, .int .i64 0, .int .i64 0] rfl (by kernel_rfl) (by simp [Value.oneCell']) #[.int .i64 0, .int .i64 0, .int .i64 0, .int .i64 0, .int .u64 0, .int .i64 0, .int .i64 0] 33 HR2.out rfl ?_)
      | fail)
    intro WF hUF
    have HBF : Hid (Below w.heap.size w WF) := hUF.bel _ _ (by omega) HB2.out
    have R0 : Hid (WF.cell? ⟨w.heap.size, 0, none⟩ = some (.int .i64 me)) := hUF.blk.cell 0
    have R1 : Hid (WF.cell? ⟨w.heap.size, 1, none⟩ = some (.int .i64 0)) := hUF.blk.cell 1
    have R2 : Hid (WF.cell? ⟨w.heap.size, 2, none⟩ = some (.int .i64 0)) := hUF.blk.cell 2
    have R3 : Hid (WF.cell? ⟨w.heap.size, 3, none⟩ = some (.int .i64 0)) := hUF.blk.cell 3
    have R4 : Hid (WF.cell? ⟨w.heap.size, 4, none⟩ = some (.int .u64 0)) := hUF.blk.cell 4
    have R5 : Hid (WF.cell? ⟨w.heap.size, 5, none⟩ = some (.int .i64 0)) := hUF.blk.cell 5
    have R6 : Hid (WF.cell? ⟨w.heap.size, 6, none⟩ = some (.int .i64 0)) := hUF.blk.cell 6
    clear hUF
    go_wp2_with fail
    exact bodyPost_ret (v := .tuple #[.agg #[.int .i64 me, .int .i64 0, .int .i64 0, .int .i64 0, .int .u64 0, .int .i64 0, .int .i64 0], .int .i64 0]) (by simp [results, Try.results15, R0.out, R1.out, R2.out, R3.out, R4.out, R5.out, R6.out, go_sem]) rfl ⟨mtNew me, 0, rfl, .ok HYE.out, HBF.out⟩
theorem kbegin {I : World → Prop} : KBegin I := fun W me _ => pbegin me W

end Go.Proofs.Ytgipkpkjoicehaa.met
