/- Windows: the document's own numbers that are known. -/
import Derived.Test.YteibdogejiajnaaWnS
namespace Go.Proofs.Yteibdogejiajnaa.win
open Go.RowKit Go.Proofs.Yteibdogejiajnaa.irow
set_option maxRecDepth 100000
set_option linter.unusedVariables false

/-- The numbers that a window knows were told. -/
def UsedPost (w : World) (h : Int) (b : Nat) (e : Ending) (w' : World) : Prop :=
  ∃ v zs c, e = .returned (.tuple #[v, .int .i64 c]) ∧ Iw w' w.heap.size v zs ∧ Below w.heap.size w w' ∧ ((May h b ∧ c = 0 ∧ zs = mem h b 64) ∨ (¬ May h b ∧ c = 5 ∧ zs = []))
set_option maxHeartbeats 1000000 in
theorem usedOf_any (h : Int) (b : Nat) (w : World) (hb : b < 18446744073709551616) :
    Calls Try.prog 14 #[.agg #[.int .i64 h, .int .u64 (b : Int)]] w fun e w' => UsedPost w h b e w' := by
  have HMY : Hid (∀ W, Calls Try.prog 20 #[.agg #[.int .i64 h, .int .u64 (b : Int)]] W fun e w' => MayPost W h b e w') := fun W => wmay_any h b W hb
  have hW := Blk.new w #[.int .i64 h, .int .u64 (b : Int)] 24
  have c0 := hW.cell 0
  have c1 := hW.cell 1
  have HB0 : Hid (Below w.heap.size w (w.alloc (.cells #[.int .i64 h, .int .u64 (b : Int)] 24))) := (Below.refl _ _).alloc (Nat.le_refl _) _
  have HWB : Hid (∀ W', Below (w.alloc (.cells #[.int .i64 h, .int .u64 (b : Int)] 24)).heap.size (w.alloc (.cells #[.int .i64 h, .int .u64 (b : Int)] 24)) W' → W'.cell? ⟨w.heap.size, 0, none⟩ = some (.int .i64 h) ∧ W'.cell? ⟨w.heap.size, 1, none⟩ = some (.int .u64 (b : Int))) := fun W' hb' => ⟨(hW.next hb').cell 0, (hW.next hb').cell 1⟩
  clear hW
  go_enter Try.func14, Try.ntmps14
  go_wp2_with fail
  refine (HMY.out _).mono ?_
  rintro e w1 ⟨r, rfl, hr, hb1⟩
  have HB1 : Hid (Below w.heap.size w w1) := bel_step HB0.out hb1
  obtain ⟨d0, d1⟩ := HWB.out w1 hb1
  clear hb1 c0 c1 HB0 HWB HMY
  cases r with
  | false =>
    have HM : Hid (¬ May h b) := fun hm => by have := hr.2 hm; cases this
    clear hr
    go_wp2_with fail
    go_ret2
    exact ⟨_, [], 5, rfl, Iw.zero _ _, HB1.out, .inr ⟨HM.out, rfl, rfl⟩⟩
  | true =>
    have HM : Hid (May h b) := hr.1 rfl
    obtain ⟨l1, l2⟩ := may_low HM.out
    have HME : Hid (∀ W, Calls Try.prog 22 #[.agg #[.int .i64 h, .int .u64 (b : Int)]] W fun e w' => GaveI W (mem h b 64) e w') := fun W => members_any h b W hb l1 l2
    clear hr l1 l2
    go_wp2_with fail
    refine (HME.out _).mono ?_
    rintro e w3 ⟨v, rfl, hv, hb3⟩
    have HF : Hid (Iw w3 w.heap.size v (mem h b 64) ∧ Below w.heap.size w w3) := ⟨hv.low HB1.out.size, bel_step HB1.out hb3⟩
    clear hv hb3
    go_wp2_with fail
    go_ret2
    exact ⟨_, _, 0, rfl, HF.out.1, HF.out.2, .inl ⟨HM.out, rfl, rfl⟩⟩

end Go.Proofs.Yteibdogejiajnaa.win
