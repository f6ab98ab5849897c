/- An act without what its form has. -/
import Derived.Test.YtlianhienbhbgaaDoorOdW
namespace Go.Proofs.YtlianhienbhbgaaDoor.odr
open Go.RowKit
set_option maxRecDepth 100000
set_option linter.unusedVariables false
set_option linter.unusedSimpArgs false

def zn (h : Bool) (n : Int) : Int := if h = true then 0 else n
def zt (h : Bool) (t : ByteArray) : ByteArray := if h = true then ⟨#[]⟩ else t
/-- What is left of an act. -/
def less (hm ha hb hc ht : Bool) (x : Ac) : Ac := ⟨0, zn hm x.me, zn ha x.a, zn hb x.b, zn hc x.c, zt ht x.t, 0⟩
def arrN (hm ha hb hc : Bool) (me a b c : Int) : Nat → Array Value
  | 0 => #[.int .i64 me, .int .i64 a, .int .i64 b, .int .i64 c]
  | 1 => #[.int .i64 (zn hm me), .int .i64 a, .int .i64 b, .int .i64 c]
  | 2 => #[.int .i64 (zn hm me), .int .i64 (zn ha a), .int .i64 b, .int .i64 c]
  | 3 => #[.int .i64 (zn hm me), .int .i64 (zn ha a), .int .i64 (zn hb b), .int .i64 c]
  | _ => #[.int .i64 (zn hm me), .int .i64 (zn ha a), .int .i64 (zn hb b), .int .i64 (zn hc c)]

set_option maxHeartbeats 4000000 in
theorem pwithout (fs : ByteArray) (hm ha hb hc ht : Bool) (x : Ac) (w : World) :
    Calls Tryd.prog 13 #[.agg #[.string fs, .bool hm, .bool ha, .bool hb, .bool hc, .bool ht], x.v] w fun e w' => e = .returned (less hm ha hb hc ht x).v ∧ Below w.heap.size w w' := by
  have HN : Hid (∀ W, Calls Tryd.prog 23 #[x.v] W fun e w' => e = .returned (.agg (nums x)) ∧ Below W.heap.size W w') := fun W => pnumbers x W
  have HW : Hid (∀ (y : Ac) (p q r s : Int) W, Calls Tryd.prog 24 #[y.v, .agg #[.int .i64 p, .int .i64 q, .int .i64 r, .int .i64 s]] W fun e w' => e = .returned (withN y p q r s).v ∧ Below W.heap.size W w') := pwithNumbers
  obtain ⟨k, me, a, b, c, t, cut⟩ := x
  have HW1 : Hid (∀ W, Calls Tryd.prog 24 #[.agg #[.int .i64 0, .int .i64 me, .int .i64 a, .int .i64 b, .int .i64 c, .string (zt ht t), .int .i64 0], .agg #[.int .i64 (zn hm me), .int .i64 (zn ha a), .int .i64 (zn hb b), .int .i64 (zn hc c)]] W fun e w' => e = .returned (less hm ha hb hc ht ⟨k, me, a, b, c, t, cut⟩).v ∧ Below W.heap.size W w') := fun W => HW.out ⟨0, me, a, b, c, zt ht t, 0⟩ _ _ _ _ W
  clear HW
  unfold Ac.v Ac.cells nums less at *
  simp only at HW1 HN ⊢
  have HF0 : Hid (Blk (((w.alloc (.cells #[.string fs, .bool hm, .bool ha, .bool hb, .bool hc, .bool ht] 34)).alloc (.cells #[.int .i64 k, .int .i64 me, .int .i64 a, .int .i64 b, .int .i64 c, .string t, .int .i64 cut] 23)).alloc (.cells #[.int .i64 0, .int .i64 0, .int .i64 0, .int .i64 0, .int .i64 0, .string ⟨#[]⟩, .int .i64 0] 23)) w.heap.size #[.string fs, .bool hm, .bool ha, .bool hb, .bool hc, .bool ht] 34) := ((Blk.new _ _ _).alloc _).alloc _
  have HX0 : Hid (Blk (((w.alloc (.cells #[.string fs, .bool hm, .bool ha, .bool hb, .bool hc, .bool ht] 34)).alloc (.cells #[.int .i64 k, .int .i64 me, .int .i64 a, .int .i64 b, .int .i64 c, .string t, .int .i64 cut] 23)).alloc (.cells #[.int .i64 0, .int .i64 0, .int .i64 0, .int .i64 0, .int .i64 0, .string ⟨#[]⟩, .int .i64 0] 23)) (w.heap.size + 1) #[.int .i64 k, .int .i64 me, .int .i64 a, .int .i64 b, .int .i64 c, .string t, .int .i64 cut] 23) := (Blk.new1 _ _ _ _).alloc _
  have HZ0 : Hid (Blk (((w.alloc (.cells #[.string fs, .bool hm, .bool ha, .bool hb, .bool hc, .bool ht] 34)).alloc (.cells #[.int .i64 k, .int .i64 me, .int .i64 a, .int .i64 b, .int .i64 c, .string t, .int .i64 cut] 23)).alloc (.cells #[.int .i64 0, .int .i64 0, .int .i64 0, .int .i64 0, .int .i64 0, .string ⟨#[]⟩, .int .i64 0] 23)) (w.heap.size + 1 + 1) #[.int .i64 0, .int .i64 0, .int .i64 0, .int .i64 0, .int .i64 0, .string ⟨#[]⟩, .int .i64 0] 23) := Blk.new2 _ _ _ _ _
  have HB0 : Hid (Below w.heap.size w (((w.alloc (.cells #[.string fs, .bool hm, .bool ha, .bool hb, .bool hc, .bool ht] 34)).alloc (.cells #[.int .i64 k, .int .i64 me, .int .i64 a, .int .i64 b, .int .i64 c, .string t, .int .i64 cut] 23)).alloc (.cells #[.int .i64 0, .int .i64 0, .int .i64 0, .int .i64 0, .int .i64 0, .string ⟨#[]⟩, .int .i64 0] 23))) := (((Below.refl _ _).alloc (Nat.le_refl _) _).alloc (by simp) _).alloc (by simp; omega) _
  have hs0 : w.heap.size + 3 ≤ ((((w.alloc (.cells #[.string fs, .bool hm, .bool ha, .bool hb, .bool hc, .bool ht] 34)).alloc (.cells #[.int .i64 k, .int .i64 me, .int .i64 a, .int .i64 b, .int .i64 c, .string t, .int .i64 cut] 23)).alloc (.cells #[.int .i64 0, .int .i64 0, .int .i64 0, .int .i64 0, .int .i64 0, .string ⟨#[]⟩, .int .i64 0] 23))).heap.size := by simp
  go_enter Tryd.func13, Tryd.ntmps13
  go_wp2_with fail
  refine (HN.out _).mono ?_
  rintro e W1 ⟨rfl, hb'⟩
  have HF1 : Hid (Blk (W1.alloc (.cells #[.int .i64 me, .int .i64 a, .int .i64 b, .int .i64 c] 51)) w.heap.size #[.string fs, .bool hm, .bool ha, .bool hb, .bool hc, .bool ht] 34) := (HF0.out.next hb').alloc _
  have HX1 : Hid (Blk (W1.alloc (.cells #[.int .i64 me, .int .i64 a, .int .i64 b, .int .i64 c] 51)) (w.heap.size + 1) #[.int .i64 k, .int .i64 me, .int .i64 a, .int .i64 b, .int .i64 c, .string t, .int .i64 cut] 23) := (HX0.out.next hb').alloc _
  have HZ1 : Hid (Blk (W1.alloc (.cells #[.int .i64 me, .int .i64 a, .int .i64 b, .int .i64 c] 51)) (w.heap.size + 1 + 1) #[.int .i64 0, .int .i64 0, .int .i64 0, .int .i64 0, .int .i64 0, .string ⟨#[]⟩, .int .i64 0] 23) := (HZ0.out.next hb').alloc _
  have HA1 : Hid (Blk (W1.alloc (.cells #[.int .i64 me, .int .i64 a, .int .i64 b, .int .i64 c] 51)) W1.heap.size #[.int .i64 me, .int .i64 a, .int .i64 b, .int .i64 c] 51) := Blk.new _ _ _
  have HB1 : Hid (Below w.heap.size w (W1.alloc (.cells #[.int .i64 me, .int .i64 a, .int .i64 b, .int .i64 c] 51))) := (bel_step HB0.out hb').alloc (bel_step HB0.out hb').size _
  have hs1 : w.heap.size + 3 ≤ W1.heap.size := Nat.le_trans hs0 hb'.size
  clear HF0 HX0 HZ0 HB0 hs0 hb' HN
  go_upto_region 2 with fail
  generalize W1.alloc (.cells #[.int .i64 me, .int .i64 a, .int .i64 b, .int .i64 c] 51) = W2 at *
  generalize W1.heap.size = g at *
  have q1 := HF1.out.cell 1
  have q2 := HF1.out.cell 2
  have q3 := HF1.out.cell 3
  have q4 := HF1.out.cell 4
  go_wp2_with fail
  clear q1 q2 q3 q4
  go_loopw [12] (fun v wr => ∃ (i : Nat), i ≤ 4 ∧ v = .int .i64 (i : Int) ∧ Blk wr g (arrN hm ha hb hc me a b c i) 51 ∧ Blk wr w.heap.size #[.string fs, .bool hm, .bool ha, .bool hb, .bool hc, .bool ht] 34 ∧ Blk wr (w.heap.size + 1) #[.int .i64 k, .int .i64 me, .int .i64 a, .int .i64 b, .int .i64 c, .string t, .int .i64 cut] 23 ∧ Blk wr (w.heap.size + 1 + 1) #[.int .i64 0, .int .i64 0, .int .i64 0, .int .i64 0, .int .i64 0, .string ⟨#[]⟩, .int .i64 0] 23 ∧ Below w.heap.size w wr) (fun v _ => 4 - (intOf v).toNat)
  case atStart => exact ⟨0, by decide, rfl, HA1.out, HF1.out, HX1.out, HZ1.out, HB1.out⟩
  case round =>
    obtain ⟨i, hi, rfl, hab, hfb, hxb, hzb, hbl⟩ := hrel
    have HAi : Hid (Blk wr g (arrN hm ha hb hc me a b c i) 51) := hab
    have HF : Hid (Blk wr w.heap.size #[.string fs, .bool hm, .bool ha, .bool hb, .bool hc, .bool ht] 34) := hfb
    have HX : Hid (Blk wr (w.heap.size + 1) #[.int .i64 k, .int .i64 me, .int .i64 a, .int .i64 b, .int .i64 c, .string t, .int .i64 cut] 23) := hxb
    have HZ : Hid (Blk wr (w.heap.size + 1 + 1) #[.int .i64 0, .int .i64 0, .int .i64 0, .int .i64 0, .int .i64 0, .string ⟨#[]⟩, .int .i64 0] 23) := hzb
    have HB : Hid (Below w.heap.size w wr) := hbl
    clear hab hfb hxb hzb hbl HA1 HF1 HX1 HZ1 HB1
    have hi5 : i = 0 ∨ i = 1 ∨ i = 2 ∨ i = 3 ∨ i = 4 := by omega
    rcases hi5 with rfl | rfl | rfl | rfl | rfl
    · have x0 : ∀ W : World, (Instr.index 32 (.agg #[.bool hm, .bool ha, .bool hb, .bool hc]) (.int .i64 0)).run Tryd.prog W = .ok (.bool hm) W := fun W => by kernel_rfl
      cases hm with
      | true =>
        have cz : wr.cell? ⟨g, 0, none⟩ = some (.int .i64 me) := HAi.out.cell 0
        have fz : wr.frozen? ⟨g, 0, none⟩ = false := HAi.out.free 0
        have HA2 : Hid (Blk (wr.setCell ⟨g, 0, none⟩ (.int .i64 0)) g (arrN true ha hb hc me a b c 1) 51) := HAi.out.set 0 _
        have HF2 : Hid (Blk (wr.setCell ⟨g, 0, none⟩ (.int .i64 0)) w.heap.size #[.string fs, .bool true, .bool ha, .bool hb, .bool hc, .bool ht] 34) := HF.out.other _ _ (by omega)
        have HX2 : Hid (Blk (wr.setCell ⟨g, 0, none⟩ (.int .i64 0)) (w.heap.size + 1) #[.int .i64 k, .int .i64 me, .int .i64 a, .int .i64 b, .int .i64 c, .string t, .int .i64 cut] 23) := HX.out.other _ _ (by omega)
        have HZ2 : Hid (Blk (wr.setCell ⟨g, 0, none⟩ (.int .i64 0)) (w.heap.size + 1 + 1) #[.int .i64 0, .int .i64 0, .int .i64 0, .int .i64 0, .int .i64 0, .string ⟨#[]⟩, .int .i64 0] 23) := HZ.out.other _ _ (by omega)
        have HB2 : Hid (Below w.heap.size w (wr.setCell ⟨g, 0, none⟩ (.int .i64 0))) := bel_set HB.out _ _ _ (by omega)
        clear HAi HF HX HZ HB
        go_wp2_with fail
        go_roundw
        case rel => exact ⟨1, by decide, rfl, HA2.out, HF2.out, HX2.out, HZ2.out, HB2.out⟩
        case measure => decide
      | false =>
        go_wp2_with fail
        go_roundw
        case rel => exact ⟨1, by decide, rfl, HAi.out, HF.out, HX.out, HZ.out, HB.out⟩
        case measure => decide
    · have x0 : ∀ W : World, (Instr.index 32 (.agg #[.bool hm, .bool ha, .bool hb, .bool hc]) (.int .i64 1)).run Tryd.prog W = .ok (.bool ha) W := fun W => by kernel_rfl
      cases ha with
      | true =>
        have cz : wr.cell? ⟨g, 1, none⟩ = some (.int .i64 a) := HAi.out.cell 1
        have fz : wr.frozen? ⟨g, 1, none⟩ = false := HAi.out.free 1
        have HA2 : Hid (Blk (wr.setCell ⟨g, 1, none⟩ (.int .i64 0)) g (arrN hm true hb hc me a b c 2) 51) := HAi.out.set 1 _
        have HF2 : Hid (Blk (wr.setCell ⟨g, 1, none⟩ (.int .i64 0)) w.heap.size #[.string fs, .bool hm, .bool true, .bool hb, .bool hc, .bool ht] 34) := HF.out.other _ _ (by omega)
        have HX2 : Hid (Blk (wr.setCell ⟨g, 1, none⟩ (.int .i64 0)) (w.heap.size + 1) #[.int .i64 k, .int .i64 me, .int .i64 a, .int .i64 b, .int .i64 c, .string t, .int .i64 cut] 23) := HX.out.other _ _ (by omega)
        have HZ2 : Hid (Blk (wr.setCell ⟨g, 1, none⟩ (.int .i64 0)) (w.heap.size + 1 + 1) #[.int .i64 0, .int .i64 0, .int .i64 0, .int .i64 0, .int .i64 0, .string ⟨#[]⟩, .int .i64 0] 23) := HZ.out.other _ _ (by omega)
        have HB2 : Hid (Below w.heap.size w (wr.setCell ⟨g, 1, none⟩ (.int .i64 0))) := bel_set HB.out _ _ _ (by omega)
        clear HAi HF HX HZ HB
        go_wp2_with fail
        go_roundw
        case rel => exact ⟨2, by decide, rfl, HA2.out, HF2.out, HX2.out, HZ2.out, HB2.out⟩
        case measure => decide
      | false =>
        go_wp2_with fail
        go_roundw
        case rel => exact ⟨2, by decide, rfl, HAi.out, HF.out, HX.out, HZ.out, HB.out⟩
        case measure => decide
    · have x0 : ∀ W : World, (Instr.index 32 (.agg #[.bool hm, .bool ha, .bool hb, .bool hc]) (.int .i64 2)).run Tryd.prog W = .ok (.bool hb) W := fun W => by kernel_rfl
      cases hb with
      | true =>
        have cz : wr.cell? ⟨g, 2, none⟩ = some (.int .i64 b) := HAi.out.cell 2
        have fz : wr.frozen? ⟨g, 2, none⟩ = false := HAi.out.free 2
        have HA2 : Hid (Blk (wr.setCell ⟨g, 2, none⟩ (.int .i64 0)) g (arrN hm ha true hc me a b c 3) 51) := HAi.out.set 2 _
        have HF2 : Hid (Blk (wr.setCell ⟨g, 2, none⟩ (.int .i64 0)) w.heap.size #[.string fs, .bool hm, .bool ha, .bool true, .bool hc, .bool ht] 34) := HF.out.other _ _ (by omega)
        have HX2 : Hid (Blk (wr.setCell ⟨g, 2, none⟩ (.int .i64 0)) (w.heap.size + 1) #[.int .i64 k, .int .i64 me, .int .i64 a, .int .i64 b, .int .i64 c, .string t, .int .i64 cut] 23) := HX.out.other _ _ (by omega)
        have HZ2 : Hid (Blk (wr.setCell ⟨g, 2, none⟩ (.int .i64 0)) (w.heap.size + 1 + 1) #[.int .i64 0, .int .i64 0, .int .i64 0, .int .i64 0, .int .i64 0, .string ⟨#[]⟩, .int .i64 0] 23) := HZ.out.other _ _ (by omega)
        have HB2 : Hid (Below w.heap.size w (wr.setCell ⟨g, 2, none⟩ (.int .i64 0))) := bel_set HB.out _ _ _ (by omega)
        clear HAi HF HX HZ HB
        go_wp2_with fail
        go_roundw
        case rel => exact ⟨3, by decide, rfl, HA2.out, HF2.out, HX2.out, HZ2.out, HB2.out⟩
        case measure => decide
      | false =>
        go_wp2_with fail
        go_roundw
        case rel => exact ⟨3, by decide, rfl, HAi.out, HF.out, HX.out, HZ.out, HB.out⟩
        case measure => decide
    · have x0 : ∀ W : World, (Instr.index 32 (.agg #[.bool hm, .bool ha, .bool hb, .bool hc]) (.int .i64 3)).run Tryd.prog W = .ok (.bool hc) W := fun W => by kernel_rfl
      cases hc with
      | true =>
        have cz : wr.cell? ⟨g, 3, none⟩ = some (.int .i64 c) := HAi.out.cell 3
        have fz : wr.frozen? ⟨g, 3, none⟩ = false := HAi.out.free 3
        have HA2 : Hid (Blk (wr.setCell ⟨g, 3, none⟩ (.int .i64 0)) g (arrN hm ha hb true me a b c 4) 51) := HAi.out.set 3 _
        have HF2 : Hid (Blk (wr.setCell ⟨g, 3, none⟩ (.int .i64 0)) w.heap.size #[.string fs, .bool hm, .bool ha, .bool hb, .bool true, .bool ht] 34) := HF.out.other _ _ (by omega)
        have HX2 : Hid (Blk (wr.setCell ⟨g, 3, none⟩ (.int .i64 0)) (w.heap.size + 1) #[.int .i64 k, .int .i64 me, .int .i64 a, .int .i64 b, .int .i64 c, .string t, .int .i64 cut] 23) := HX.out.other _ _ (by omega)
        have HZ2 : Hid (Blk (wr.setCell ⟨g, 3, none⟩ (.int .i64 0)) (w.heap.size + 1 + 1) #[.int .i64 0, .int .i64 0, .int .i64 0, .int .i64 0, .int .i64 0, .string ⟨#[]⟩, .int .i64 0] 23) := HZ.out.other _ _ (by omega)
        have HB2 : Hid (Below w.heap.size w (wr.setCell ⟨g, 3, none⟩ (.int .i64 0))) := bel_set HB.out _ _ _ (by omega)
        clear HAi HF HX HZ HB
        go_wp2_with fail
        go_roundw
        case rel => exact ⟨4, by decide, rfl, HA2.out, HF2.out, HX2.out, HZ2.out, HB2.out⟩
        case measure => decide
      | false =>
        go_wp2_with fail
        go_roundw
        case rel => exact ⟨4, by decide, rfl, HAi.out, HF.out, HX.out, HZ.out, HB.out⟩
        case measure => decide
    · have cb : wr.cell? ⟨w.heap.size, 5, none⟩ = some (.bool ht) := HF.out.cell 5
      have HA : Hid (Blk wr g #[.int .i64 (zn hm me), .int .i64 (zn ha a), .int .i64 (zn hb b), .int .i64 (zn hc c)] 51) := HAi.out
      clear HF HAi
      have x1 : wr.cell? ⟨w.heap.size + 1, 1, none⟩ = some (.int .i64 me) := HX.out.cell 1
      have x0 : wr.cell? ⟨w.heap.size + 1, 0, none⟩ = some (.int .i64 k) := HX.out.cell 0
      have x2 : wr.cell? ⟨w.heap.size + 1, 2, none⟩ = some (.int .i64 a) := HX.out.cell 2
      have x3 : wr.cell? ⟨w.heap.size + 1, 3, none⟩ = some (.int .i64 b) := HX.out.cell 3
      have x4 : wr.cell? ⟨w.heap.size + 1, 4, none⟩ = some (.int .i64 c) := HX.out.cell 4
      have x5 : wr.cell? ⟨w.heap.size + 1, 5, none⟩ = some (.string t) := HX.out.cell 5
      have x6 : wr.cell? ⟨w.heap.size + 1, 6, none⟩ = some (.int .i64 cut) := HX.out.cell 6
      have f0 : wr.frozen? ⟨w.heap.size + 1, 0, none⟩ = false := HX.out.free 0
      have f5 : wr.frozen? ⟨w.heap.size + 1, 5, none⟩ = false := HX.out.free 5
      have f6 : wr.frozen? ⟨w.heap.size + 1, 6, none⟩ = false := HX.out.free 6
      have y0 : wr.cell? ⟨g, 0, none⟩ = some (.int .i64 (zn hm me)) := HA.out.cell 0
      have y1 : wr.cell? ⟨g, 1, none⟩ = some (.int .i64 (zn ha a)) := HA.out.cell 1
      have y2 : wr.cell? ⟨g, 2, none⟩ = some (.int .i64 (zn hb b)) := HA.out.cell 2
      have y3 : wr.cell? ⟨g, 3, none⟩ = some (.int .i64 (zn hc c)) := HA.out.cell 3
      cases ht with
      | true =>
        have HZw : Hid (Blk (((wr.setCell ⟨w.heap.size + 1, 5, none⟩ (.string ⟨#[]⟩)).setCell ⟨w.heap.size + 1, 0, none⟩ (.int .i64 0)).setCell ⟨w.heap.size + 1, 6, none⟩ (.int .i64 0)) (w.heap.size + 1 + 1) #[.int .i64 0, .int .i64 0, .int .i64 0, .int .i64 0, .int .i64 0, .string ⟨#[]⟩, .int .i64 0] 23) := (((HZ.out.other 5 (.string ⟨#[]⟩) (by omega)).other 0 (.int .i64 0) (by omega)).other 6 (.int .i64 0) (by omega))
        have HBw : Hid (Below w.heap.size w (((wr.setCell ⟨w.heap.size + 1, 5, none⟩ (.string ⟨#[]⟩)).setCell ⟨w.heap.size + 1, 0, none⟩ (.int .i64 0)).setCell ⟨w.heap.size + 1, 6, none⟩ (.int .i64 0))) := (bel_set (bel_set (bel_set HB.out (w.heap.size + 1) 5 (.string ⟨#[]⟩) (by omega)) (w.heap.size + 1) 0 (.int .i64 0) (by omega)) (w.heap.size + 1) 6 (.int .i64 0) (by omega))
        clear HZ HB HX HA
        go_wp2_with fail
        refine (HW1.out _).mono ?_
        rintro e W3 ⟨rfl, hb⟩
        have HZ3 : Hid (Blk W3 (w.heap.size + 1 + 1) #[.int .i64 0, .int .i64 0, .int .i64 0, .int .i64 0, .int .i64 0, .string ⟨#[]⟩, .int .i64 0] 23) := HZw.out.next hb
        have HB3 : Hid (Below w.heap.size w W3) := bel_step HBw.out hb
        clear HZw HBw hb HW1 x0 x1 x2 x3 x4 x5 x6 f0 f5 f6 y0 y1 y2 y3 cb
        go_wp2_with (first | (refine wp_letAll rfl 23 _ _ rfl (w.heap.size + 1 + 1) rfl #[.int .i64 0, .int .i64 (zn hm me), .int .i64 (zn ha a), .int .i64 (zn hb b), .int .i64 (zn hc c), .string (zt true t), .int .i64 0] rfl (by kernel_rfl) (by simp [Value.oneCell']) #[.int .i64 0, .int .i64 0, .int .i64 0, .int .i64 0, .int .i64 0, .string ⟨#[]⟩, .int .i64 0] 23 HZ3.out rfl ?_) | fail)
        intro WF hUF
        have HBF : Hid (Below w.heap.size w WF) := hUF.bel _ _ (by omega) HB3.out
        have R0 : Hid (WF.cell? ⟨w.heap.size + 1 + 1, 0, none⟩ = some (.int .i64 0)) := hUF.blk.cell 0
        have R1 : Hid (WF.cell? ⟨w.heap.size + 1 + 1, 1, none⟩ = some (.int .i64 (zn hm me))) := hUF.blk.cell 1
        have R2 : Hid (WF.cell? ⟨w.heap.size + 1 + 1, 2, none⟩ = some (.int .i64 (zn ha a))) := hUF.blk.cell 2
        have R3 : Hid (WF.cell? ⟨w.heap.size + 1 + 1, 3, none⟩ = some (.int .i64 (zn hb b))) := hUF.blk.cell 3
        have R4 : Hid (WF.cell? ⟨w.heap.size + 1 + 1, 4, none⟩ = some (.int .i64 (zn hc c))) := hUF.blk.cell 4
        have R5 : Hid (WF.cell? ⟨w.heap.size + 1 + 1, 5, none⟩ = some (.string (zt true t))) := hUF.blk.cell 5
        have R6 : Hid (WF.cell? ⟨w.heap.size + 1 + 1, 6, none⟩ = some (.int .i64 0)) := hUF.blk.cell 6
        clear hUF
        go_wp2_with fail
        exact bodyPost_ret (v := .agg #[.int .i64 0, .int .i64 (zn hm me), .int .i64 (zn ha a), .int .i64 (zn hb b), .int .i64 (zn hc c), .string (zt true t), .int .i64 0]) (by simp [results, Tryd.results13, R0.out, R1.out, R2.out, R3.out, R4.out, R5.out, R6.out, go_sem]) rfl ⟨rfl, HBF.out⟩
      | false =>
        have HZw : Hid (Blk ((wr.setCell ⟨w.heap.size + 1, 0, none⟩ (.int .i64 0)).setCell ⟨w.heap.size + 1, 6, none⟩ (.int .i64 0)) (w.heap.size + 1 + 1) #[.int .i64 0, .int .i64 0, .int .i64 0, .int .i64 0, .int .i64 0, .string ⟨#[]⟩, .int .i64 0] 23) := ((HZ.out.other 0 (.int .i64 0) (by omega)).other 6 (.int .i64 0) (by omega))
        have HBw : Hid (Below w.heap.size w ((wr.setCell ⟨w.heap.size + 1, 0, none⟩ (.int .i64 0)).setCell ⟨w.heap.size + 1, 6, none⟩ (.int .i64 0))) := (bel_set (bel_set HB.out (w.heap.size + 1) 0 (.int .i64 0) (by omega)) (w.heap.size + 1) 6 (.int .i64 0) (by omega))
        clear HZ HB HX HA
        go_wp2_with fail
        refine (HW1.out _).mono ?_
        rintro e W3 ⟨rfl, hb⟩
        have HZ3 : Hid (Blk W3 (w.heap.size + 1 + 1) #[.int .i64 0, .int .i64 0, .int .i64 0, .int .i64 0, .int .i64 0, .string ⟨#[]⟩, .int .i64 0] 23) := HZw.out.next hb
        have HB3 : Hid (Below w.heap.size w W3) := bel_step HBw.out hb
        clear HZw HBw hb HW1 x0 x1 x2 x3 x4 x5 x6 f0 f5 f6 y0 y1 y2 y3 cb
        go_wp2_with (first | (refine wp_letAll rfl 23 _ _ rfl (w.heap.size + 1 + 1) rfl #[.int .i64 0, .int .i64 (zn hm me), .int .i64 (zn ha a), .int .i64 (zn hb b), .int .i64 (zn hc c), .string (zt false t), .int .i64 0] rfl (by kernel_rfl) (by simp [Value.oneCell']) #[.int .i64 0, .int .i64 0, .int .i64 0, .int .i64 0, .int .i64 0, .string ⟨#[]⟩, .int .i64 0] 23 HZ3.out rfl ?_) | fail)
        intro WF hUF
        have HBF : Hid (Below w.heap.size w WF) := hUF.bel _ _ (by omega) HB3.out
        have R0 : Hid (WF.cell? ⟨w.heap.size + 1 + 1, 0, none⟩ = some (.int .i64 0)) := hUF.blk.cell 0
        have R1 : Hid (WF.cell? ⟨w.heap.size + 1 + 1, 1, none⟩ = some (.int .i64 (zn hm me))) := hUF.blk.cell 1
        have R2 : Hid (WF.cell? ⟨w.heap.size + 1 + 1, 2, none⟩ = some (.int .i64 (zn ha a))) := hUF.blk.cell 2
        have R3 : Hid (WF.cell? ⟨w.heap.size + 1 + 1, 3, none⟩ = some (.int .i64 (zn hb b))) := hUF.blk.cell 3
        have R4 : Hid (WF.cell? ⟨w.heap.size + 1 + 1, 4, none⟩ = some (.int .i64 (zn hc c))) := hUF.blk.cell 4
        have R5 : Hid (WF.cell? ⟨w.heap.size + 1 + 1, 5, none⟩ = some (.string (zt false t))) := hUF.blk.cell 5
        have R6 : Hid (WF.cell? ⟨w.heap.size + 1 + 1, 6, none⟩ = some (.int .i64 0)) := hUF.blk.cell 6
        clear hUF
        go_wp2_with fail
        exact bodyPost_ret (v := .agg #[.int .i64 0, .int .i64 (zn hm me), .int .i64 (zn ha a), .int .i64 (zn hb b), .int .i64 (zn hc c), .string (zt false t), .int .i64 0]) (by simp [results, Tryd.results13, R0.out, R1.out, R2.out, R3.out, R4.out, R5.out, R6.out, go_sem]) rfl ⟨rfl, HBF.out⟩

end Go.Proofs.YtlianhienbhbgaaDoor.odr
