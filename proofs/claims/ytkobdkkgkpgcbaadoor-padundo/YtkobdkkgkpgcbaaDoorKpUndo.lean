/- What is taken back at once: the walk. -/
import Derived.Test.YtkobdkkgkpgcbaaDoorKpScr
import Derived.Test.YtkobdkkgkpgcbaaDoorCkNum
namespace Go.Proofs.YtkobdkkgkpgcbaaDoor.undo
open Go.RowKit
set_option linter.unusedSimpArgs false
set_option maxRecDepth 100000

set_option maxHeartbeats 4000000 in
theorem walk (a0 : Option Addr) (len0 cap0 : Nat) (zs : List Int) (a1 a2 : Bool) (a3 a4 : Int) (w : World) (hrow : check.RowB w a0 len0 zs) (hlen : len0 ≤ maxLen) (w3 : (Lit.int .i64 a3).wf = true) (w4 : (Lit.int .i64 a4).wf = true) (ht : keypad.NTab w) :
    Calls Tryd.prog 8 #[.slice a0 len0 cap0, .bool a1, .bool a2, .int .i64 a3, .int .i64 a4] w fun e w' => e = .returned (.bool true) ∧ Below w.heap.size w w' := by
  have HT : Hid (∀ W, Below w.heap.size w W → keypad.NTab W) := fun W hW => ht.below hW
  clear ht
  have HN : Hid (Calls Tryd.prog 16 #[.slice a0 len0 cap0, .int .i64 29] w fun e w' => check.NumPost w 29 e w') := check.numerals_any a0 len0 cap0 zs 29 w hrow hlen (by decide) (by decide)
  have HSc : Hid (∀ W, Calls Tryd.prog 17 #[.int .i64 a4] W fun e w' => e = .returned (.int .i32 (keypad.nt (keypad.scr a4))) ∧ w' = W) := fun W => keypad.script_any a4 W w4
  have HPi : Hid (∀ W, Calls Tryd.prog 18 #[.int .i64 a3, .int .i64 10] W fun e w' => e = .returned (.int .i64 (((check.pick a3 10).toNat : Nat) : Int)) ∧ w' = W) := fun W => check.picked_nat a3 10 W w3 (by decide) (by decide)
  have hk := check.pick_toNat a3 10 (by decide)
  have hi := keypad.scr_lt a4
  have hbd := keypad.nt_bd _ hi
  have HKD : Hid (keypad.keyD (keypad.nt (keypad.scr a4) + (((check.pick a3 10).toNat : Nat) : Int)) = (((check.pick a3 10).toNat : Nat) : Int)) := keypad.keyD_nt _ _ hi hk
  clear hrow hlen w3 w4 hi
  generalize keypad.nt (keypad.scr a4) = z at *
  have hkz : (check.pick a3 10).toNat < 10 := hk
  clear hk
  generalize (check.pick a3 10).toNat = k at *
  obtain ⟨hz1, hz2⟩ := hbd
  have hwr : IntKind.i32.wrap (k : Int) = (k : Int) := by rw [IntKind.wrap_i32]; omega
  have hws : IntKind.i32.wrap (z + (k : Int)) = z + (k : Int) := by rw [IntKind.wrap_i32]; omega
  go_enter Tryd.func8, Tryd.ntmps8
  go_wp2_with fail
  refine HN.out.mono ?_
  rintro e w1 ⟨s, rfl, h1, h29, hD, hb1⟩
  clear HN h1
  cases a1
  · have HP1 : Hid (∀ W, keypad.NTab W → Calls Tryd.prog 9 #[.agg #[.string s, .bool a2], .int .i32 (z + (k : Int))] W fun e w' => ∃ a c, e = .returned (.tuple #[.agg #[.string (s ++ keypad.one (k : Int)), .bool a2], .slice a 0 c, .int .i64 0]) ∧ Below W.heap.size W w') := fun W hW => keypad.press_dig s a2 _ k W HKD.out h29 hD hW
    have HP2 : Hid (∀ W, keypad.NTab W → Calls Tryd.prog 9 #[.agg #[.string (s ++ keypad.one (k : Int)), .bool a2], .int .i32 42] W fun e w' => ∃ a c, e = .returned (.tuple #[.agg #[.string s, .bool a2], .slice a 0 c, .int .i64 0]) ∧ Below W.heap.size W w') := fun W hW => keypad.press_back s a2 k W hkz h29 hD hW
    have hq1 : ∀ W, (Op.equalIn 10000 23 (.agg #[.string (s ++ keypad.one (k : Int)), .bool a2]) (.agg #[.string s, .bool a2])).run Tryd.prog W = .ok false W := fun W => by rw [keypad.eqP, keypad.ne_grown _ k hkz]; rfl
    have hq2 : ∀ W, (Op.equalIn 10000 23 (.agg #[.string s, .bool a2]) (.agg #[.string s, .bool a2])).run Tryd.prog W = .ok true W := fun W => by rw [keypad.eqP]; simp
    have HX1 : Hid (Blk (w1.alloc (.cells #[.string s, .bool a2] 23)) w1.heap.size #[.string s, .bool a2] 23) := Blk.new _ _ _
    have HB1 : Hid (Below w.heap.size w (w1.alloc (.cells #[.string s, .bool a2] 23))) := hb1.alloc hb1.size _
    generalize s ++ keypad.one (k : Int) = D2 at *
    clear hD h29 hb1 HKD
    go_wp2_with fail
    generalize w1.alloc (.cells #[.string s, .bool a2] 23) = W1 at *
    generalize w1.heap.size = G at *
    have hX0 := HX1.out.alloc (.cells #[.string ⟨#[]⟩, .bool false] 23)
    have HXA : Hid (Blk (W1.alloc (.cells #[.string ⟨#[]⟩, .bool false] 23)).drew G #[.string s, .bool a2] 23) := hX0
    have KS : Hid (W1.drew.cell? ⟨G, 0, none⟩ = some (.string s) ∧ W1.drew.cell? ⟨G, 1, none⟩ = some (.bool a2)) := ⟨HX1.out.cell 0, HX1.out.cell 1⟩
    have KB : Hid ((W1.alloc (.cells #[.string ⟨#[]⟩, .bool false] 23)).drew.cell? ⟨G, 0, none⟩ = some (.string s) ∧ (W1.alloc (.cells #[.string ⟨#[]⟩, .bool false] 23)).drew.cell? ⟨G, 1, none⟩ = some (.bool a2)) := ⟨hX0.cell 0, hX0.cell 1⟩
    have HNB : Hid (Blk (W1.alloc (.cells #[.string ⟨#[]⟩, .bool false] 23)).drew W1.heap.size #[.string ⟨#[]⟩, .bool false] 23) := Blk.new _ _ _
    have HBA : Hid (Below w.heap.size w W1.drew) := keypad.bel_drew1 HB1.out
    have HBB : Hid (Below w.heap.size w (W1.alloc (.cells #[.string ⟨#[]⟩, .bool false] 23)).drew) := keypad.bel_drew1 (HB1.out.alloc HB1.out.size _)
    have HTW : Hid (keypad.NTab W1.drew) := HT.out _ HBA.out
    have HTB : Hid (keypad.NTab (W1.alloc (.cells #[.string ⟨#[]⟩, .bool false] 23)).drew) := HT.out _ HBB.out
    have HGW : Hid (w.heap.size ≤ W1.heap.size ∧ G < W1.heap.size) := ⟨HB1.out.size, HX1.out.lt⟩
    clear hX0
    go_region_held (fun v => v.cell? ⟨G, 0, none⟩ = some (.string s) ∧ v.cell? ⟨G, 1, none⟩ = some (.bool a2))
      (first | with_reducible exact KS.out | with_reducible exact KB.out | with_reducible exact K1.out | with_reducible exact K0.out | with_reducible exact K2.out | with_reducible exact K3.out)
      (first
        | (go_at_call 17; refine (HSc.out _).mono ?_; rintro e wx ⟨rfl, rfl⟩)
        | (go_at_call 18; refine (HPi.out _).mono ?_; rintro e wx ⟨rfl, rfl⟩)
        | (go_at_call 9; with_reducible refine (HP1.out _ HTW.out).mono ?_; rintro e w2 ⟨a', c', rfl, hb2⟩
           have hX2 : Blk w2 G #[.string s, .bool a2] 23 := Blk.next (w := W1.drew) HX1.out hb2
           have hB2 : Below w.heap.size w w2 := bel_step HBA.out hb2
           have hX3 := hX2.alloc (.cells #[.string D2, .bool a2] 23)
           have hX0 := hX2.alloc (.cells #[.string ⟨#[]⟩, .bool false] 23)
           have K1 : Hid (w2.cell? ⟨G, 0, none⟩ = some (.string s) ∧ w2.cell? ⟨G, 1, none⟩ = some (.bool a2)) := ⟨hX2.cell 0, hX2.cell 1⟩
           have K0 : Hid ((w2.alloc (.cells #[.string ⟨#[]⟩, .bool false] 23)).cell? ⟨G, 0, none⟩ = some (.string s) ∧ (w2.alloc (.cells #[.string ⟨#[]⟩, .bool false] 23)).cell? ⟨G, 1, none⟩ = some (.bool a2)) := ⟨hX0.cell 0, hX0.cell 1⟩
           have K2 : Hid ((w2.alloc (.cells #[.string D2, .bool a2] 23)).cell? ⟨G, 0, none⟩ = some (.string s) ∧ (w2.alloc (.cells #[.string D2, .bool a2] 23)).cell? ⟨G, 1, none⟩ = some (.bool a2)) := ⟨hX3.cell 0, hX3.cell 1⟩
           have HF : Hid (Blk (w2.alloc (.cells #[.string D2, .bool a2] 23)) G #[.string s, .bool a2] 23 ∧ Blk (w2.alloc (.cells #[.string D2, .bool a2] 23)) w2.heap.size #[.string D2, .bool a2] 23 ∧ Below w.heap.size w (w2.alloc (.cells #[.string D2, .bool a2] 23))) := ⟨hX3, Blk.new _ _ _, hB2.alloc hB2.size _⟩
           clear hX2 hB2 hX3 hX0 hb2)
        | (go_at_call 9; with_reducible refine (HP1.out _ HTB.out).mono ?_; rintro e w2 ⟨a', c', rfl, hb2⟩
           have hX2 : Blk w2 G #[.string s, .bool a2] 23 := HXA.out.next hb2
           have hN2 : Blk w2 W1.heap.size #[.string ⟨#[]⟩, .bool false] 23 := HNB.out.next hb2
           have hB2 : Below w.heap.size w w2 := bel_step HBB.out hb2
           have K1 : Hid (w2.cell? ⟨G, 0, none⟩ = some (.string s) ∧ w2.cell? ⟨G, 1, none⟩ = some (.bool a2)) := ⟨hX2.cell 0, hX2.cell 1⟩
           have hX3 : Blk (keypad.setP w2 W1.heap.size D2 a2) G #[.string s, .bool a2] 23 := keypad.Blk.offP hX2 (by have := HGW.out; omega) _ _
           have K3 : Hid ((keypad.setP w2 W1.heap.size D2 a2).cell? ⟨G, 0, none⟩ = some (.string s) ∧ (keypad.setP w2 W1.heap.size D2 a2).cell? ⟨G, 1, none⟩ = some (.bool a2)) := ⟨hX3.cell 0, hX3.cell 1⟩
           have t0 := hN2.cell 0
           have t1 := hN2.cell 1
           have f0 := hN2.free 0
           have f1 := hN2.free 1
           have HF : Hid (Blk (keypad.setP w2 W1.heap.size D2 a2) G #[.string s, .bool a2] 23 ∧ Blk (keypad.setP w2 W1.heap.size D2 a2) W1.heap.size #[.string D2, .bool a2] 23 ∧ Below w.heap.size w (keypad.setP w2 W1.heap.size D2 a2)) := ⟨hX3, keypad.Blk.putP hN2 _ _, keypad.bel_setP hB2 _ _ _ HGW.out.1⟩
           unfold keypad.setP at K3 HF
           clear hX2 hN2 hB2 hX3 hb2))
    all_goals
      have y0 := HF.out.1.cell 0
      have y1 := HF.out.1.cell 1
      have q0 := HF.out.2.1.cell 0
      have q1 := HF.out.2.1.cell 1
      clear HTW HTB HNB HXA HX1 HBA HBB KS KB
      go_wp2_with fail
      refine (HP2.out _ (HT.out _ HF.out.2.2)).mono ?_
      rintro e w5 ⟨a5, c5, rfl, hb5⟩
      have hG5 := (HF.out.1.next hb5).alloc (.cells #[.string s, .bool a2] 23)
      have hQ5 := (HF.out.2.1.next hb5).alloc (.cells #[.string s, .bool a2] 23)
      have hN5 := Blk.new w5 #[.string s, .bool a2] 23
      have hB5 := bel_step HF.out.2.2 hb5
      have HB5 : Hid (Below w.heap.size w (w5.alloc (.cells #[.string s, .bool a2] 23))) := hB5.alloc hB5.size _
      have z0 := hG5.cell 0
      have z1 := hG5.cell 1
      have z2 := hQ5.cell 0
      have z3 := hQ5.cell 1
      have z4 := hN5.cell 0
      have z5 := hN5.cell 1
      clear hG5 hQ5 hN5 hB5 hb5 HF y0 y1 q0 q1
      go_wp2_with fail
      go_ret
      exact ⟨rfl, HB5.out⟩
  · have HP1 : Hid (∀ W, keypad.NTab W → Calls Tryd.prog 9 #[.agg #[.string (⟨#[]⟩ : ByteArray), .bool a2], .int .i32 (z + (k : Int))] W fun e w' => ∃ a c, e = .returned (.tuple #[.agg #[.string ((⟨#[]⟩ : ByteArray) ++ keypad.one (k : Int)), .bool a2], .slice a 0 c, .int .i64 0]) ∧ Below W.heap.size W w') := fun W hW => keypad.press_dig (⟨#[]⟩ : ByteArray) a2 _ k W HKD.out (by decide) (by decide) hW
    have HP2 : Hid (∀ W, keypad.NTab W → Calls Tryd.prog 9 #[.agg #[.string ((⟨#[]⟩ : ByteArray) ++ keypad.one (k : Int)), .bool a2], .int .i32 42] W fun e w' => ∃ a c, e = .returned (.tuple #[.agg #[.string (⟨#[]⟩ : ByteArray), .bool a2], .slice a 0 c, .int .i64 0]) ∧ Below W.heap.size W w') := fun W hW => keypad.press_back (⟨#[]⟩ : ByteArray) a2 k W hkz (by decide) (by decide) hW
    have hq1 : ∀ W, (Op.equalIn 10000 23 (.agg #[.string ((⟨#[]⟩ : ByteArray) ++ keypad.one (k : Int)), .bool a2]) (.agg #[.string (⟨#[]⟩ : ByteArray), .bool a2])).run Tryd.prog W = .ok false W := fun W => by rw [keypad.eqP, keypad.ne_grown _ k hkz]; rfl
    have hq2 : ∀ W, (Op.equalIn 10000 23 (.agg #[.string (⟨#[]⟩ : ByteArray), .bool a2]) (.agg #[.string (⟨#[]⟩ : ByteArray), .bool a2])).run Tryd.prog W = .ok true W := fun W => by rw [keypad.eqP]; simp
    have HX1 : Hid (Blk (w1.alloc (.cells #[.string (⟨#[]⟩ : ByteArray), .bool a2] 23)) w1.heap.size #[.string (⟨#[]⟩ : ByteArray), .bool a2] 23) := Blk.new _ _ _
    have HB1 : Hid (Below w.heap.size w (w1.alloc (.cells #[.string (⟨#[]⟩ : ByteArray), .bool a2] 23))) := hb1.alloc hb1.size _
    generalize (⟨#[]⟩ : ByteArray) ++ keypad.one (k : Int) = D2 at *
    clear hD h29 hb1 HKD
    go_wp2_with fail
    generalize w1.alloc (.cells #[.string ⟨#[]⟩, .bool a2] 23) = W1 at *
    generalize w1.heap.size = G at *
    have hX0 := HX1.out.alloc (.cells #[.string ⟨#[]⟩, .bool false] 23)
    have HXA : Hid (Blk (W1.alloc (.cells #[.string ⟨#[]⟩, .bool false] 23)).drew G #[.string ⟨#[]⟩, .bool a2] 23) := hX0
    have KS : Hid (W1.drew.cell? ⟨G, 0, none⟩ = some (.string ⟨#[]⟩) ∧ W1.drew.cell? ⟨G, 1, none⟩ = some (.bool a2)) := ⟨HX1.out.cell 0, HX1.out.cell 1⟩
    have KB : Hid ((W1.alloc (.cells #[.string ⟨#[]⟩, .bool false] 23)).drew.cell? ⟨G, 0, none⟩ = some (.string ⟨#[]⟩) ∧ (W1.alloc (.cells #[.string ⟨#[]⟩, .bool false] 23)).drew.cell? ⟨G, 1, none⟩ = some (.bool a2)) := ⟨hX0.cell 0, hX0.cell 1⟩
    have HNB : Hid (Blk (W1.alloc (.cells #[.string ⟨#[]⟩, .bool false] 23)).drew W1.heap.size #[.string ⟨#[]⟩, .bool false] 23) := Blk.new _ _ _
    have HBA : Hid (Below w.heap.size w W1.drew) := keypad.bel_drew1 HB1.out
    have HBB : Hid (Below w.heap.size w (W1.alloc (.cells #[.string ⟨#[]⟩, .bool false] 23)).drew) := keypad.bel_drew1 (HB1.out.alloc HB1.out.size _)
    have HTW : Hid (keypad.NTab W1.drew) := HT.out _ HBA.out
    have HTB : Hid (keypad.NTab (W1.alloc (.cells #[.string ⟨#[]⟩, .bool false] 23)).drew) := HT.out _ HBB.out
    have HGW : Hid (w.heap.size ≤ W1.heap.size ∧ G < W1.heap.size) := ⟨HB1.out.size, HX1.out.lt⟩
    clear hX0
    go_region_held (fun v => v.cell? ⟨G, 0, none⟩ = some (.string ⟨#[]⟩) ∧ v.cell? ⟨G, 1, none⟩ = some (.bool a2))
      (first | with_reducible exact KS.out | with_reducible exact KB.out | with_reducible exact K1.out | with_reducible exact K0.out | with_reducible exact K2.out | with_reducible exact K3.out)
      (first
        | (go_at_call 17; refine (HSc.out _).mono ?_; rintro e wx ⟨rfl, rfl⟩)
        | (go_at_call 18; refine (HPi.out _).mono ?_; rintro e wx ⟨rfl, rfl⟩)
        | (go_at_call 9; with_reducible refine (HP1.out _ HTW.out).mono ?_; rintro e w2 ⟨a', c', rfl, hb2⟩
           have hX2 : Blk w2 G #[.string ⟨#[]⟩, .bool a2] 23 := Blk.next (w := W1.drew) HX1.out hb2
           have hB2 : Below w.heap.size w w2 := bel_step HBA.out hb2
           have hX3 := hX2.alloc (.cells #[.string D2, .bool a2] 23)
           have hX0 := hX2.alloc (.cells #[.string ⟨#[]⟩, .bool false] 23)
           have K1 : Hid (w2.cell? ⟨G, 0, none⟩ = some (.string ⟨#[]⟩) ∧ w2.cell? ⟨G, 1, none⟩ = some (.bool a2)) := ⟨hX2.cell 0, hX2.cell 1⟩
           have K0 : Hid ((w2.alloc (.cells #[.string ⟨#[]⟩, .bool false] 23)).cell? ⟨G, 0, none⟩ = some (.string ⟨#[]⟩) ∧ (w2.alloc (.cells #[.string ⟨#[]⟩, .bool false] 23)).cell? ⟨G, 1, none⟩ = some (.bool a2)) := ⟨hX0.cell 0, hX0.cell 1⟩
           have K2 : Hid ((w2.alloc (.cells #[.string D2, .bool a2] 23)).cell? ⟨G, 0, none⟩ = some (.string ⟨#[]⟩) ∧ (w2.alloc (.cells #[.string D2, .bool a2] 23)).cell? ⟨G, 1, none⟩ = some (.bool a2)) := ⟨hX3.cell 0, hX3.cell 1⟩
           have HF : Hid (Blk (w2.alloc (.cells #[.string D2, .bool a2] 23)) G #[.string ⟨#[]⟩, .bool a2] 23 ∧ Blk (w2.alloc (.cells #[.string D2, .bool a2] 23)) w2.heap.size #[.string D2, .bool a2] 23 ∧ Below w.heap.size w (w2.alloc (.cells #[.string D2, .bool a2] 23))) := ⟨hX3, Blk.new _ _ _, hB2.alloc hB2.size _⟩
           clear hX2 hB2 hX3 hX0 hb2)
        | (go_at_call 9; with_reducible refine (HP1.out _ HTB.out).mono ?_; rintro e w2 ⟨a', c', rfl, hb2⟩
           have hX2 : Blk w2 G #[.string ⟨#[]⟩, .bool a2] 23 := HXA.out.next hb2
           have hN2 : Blk w2 W1.heap.size #[.string ⟨#[]⟩, .bool false] 23 := HNB.out.next hb2
           have hB2 : Below w.heap.size w w2 := bel_step HBB.out hb2
           have K1 : Hid (w2.cell? ⟨G, 0, none⟩ = some (.string ⟨#[]⟩) ∧ w2.cell? ⟨G, 1, none⟩ = some (.bool a2)) := ⟨hX2.cell 0, hX2.cell 1⟩
           have hX3 : Blk (keypad.setP w2 W1.heap.size D2 a2) G #[.string ⟨#[]⟩, .bool a2] 23 := keypad.Blk.offP hX2 (by have := HGW.out; omega) _ _
           have K3 : Hid ((keypad.setP w2 W1.heap.size D2 a2).cell? ⟨G, 0, none⟩ = some (.string ⟨#[]⟩) ∧ (keypad.setP w2 W1.heap.size D2 a2).cell? ⟨G, 1, none⟩ = some (.bool a2)) := ⟨hX3.cell 0, hX3.cell 1⟩
           have t0 := hN2.cell 0
           have t1 := hN2.cell 1
           have f0 := hN2.free 0
           have f1 := hN2.free 1
           have HF : Hid (Blk (keypad.setP w2 W1.heap.size D2 a2) G #[.string ⟨#[]⟩, .bool a2] 23 ∧ Blk (keypad.setP w2 W1.heap.size D2 a2) W1.heap.size #[.string D2, .bool a2] 23 ∧ Below w.heap.size w (keypad.setP w2 W1.heap.size D2 a2)) := ⟨hX3, keypad.Blk.putP hN2 _ _, keypad.bel_setP hB2 _ _ _ HGW.out.1⟩
           unfold keypad.setP at K3 HF
           clear hX2 hN2 hB2 hX3 hb2))
    all_goals
      have y0 := HF.out.1.cell 0
      have y1 := HF.out.1.cell 1
      have q0 := HF.out.2.1.cell 0
      have q1 := HF.out.2.1.cell 1
      clear HTW HTB HNB HXA HX1 HBA HBB KS KB
      go_wp2_with fail
      refine (HP2.out _ (HT.out _ HF.out.2.2)).mono ?_
      rintro e w5 ⟨a5, c5, rfl, hb5⟩
      have hG5 := (HF.out.1.next hb5).alloc (.cells #[.string ⟨#[]⟩, .bool a2] 23)
      have hQ5 := (HF.out.2.1.next hb5).alloc (.cells #[.string ⟨#[]⟩, .bool a2] 23)
      have hN5 := Blk.new w5 #[.string ⟨#[]⟩, .bool a2] 23
      have hB5 := bel_step HF.out.2.2 hb5
      have HB5 : Hid (Below w.heap.size w (w5.alloc (.cells #[.string ⟨#[]⟩, .bool a2] 23))) := hB5.alloc hB5.size _
      have z0 := hG5.cell 0
      have z1 := hG5.cell 1
      have z2 := hQ5.cell 0
      have z3 := hQ5.cell 1
      have z4 := hN5.cell 0
      have z5 := hN5.cell 1
      clear hG5 hQ5 hN5 hB5 hb5 HF y0 y1 q0 q1
      go_wp2_with fail
      go_ret
      exact ⟨rfl, HB5.out⟩

end Go.Proofs.YtkobdkkgkpgcbaaDoor.undo
