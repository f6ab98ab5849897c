/- The document's answer: an entry is ended, a digit is put behind the others. -/
import Derived.Test.YtkobdkkgkpgcbaaDoorKpRefP
namespace Go.Proofs.YtkobdkkgkpgcbaaDoor.keypad
open Go.Proofs.YtkobdkkgkpgcbaaDoor.check
open Go.RowKit
set_option linter.unusedSimpArgs false

set_option maxHeartbeats 2000000 in
theorem rp_35n (s : ByteArray) (n : Int) (w : World) (hn : n < 0) (hz : s.size = 0)
    (HM : Hid (∀ W, Calls Tryd.prog 22 #[.agg #[.string s, .bool false]] W fun e w' => e = .returned (.bool true) ∧ Below W.heap.size W w'))
    (HK : Hid (∀ W, Calls Tryd.prog 23 #[.int .i32 35] W fun e w' => e = .returned (.int .i64 n) ∧ w' = W)) :
    Calls Tryd.prog 10 #[.agg #[.string s, .bool false], .int .i32 35] w fun e w' => ∃ v, e = .returned (.tuple #[.agg #[.string ⟨#[]⟩, .bool false], v, .int .i64 0]) ∧ Lies w' w.heap.size v [] ∧ Below w.heap.size w w' := by
  have hz2 : ((s.size : Int) == 0) = true := by rw [hz]; rfl
  clear hz
  go_enter Tryd.func10, Tryd.ntmps10
  go_wp2_with fail
  refine (HM.out _).mono ?_
  rintro e w2 ⟨rfl, hb2⟩
  have hB2 : Below w.heap.size w w2 := bel_step (bel2 _ _ _) hb2
  have hX2 := (Blk.new1 w (.cells #[.string s, .bool false] 23) #[.string ⟨#[]⟩, .bool false] 23).next hb2
  have hY2 := ((Blk.new w #[.string s, .bool false] 23).alloc (.cells #[.string ⟨#[]⟩, .bool false] 23)).next hb2
  have y0 := hY2.cell 0
  have y1 := hY2.cell 1
  have t0 := hX2.cell 0
  have t1 := hX2.cell 1
  have c0 := hX2.free 0
  have c1 := hX2.free 1
  have HX2 : Hid (Blk w2 (w.heap.size + 1) #[.string ⟨#[]⟩, .bool false] 23) := hX2
  have HY2 : Hid (Blk w2 w.heap.size #[.string s, .bool false] 23) := hY2
  have HB2 : Hid (Below w.heap.size w w2) := hB2
  clear hX2 hY2 hB2 hb2 HM
  go_wp2_with fail
  refine (HK.out _).mono ?_
  rintro e w3 ⟨rfl, rfl⟩
  clear HK
  have HX : Hid (Blk (setP w3 (w.heap.size + 1) ⟨#[]⟩ false) (w.heap.size + 1) #[.string ⟨#[]⟩, .bool false] 23) := Blk.putP HX2.out _ _
  have HB : Hid (Below w.heap.size w (setP w3 (w.heap.size + 1) ⟨#[]⟩ false)) := bel_setP HB2.out _ _ _ (Nat.le_succ _)
  have R0 : Hid (_ = _) := HX.out.cell 0
  have R1 : Hid (_ = _) := HX.out.cell 1
  unfold setP at HB R0 R1
  clear HX HX2 HY2 HB2
  go_wp2_with fail
  exact bodyPost_ret (v := .tuple #[.agg #[.string ⟨#[]⟩, .bool false], .slice none 0 0, .int .i64 0]) (by simp [results, Tryd.results10, R0.out, R1.out, go_sem]) rfl ⟨_, rfl, Lies.zero _ _, HB.out⟩

set_option maxHeartbeats 2000000 in
theorem rp_35b (s : ByteArray) (n : Int) (w : World) (hn : n < 0) 
    (HM : Hid (∀ W, Calls Tryd.prog 22 #[.agg #[.string s, .bool true]] W fun e w' => e = .returned (.bool true) ∧ Below W.heap.size W w'))
    (HK : Hid (∀ W, Calls Tryd.prog 23 #[.int .i32 35] W fun e w' => e = .returned (.int .i64 n) ∧ w' = W)) :
    Calls Tryd.prog 10 #[.agg #[.string s, .bool true], .int .i32 35] w fun e w' => ∃ v, e = .returned (.tuple #[.agg #[.string ⟨#[]⟩, .bool false], v, .int .i64 0]) ∧ Lies w' w.heap.size v [⟨⟨#[]⟩, 3⟩] ∧ Below w.heap.size w w' := by
  go_enter Tryd.func10, Tryd.ntmps10
  go_wp2_with fail
  refine (HM.out _).mono ?_
  rintro e w2 ⟨rfl, hb2⟩
  have hB2 : Below w.heap.size w w2 := bel_step (bel2 _ _ _) hb2
  have hX2 := (Blk.new1 w (.cells #[.string s, .bool true] 23) #[.string ⟨#[]⟩, .bool false] 23).next hb2
  have hY2 := ((Blk.new w #[.string s, .bool true] 23).alloc (.cells #[.string ⟨#[]⟩, .bool false] 23)).next hb2
  have y0 := hY2.cell 0
  have y1 := hY2.cell 1
  have t0 := hX2.cell 0
  have t1 := hX2.cell 1
  have c0 := hX2.free 0
  have c1 := hX2.free 1
  have HX2 : Hid (Blk w2 (w.heap.size + 1) #[.string ⟨#[]⟩, .bool false] 23) := hX2
  have HY2 : Hid (Blk w2 w.heap.size #[.string s, .bool true] 23) := hY2
  have HB2 : Hid (Below w.heap.size w w2) := hB2
  clear hX2 hY2 hB2 hb2 HM
  go_wp2_with fail
  refine (HK.out _).mono ?_
  rintro e w3 ⟨rfl, rfl⟩
  clear HK
  have hz3 := HX2.out.lt
  have hXa := HX2.out.alloc (.cells #[.string ⟨#[]⟩, .int .i64 3] 40)
  have t0' := hXa.cell 0
  have t1' := hXa.cell 1
  have c0' := hXa.free 0
  have c1' := hXa.free 1
  have hN := Blk.new w3 #[.string ⟨#[]⟩, .int .i64 3] 40
  have HX : Hid (Blk (setP (w3.alloc (.cells #[.string ⟨#[]⟩, .int .i64 3] 40)) (w.heap.size + 1) ⟨#[]⟩ false) (w.heap.size + 1) #[.string ⟨#[]⟩, .bool false] 23) := Blk.putP hXa _ _
  have HB : Hid (Below w.heap.size w (setP (w3.alloc (.cells #[.string ⟨#[]⟩, .int .i64 3] 40)) (w.heap.size + 1) ⟨#[]⟩ false)) := (bel_setP (HB2.out.alloc HB2.out.size _) _ _ _ (Nat.le_succ _))
  have HL : Hid (Lies (setP (w3.alloc (.cells #[.string ⟨#[]⟩, .int .i64 3] 40)) (w.heap.size + 1) ⟨#[]⟩ false) w.heap.size (.slice (some ⟨w3.heap.size, 0, none⟩) 1 1) [⟨⟨#[]⟩, 3⟩]) := Lies.one (Blk.offP hN (by omega) _ _) HB2.out.size
  have R0 : Hid (_ = _) := HX.out.cell 0
  have R1 : Hid (_ = _) := HX.out.cell 1
  unfold setP at HB R0 R1 HL
  clear HX HX2 HY2 HB2 hXa hN hz3
  go_wp2_with fail
  exact bodyPost_ret (v := .tuple #[.agg #[.string ⟨#[]⟩, .bool false], .slice (some ⟨w3.heap.size, 0, none⟩) 1 1, .int .i64 0]) (by simp [results, Tryd.results10, R0.out, R1.out, go_sem]) rfl ⟨_, rfl, HL.out, HB.out⟩

set_option maxHeartbeats 2000000 in
theorem rp_35t (s : ByteArray) (n : Int) (w : World) (hn : n < 0) (hz : 0 < s.size)
    (HM : Hid (∀ W, Calls Tryd.prog 22 #[.agg #[.string s, .bool false]] W fun e w' => e = .returned (.bool true) ∧ Below W.heap.size W w'))
    (HK : Hid (∀ W, Calls Tryd.prog 23 #[.int .i32 35] W fun e w' => e = .returned (.int .i64 n) ∧ w' = W)) :
    Calls Tryd.prog 10 #[.agg #[.string s, .bool false], .int .i32 35] w fun e w' => ∃ v, e = .returned (.tuple #[.agg #[.string ⟨#[]⟩, .bool false], v, .int .i64 0]) ∧ Lies w' w.heap.size v [⟨s, 0⟩] ∧ Below w.heap.size w w' := by
  have hz2 : ((s.size : Int) == 0) = false := beq_eq_false_iff_ne.2 (by omega)
  clear hz
  go_enter Tryd.func10, Tryd.ntmps10
  go_wp2_with fail
  refine (HM.out _).mono ?_
  rintro e w2 ⟨rfl, hb2⟩
  have hB2 : Below w.heap.size w w2 := bel_step (bel2 _ _ _) hb2
  have hX2 := (Blk.new1 w (.cells #[.string s, .bool false] 23) #[.string ⟨#[]⟩, .bool false] 23).next hb2
  have hY2 := ((Blk.new w #[.string s, .bool false] 23).alloc (.cells #[.string ⟨#[]⟩, .bool false] 23)).next hb2
  have y0 := hY2.cell 0
  have y1 := hY2.cell 1
  have t0 := hX2.cell 0
  have t1 := hX2.cell 1
  have c0 := hX2.free 0
  have c1 := hX2.free 1
  have HX2 : Hid (Blk w2 (w.heap.size + 1) #[.string ⟨#[]⟩, .bool false] 23) := hX2
  have HY2 : Hid (Blk w2 w.heap.size #[.string s, .bool false] 23) := hY2
  have HB2 : Hid (Below w.heap.size w w2) := hB2
  clear hX2 hY2 hB2 hb2 HM
  go_wp2_with fail
  refine (HK.out _).mono ?_
  rintro e w3 ⟨rfl, rfl⟩
  clear HK
  have hz3 := HX2.out.lt
  have hXa := HX2.out.alloc (.cells #[.string s, .int .i64 0] 40)
  have t0' := hXa.cell 0
  have t1' := hXa.cell 1
  have c0' := hXa.free 0
  have c1' := hXa.free 1
  have hN := Blk.new w3 #[.string s, .int .i64 0] 40
  have HX : Hid (Blk (setP (w3.alloc (.cells #[.string s, .int .i64 0] 40)) (w.heap.size + 1) ⟨#[]⟩ false).drew (w.heap.size + 1) #[.string ⟨#[]⟩, .bool false] 23) := Blk.putP hXa _ _
  have HB : Hid (Below w.heap.size w (setP (w3.alloc (.cells #[.string s, .int .i64 0] 40)) (w.heap.size + 1) ⟨#[]⟩ false).drew) := bel_drew1 (bel_setP (HB2.out.alloc HB2.out.size _) _ _ _ (Nat.le_succ _))
  have HL : Hid (Lies (setP (w3.alloc (.cells #[.string s, .int .i64 0] 40)) (w.heap.size + 1) ⟨#[]⟩ false).drew w.heap.size (.slice (some ⟨w3.heap.size, 0, none⟩) 1 1) [⟨s, 0⟩]) := Lies.one (Blk.offP hN (by omega) _ _) HB2.out.size
  have R0 : Hid (_ = _) := HX.out.cell 0
  have R1 : Hid (_ = _) := HX.out.cell 1
  have hsz : (setP w3 (w.heap.size + 1) ⟨#[]⟩ false).heap.size = w3.heap.size := by simp [setP, World.setCell]
  have HX' : Hid (Blk ((setP w3 (w.heap.size + 1) ⟨#[]⟩ false).alloc (.cells #[.string s, .int .i64 0] 40)).drew (w.heap.size + 1) #[.string ⟨#[]⟩, .bool false] 23) := (Blk.putP HX2.out _ _).alloc _
  have HB' : Hid (Below w.heap.size w ((setP w3 (w.heap.size + 1) ⟨#[]⟩ false).alloc (.cells #[.string s, .int .i64 0] 40)).drew) := bel_drew1 ((bel_setP HB2.out _ _ _ (Nat.le_succ _)).alloc (by rw [hsz]; exact HB2.out.size) _)
  have HL' : Hid (Lies ((setP w3 (w.heap.size + 1) ⟨#[]⟩ false).alloc (.cells #[.string s, .int .i64 0] 40)).drew w.heap.size (.slice (some ⟨w3.heap.size, 0, none⟩) 1 1) [⟨s, 0⟩]) := Lies.one (by
    have := Blk.new (setP w3 (w.heap.size + 1) ⟨#[]⟩ false) #[.string s, .int .i64 0] 40
    rw [hsz] at this; exact this) HB2.out.size
  have R0' : Hid (_ = _) := HX'.out.cell 0
  have R1' : Hid (_ = _) := HX'.out.cell 1
  unfold setP at HB R0 R1 HL HB' R0' R1' HL'
  clear HX HX' HX2 HY2 HB2 hXa hN hz3 hsz
  go_wp2_with fail
  go_region
  · go_wp2_with fail
    exact bodyPost_ret (v := .tuple #[.agg #[.string ⟨#[]⟩, .bool false], .slice (some ⟨w3.heap.size, 0, none⟩) 1 1, .int .i64 0]) (by simp [results, Tryd.results10, R0.out, R1.out, go_sem]) rfl ⟨_, rfl, HL.out, HB.out⟩
  · go_wp2_with fail
    exact bodyPost_ret (v := .tuple #[.agg #[.string ⟨#[]⟩, .bool false], .slice (some ⟨w3.heap.size, 0, none⟩) 1 1, .int .i64 0]) (by simp [results, Tryd.results10, R0'.out, R1'.out, go_sem]) rfl ⟨_, rfl, HL'.out, HB'.out⟩

set_option maxHeartbeats 2000000 in
theorem rp_dig (s : ByteArray) (b : Bool) (r n : Int) (o : ByteArray) (w : World) (hn : 0 ≤ n) (hs : s.size < 30) (ho : o.size = 1)
    (HM : Hid (∀ W, Calls Tryd.prog 22 #[.agg #[.string s, .bool b]] W fun e w' => e = .returned (.bool true) ∧ Below W.heap.size W w'))
    (HK : Hid (∀ W, Calls Tryd.prog 23 #[.int .i32 r] W fun e w' => e = .returned (.int .i64 n) ∧ w' = W))
    (HD : Hid (∀ W, Calls Tryd.prog 24 #[.int .i64 n] W fun e w' => e = .returned (.string o) ∧ Below W.heap.size W w')) :
    Calls Tryd.prog 10 #[.agg #[.string s, .bool b], .int .i32 r] w fun e w' => ∃ v, e = .returned (.tuple #[.agg #[.string (s ++ o), .bool b], v, .int .i64 0]) ∧ Lies w' w.heap.size v [] ∧ Below w.heap.size w w' := by
  have hq : ¬ 9223372036854775807 < s.size + o.size := by omega
  have hs2 : (s.size : Int) < 30 := by omega
  clear hs ho
  go_enter Tryd.func10, Tryd.ntmps10
  go_wp2_with fail
  refine (HM.out _).mono ?_
  rintro e w2 ⟨rfl, hb2⟩
  have hB2 : Below w.heap.size w w2 := bel_step (bel2 _ _ _) hb2
  have hX2 := (Blk.new1 w (.cells #[.string s, .bool b] 23) #[.string ⟨#[]⟩, .bool false] 23).next hb2
  have hY2 := ((Blk.new w #[.string s, .bool b] 23).alloc (.cells #[.string ⟨#[]⟩, .bool false] 23)).next hb2
  have y0 := hY2.cell 0
  have y1 := hY2.cell 1
  have HX2 : Hid (Blk w2 (w.heap.size + 1) #[.string ⟨#[]⟩, .bool false] 23) := hX2
  have HY2 : Hid (Blk w2 w.heap.size #[.string s, .bool b] 23) := hY2
  have HB2 : Hid (Below w.heap.size w w2) := hB2
  clear hX2 hY2 hB2 hb2 HM
  go_wp2_with fail
  refine (HK.out _).mono ?_
  rintro e w3 ⟨rfl, rfl⟩
  clear HK
  have KS : Hid (w3.drew.cell? ⟨w.heap.size, 0, none⟩ = some (.string s) ∧ w3.drew.cell? ⟨w.heap.size, 1, none⟩ = some (.bool b)) := ⟨y0, y1⟩
  go_wp2_with fail
  clear y0 y1
  go_region_held (fun v => v.cell? ⟨w.heap.size, 0, none⟩ = some (.string s) ∧ v.cell? ⟨w.heap.size, 1, none⟩ = some (.bool b))
    (first | exact K2.out | exact K1.out | exact KS.out)
    (first
      | (go_at_call 24; refine (HD.out _).mono ?_; rintro e w4 ⟨rfl, hb4⟩
         have hX4 : Blk w4 (w.heap.size + 1) #[.string ⟨#[]⟩, .bool false] 23 := Blk.next (w := w3.drew) HX2.out hb4
         have hY4 : Blk w4 w.heap.size #[.string s, .bool b] 23 := Blk.next (w := w3.drew) HY2.out hb4
         have hB4 : Below w.heap.size w w4 := bel_step (w := w3.drew) (bel_drew1 HB2.out) hb4
         have K1 : Hid (w4.cell? ⟨w.heap.size, 0, none⟩ = some (.string s) ∧ w4.cell? ⟨w.heap.size, 1, none⟩ = some (.bool b)) := ⟨hY4.cell 0, hY4.cell 1⟩
         have t0 := hX4.cell 0
         have t1 := hX4.cell 1
         have c0 := hX4.free 0
         have c1 := hX4.free 1
         have hY5 : Blk (setP w4 (w.heap.size + 1) (s ++ o) b) w.heap.size #[.string s, .bool b] 23 := Blk.offP hY4 (by omega) _ _
         have K2 : Hid ((setP w4 (w.heap.size + 1) (s ++ o) b).cell? ⟨w.heap.size, 0, none⟩ = some (.string s) ∧ (setP w4 (w.heap.size + 1) (s ++ o) b).cell? ⟨w.heap.size, 1, none⟩ = some (.bool b)) := ⟨hY5.cell 0, hY5.cell 1⟩
         have HX : Hid (Blk (setP w4 (w.heap.size + 1) (s ++ o) b) (w.heap.size + 1) #[.string (s ++ o), .bool b] 23) := Blk.putP hX4 _ _
         have HB : Hid (Below w.heap.size w (setP w4 (w.heap.size + 1) (s ++ o) b)) := bel_setP hB4 _ _ _ (Nat.le_succ _)
         have R0 : Hid (_ = _) := HX.out.cell 0
         have R1 : Hid (_ = _) := HX.out.cell 1
         unfold setP at HB R0 R1 K2
         clear HX hX4 hY4 hB4 hb4 hY5))
  all_goals
    go_wp2_with fail
    exact bodyPost_ret (v := .tuple #[.agg #[.string (s ++ o), .bool b], .slice none 0 0, .int .i64 0]) (by simp [results, Tryd.results10, R0.out, R1.out, go_sem]) rfl ⟨_, rfl, Lies.zero _ _, HB.out⟩

end Go.Proofs.YtkobdkkgkpgcbaaDoor.keypad
