/- The document's answer: a key is pressed. -/
import Derived.Test.YtkobdkkgkpgcbaaDoorKpRefD
import Derived.Test.YtkobdkkgkpgcbaaDoorKpKeys
import Derived.RegionTactic
import Derived.ChangeAlike
import Derived.Deep.RegionHeld
namespace Go.Proofs.YtkobdkkgkpgcbaaDoor.keypad
open Go.Proofs.YtkobdkkgkpgcbaaDoor.check
open Go.RowKit
set_option linter.unusedSimpArgs false

set_option maxHeartbeats 2000000 in
theorem rpress_no (p : Pad) (r : Int) (w : World) (h : ¬ p.ok) :
    Calls Tryd.prog 10 #[p.v, .int .i32 r] w fun e w' => BadPost w e w' := by
  have HM : Hid (∀ W, Calls Tryd.prog 22 #[p.v] W fun e w' => e = .returned (.bool false) ∧ Below W.heap.size W w') := fun W => by
    have e : okB p = false := by cases hh : okB p with
      | false => rfl
      | true => exact absurd (okB_ok.1 hh) h
    have := padMay_any p W
    rwa [e] at this
  clear h
  obtain ⟨s, b⟩ := p
  unfold Pad.v at *
  go_enter Tryd.func10, Tryd.ntmps10
  go_wp2_with fail
  refine (HM.out _).mono ?_
  rintro e w2 ⟨rfl, hb2⟩
  have hB : Below w.heap.size w w2 := bel_step (bel2 _ _ _) hb2
  have hX := (Blk.new1 w (.cells #[.string s, .bool b] 23) #[.string ⟨#[]⟩, .bool false] 23).next hb2
  have t0 := hX.cell 0
  have t1 := hX.cell 1
  have u0 := hX.free 0
  have u1 := hX.free 1
  have HX : Hid (Blk (setP w2 (w.heap.size + 1) ⟨#[]⟩ false) (w.heap.size + 1) #[.string ⟨#[]⟩, .bool false] 23) := Blk.putP hX _ _
  have HB : Hid (Below w.heap.size w (setP w2 (w.heap.size + 1) ⟨#[]⟩ false)) := bel_setP hB _ _ _ (Nat.le_succ _)
  clear hX hB hb2 HM
  have R0 : Hid (_ = _) := HX.out.cell 0
  have R1 : Hid (_ = _) := HX.out.cell 1
  unfold setP at HB R0 R1
  clear HX
  go_wp2_with fail
  exact bodyPost_ret (v := .tuple #[.agg #[.string ⟨#[]⟩, .bool false], .slice none 0 0, .int .i64 5]) (by simp [results, Tryd.results10, R0.out, R1.out, go_sem]) rfl ⟨rfl, HB.out⟩

set_option maxHeartbeats 2000000 in
theorem rp_32 (s : ByteArray) (b : Bool) (n : Int) (w : World) (hn : n < 0)
    (HM : Hid (∀ W, Calls Tryd.prog 22 #[.agg #[.string s, .bool b]] W fun e w' => e = .returned (.bool true) ∧ Below W.heap.size W w'))
    (HK : Hid (∀ W, Calls Tryd.prog 23 #[.int .i32 32] W fun e w' => e = .returned (.int .i64 n) ∧ w' = W)) :
    Calls Tryd.prog 10 #[.agg #[.string s, .bool b], .int .i32 32] w fun e w' => ∃ v, e = .returned (.tuple #[.agg #[.string s, .bool b], v, .int .i64 0]) ∧ Lies w' w.heap.size v [] ∧ Below w.heap.size w w' := by
  go_enter Tryd.func10, Tryd.ntmps10
  go_wp2_with fail
  refine (HM.out _).mono ?_
  rintro e w2 ⟨rfl, hb2⟩
  have hB2 : Below w.heap.size w w2 := bel_step (bel2 _ _ _) hb2
  have hX2 := (Blk.new1 w (.cells #[.string s, .bool b] 23) #[.string ⟨#[]⟩, .bool false] 23).next hb2
  have hY2 := ((Blk.new w #[.string s, .bool b] 23).alloc (.cells #[.string ⟨#[]⟩, .bool false] 23)).next hb2
  have y0 := hY2.cell 0
  have y1 := hY2.cell 1
  have t0 := hX2.cell 0
  have t1 := hX2.cell 1
  have c0 := hX2.free 0
  have c1 := hX2.free 1
  have HX2 : Hid (Blk w2 (w.heap.size + 1) #[.string ⟨#[]⟩, .bool false] 23) := hX2
  have HY2 : Hid (Blk w2 w.heap.size #[.string s, .bool b] 23) := hY2
  have HB2 : Hid (Below w.heap.size w w2) := hB2
  clear hX2 hY2 hB2 hb2 HM
  go_wp2_with fail
  refine (HK.out _).mono ?_
  rintro e w3 ⟨rfl, rfl⟩
  clear HK
  have HX : Hid (Blk (setP w3 (w.heap.size + 1) s b) (w.heap.size + 1) #[.string s, .bool b] 23) := Blk.putP HX2.out _ _
  have HB : Hid (Below w.heap.size w (setP w3 (w.heap.size + 1) s b)) := bel_setP HB2.out _ _ _ (Nat.le_succ _)
  have R0 : Hid (_ = _) := HX.out.cell 0
  have R1 : Hid (_ = _) := HX.out.cell 1
  unfold setP at HB R0 R1
  clear HX HX2 HY2 HB2
  go_wp2_with fail
  exact bodyPost_ret (v := .tuple #[.agg #[.string s, .bool b], .slice none 0 0, .int .i64 0]) (by simp [results, Tryd.results10, R0.out, R1.out, go_sem]) rfl ⟨_, rfl, Lies.zero _ _, HB.out⟩

set_option maxHeartbeats 2000000 in
theorem rp_45 (s : ByteArray) (b : Bool) (n : Int) (w : World) (hn : n < 0)
    (HM : Hid (∀ W, Calls Tryd.prog 22 #[.agg #[.string s, .bool b]] W fun e w' => e = .returned (.bool true) ∧ Below W.heap.size W w'))
    (HK : Hid (∀ W, Calls Tryd.prog 23 #[.int .i32 45] W fun e w' => e = .returned (.int .i64 n) ∧ w' = W)) :
    Calls Tryd.prog 10 #[.agg #[.string s, .bool b], .int .i32 45] w fun e w' => ∃ v, e = .returned (.tuple #[.agg #[.string s, .bool b], v, .int .i64 0]) ∧ Lies w' w.heap.size v [] ∧ Below w.heap.size w w' := by
  go_enter Tryd.func10, Tryd.ntmps10
  go_wp2_with fail
  refine (HM.out _).mono ?_
  rintro e w2 ⟨rfl, hb2⟩
  have hB2 : Below w.heap.size w w2 := bel_step (bel2 _ _ _) hb2
  have hX2 := (Blk.new1 w (.cells #[.string s, .bool b] 23) #[.string ⟨#[]⟩, .bool false] 23).next hb2
  have hY2 := ((Blk.new w #[.string s, .bool b] 23).alloc (.cells #[.string ⟨#[]⟩, .bool false] 23)).next hb2
  have y0 := hY2.cell 0
  have y1 := hY2.cell 1
  have t0 := hX2.cell 0
  have t1 := hX2.cell 1
  have c0 := hX2.free 0
  have c1 := hX2.free 1
  have HX2 : Hid (Blk w2 (w.heap.size + 1) #[.string ⟨#[]⟩, .bool false] 23) := hX2
  have HY2 : Hid (Blk w2 w.heap.size #[.string s, .bool b] 23) := hY2
  have HB2 : Hid (Below w.heap.size w w2) := hB2
  clear hX2 hY2 hB2 hb2 HM
  go_wp2_with fail
  refine (HK.out _).mono ?_
  rintro e w3 ⟨rfl, rfl⟩
  clear HK
  have HX : Hid (Blk (setP w3 (w.heap.size + 1) s b) (w.heap.size + 1) #[.string s, .bool b] 23) := Blk.putP HX2.out _ _
  have HB : Hid (Below w.heap.size w (setP w3 (w.heap.size + 1) s b)) := bel_setP HB2.out _ _ _ (Nat.le_succ _)
  have R0 : Hid (_ = _) := HX.out.cell 0
  have R1 : Hid (_ = _) := HX.out.cell 1
  unfold setP at HB R0 R1
  clear HX HX2 HY2 HB2
  go_wp2_with fail
  exact bodyPost_ret (v := .tuple #[.agg #[.string s, .bool b], .slice none 0 0, .int .i64 0]) (by simp [results, Tryd.results10, R0.out, R1.out, go_sem]) rfl ⟨_, rfl, Lies.zero _ _, HB.out⟩

set_option maxHeartbeats 2000000 in
theorem rp_160 (s : ByteArray) (b : Bool) (n : Int) (w : World) (hn : n < 0)
    (HM : Hid (∀ W, Calls Tryd.prog 22 #[.agg #[.string s, .bool b]] W fun e w' => e = .returned (.bool true) ∧ Below W.heap.size W w'))
    (HK : Hid (∀ W, Calls Tryd.prog 23 #[.int .i32 160] W fun e w' => e = .returned (.int .i64 n) ∧ w' = W)) :
    Calls Tryd.prog 10 #[.agg #[.string s, .bool b], .int .i32 160] w fun e w' => ∃ v, e = .returned (.tuple #[.agg #[.string s, .bool b], v, .int .i64 0]) ∧ Lies w' w.heap.size v [] ∧ Below w.heap.size w w' := by
  go_enter Tryd.func10, Tryd.ntmps10
  go_wp2_with fail
  refine (HM.out _).mono ?_
  rintro e w2 ⟨rfl, hb2⟩
  have hB2 : Below w.heap.size w w2 := bel_step (bel2 _ _ _) hb2
  have hX2 := (Blk.new1 w (.cells #[.string s, .bool b] 23) #[.string ⟨#[]⟩, .bool false] 23).next hb2
  have hY2 := ((Blk.new w #[.string s, .bool b] 23).alloc (.cells #[.string ⟨#[]⟩, .bool false] 23)).next hb2
  have y0 := hY2.cell 0
  have y1 := hY2.cell 1
  have t0 := hX2.cell 0
  have t1 := hX2.cell 1
  have c0 := hX2.free 0
  have c1 := hX2.free 1
  have HX2 : Hid (Blk w2 (w.heap.size + 1) #[.string ⟨#[]⟩, .bool false] 23) := hX2
  have HY2 : Hid (Blk w2 w.heap.size #[.string s, .bool b] 23) := hY2
  have HB2 : Hid (Below w.heap.size w w2) := hB2
  clear hX2 hY2 hB2 hb2 HM
  go_wp2_with fail
  refine (HK.out _).mono ?_
  rintro e w3 ⟨rfl, rfl⟩
  clear HK
  have HX : Hid (Blk (setP w3 (w.heap.size + 1) s b) (w.heap.size + 1) #[.string s, .bool b] 23) := Blk.putP HX2.out _ _
  have HB : Hid (Below w.heap.size w (setP w3 (w.heap.size + 1) s b)) := bel_setP HB2.out _ _ _ (Nat.le_succ _)
  have R0 : Hid (_ = _) := HX.out.cell 0
  have R1 : Hid (_ = _) := HX.out.cell 1
  unfold setP at HB R0 R1
  clear HX HX2 HY2 HB2
  go_wp2_with fail
  exact bodyPost_ret (v := .tuple #[.agg #[.string s, .bool b], .slice none 0 0, .int .i64 0]) (by simp [results, Tryd.results10, R0.out, R1.out, go_sem]) rfl ⟨_, rfl, Lies.zero _ _, HB.out⟩

set_option maxHeartbeats 2000000 in
theorem rp_42e (s : ByteArray) (b : Bool) (n : Int) (w : World) (hn : n < 0) (hz : s.size = 0)
    (HM : Hid (∀ W, Calls Tryd.prog 22 #[.agg #[.string s, .bool b]] W fun e w' => e = .returned (.bool true) ∧ Below W.heap.size W w'))
    (HK : Hid (∀ W, Calls Tryd.prog 23 #[.int .i32 42] W fun e w' => e = .returned (.int .i64 n) ∧ w' = W)) :
    Calls Tryd.prog 10 #[.agg #[.string s, .bool b], .int .i32 42] w fun e w' => ∃ v, e = .returned (.tuple #[.agg #[.string s, .bool b], v, .int .i64 0]) ∧ Lies w' w.heap.size v [] ∧ Below w.heap.size w w' := by
  have hz2 : ¬ (0 : Int) < (s.size : Int) := by omega
  go_enter Tryd.func10, Tryd.ntmps10
  go_wp2_with fail
  refine (HM.out _).mono ?_
  rintro e w2 ⟨rfl, hb2⟩
  have hB2 : Below w.heap.size w w2 := bel_step (bel2 _ _ _) hb2
  have hX2 := (Blk.new1 w (.cells #[.string s, .bool b] 23) #[.string ⟨#[]⟩, .bool false] 23).next hb2
  have hY2 := ((Blk.new w #[.string s, .bool b] 23).alloc (.cells #[.string ⟨#[]⟩, .bool false] 23)).next hb2
  have y0 := hY2.cell 0
  have y1 := hY2.cell 1
  have t0 := hX2.cell 0
  have t1 := hX2.cell 1
  have c0 := hX2.free 0
  have c1 := hX2.free 1
  have HX2 : Hid (Blk w2 (w.heap.size + 1) #[.string ⟨#[]⟩, .bool false] 23) := hX2
  have HY2 : Hid (Blk w2 w.heap.size #[.string s, .bool b] 23) := hY2
  have HB2 : Hid (Below w.heap.size w w2) := hB2
  clear hX2 hY2 hB2 hb2 HM
  go_wp2_with fail
  refine (HK.out _).mono ?_
  rintro e w3 ⟨rfl, rfl⟩
  clear HK
  have HX : Hid (Blk (setP w3 (w.heap.size + 1) s b) (w.heap.size + 1) #[.string s, .bool b] 23) := Blk.putP HX2.out _ _
  have HB : Hid (Below w.heap.size w (setP w3 (w.heap.size + 1) s b)) := bel_setP HB2.out _ _ _ (Nat.le_succ _)
  have R0 : Hid (_ = _) := HX.out.cell 0
  have R1 : Hid (_ = _) := HX.out.cell 1
  unfold setP at HB R0 R1
  clear HX HX2 HY2 HB2
  go_wp2_with fail
  exact bodyPost_ret (v := .tuple #[.agg #[.string s, .bool b], .slice none 0 0, .int .i64 0]) (by simp [results, Tryd.results10, R0.out, R1.out, go_sem]) rfl ⟨_, rfl, Lies.zero _ _, HB.out⟩

set_option maxHeartbeats 2000000 in
theorem rp_42 (s : ByteArray) (b : Bool) (n : Int) (w : World) (hn : n < 0) (hz : 0 < s.size) (hs : s.size ≤ 30)
    (HM : Hid (∀ W, Calls Tryd.prog 22 #[.agg #[.string s, .bool b]] W fun e w' => e = .returned (.bool true) ∧ Below W.heap.size W w'))
    (HK : Hid (∀ W, Calls Tryd.prog 23 #[.int .i32 42] W fun e w' => e = .returned (.int .i64 n) ∧ w' = W)) :
    Calls Tryd.prog 10 #[.agg #[.string s, .bool b], .int .i32 42] w fun e w' => ∃ v, e = .returned (.tuple #[.agg #[.string (s.extract 0 (s.size - 1)), .bool b], v, .int .i64 0]) ∧ Lies w' w.heap.size v [] ∧ Below w.heap.size w w' := by
  have hz2 : (0 : Int) < (s.size : Int) := by omega
  go_enter Tryd.func10, Tryd.ntmps10
  go_wp2_with fail
  refine (HM.out _).mono ?_
  rintro e w2 ⟨rfl, hb2⟩
  have hB2 : Below w.heap.size w w2 := bel_step (bel2 _ _ _) hb2
  have hX2 := (Blk.new1 w (.cells #[.string s, .bool b] 23) #[.string ⟨#[]⟩, .bool false] 23).next hb2
  have hY2 := ((Blk.new w #[.string s, .bool b] 23).alloc (.cells #[.string ⟨#[]⟩, .bool false] 23)).next hb2
  have y0 := hY2.cell 0
  have y1 := hY2.cell 1
  have t0 := hX2.cell 0
  have t1 := hX2.cell 1
  have c0 := hX2.free 0
  have c1 := hX2.free 1
  have HX2 : Hid (Blk w2 (w.heap.size + 1) #[.string ⟨#[]⟩, .bool false] 23) := hX2
  have HY2 : Hid (Blk w2 w.heap.size #[.string s, .bool b] 23) := hY2
  have HB2 : Hid (Below w.heap.size w w2) := hB2
  clear hX2 hY2 hB2 hb2 HM
  go_wp2_with fail
  refine (HK.out _).mono ?_
  rintro e w3 ⟨rfl, rfl⟩
  clear HK
  have HX : Hid (Blk (setP w3 (w.heap.size + 1) (s.extract 0 (s.size - 1)) b).drew (w.heap.size + 1) #[.string (s.extract 0 (s.size - 1)), .bool b] 23) := Blk.drew1 (Blk.putP HX2.out _ _)
  have HB : Hid (Below w.heap.size w (setP w3 (w.heap.size + 1) (s.extract 0 (s.size - 1)) b).drew) := bel_drew1 (bel_setP HB2.out _ _ _ (Nat.le_succ _))
  have R0 : Hid (_ = _) := HX.out.cell 0
  have R1 : Hid (_ = _) := HX.out.cell 1
  unfold setP at HB R0 R1
  clear HX HX2 HY2 HB2
  go_wp2_with fail
  go_region
  go_wp2_with fail
  exact bodyPost_ret (v := .tuple #[.agg #[.string (s.extract 0 (s.size - 1)), .bool b], .slice none 0 0, .int .i64 0]) (by simp [results, Tryd.results10, R0.out, R1.out, go_sem]) rfl ⟨_, rfl, Lies.zero _ _, HB.out⟩

set_option maxHeartbeats 2000000 in
theorem rp_bad (s : ByteArray) (b : Bool) (r n : Int) (w : World) (hn : n < 0 ∨ 30 ≤ s.size) (f1 : (r == 32) = false) (f2 : (r == 45) = false) (f3 : (r == 160) = false) (f4 : (r == 42) = false) (f5 : (r == 35) = false)
    (HM : Hid (∀ W, Calls Tryd.prog 22 #[.agg #[.string s, .bool b]] W fun e w' => e = .returned (.bool true) ∧ Below W.heap.size W w'))
    (HK : Hid (∀ W, Calls Tryd.prog 23 #[.int .i32 r] W fun e w' => e = .returned (.int .i64 n) ∧ w' = W)) :
    Calls Tryd.prog 10 #[.agg #[.string s, .bool b], .int .i32 r] w fun e w' => ∃ v, e = .returned (.tuple #[.agg #[.string s, .bool true], v, .int .i64 0]) ∧ Lies w' w.heap.size v [] ∧ Below w.heap.size w w' := by
  by_cases hn1 : n < 0
  · clear hn
    go_enter Tryd.func10, Tryd.ntmps10
    go_wp2_with fail
    refine (HM.out _).mono ?_
    rintro e w2 ⟨rfl, hb2⟩
    have hB2 : Below w.heap.size w w2 := bel_step (bel2 _ _ _) hb2
    have hX2 := (Blk.new1 w (.cells #[.string s, .bool b] 23) #[.string ⟨#[]⟩, .bool false] 23).next hb2
    have hY2 := ((Blk.new w #[.string s, .bool b] 23).alloc (.cells #[.string ⟨#[]⟩, .bool false] 23)).next hb2
    have y0 := hY2.cell 0
    have y1 := hY2.cell 1
    have t0 := hX2.cell 0
    have t1 := hX2.cell 1
    have c0 := hX2.free 0
    have c1 := hX2.free 1
    have HX2 : Hid (Blk w2 (w.heap.size + 1) #[.string ⟨#[]⟩, .bool false] 23) := hX2
    have HY2 : Hid (Blk w2 w.heap.size #[.string s, .bool b] 23) := hY2
    have HB2 : Hid (Below w.heap.size w w2) := hB2
    clear hX2 hY2 hB2 hb2 HM
    go_wp2_with fail
    refine (HK.out _).mono ?_
    rintro e w3 ⟨rfl, rfl⟩
    clear HK
    have HX : Hid (Blk (setP w3 (w.heap.size + 1) s true) (w.heap.size + 1) #[.string s, .bool true] 23) := Blk.putP HX2.out _ _
    have HB : Hid (Below w.heap.size w (setP w3 (w.heap.size + 1) s true)) := bel_setP HB2.out _ _ _ (Nat.le_succ _)
    have R0 : Hid (_ = _) := HX.out.cell 0
    have R1 : Hid (_ = _) := HX.out.cell 1
    unfold setP at HB R0 R1
    clear HX HX2 HY2 HB2
    go_wp2_with fail
    exact bodyPost_ret (v := .tuple #[.agg #[.string s, .bool true], .slice none 0 0, .int .i64 0]) (by simp [results, Tryd.results10, R0.out, R1.out, go_sem]) rfl ⟨_, rfl, Lies.zero _ _, HB.out⟩
  · have hn2 : 0 ≤ n := by omega
    have hs : ¬ (s.size : Int) < 30 := by omega
    clear hn
    go_enter Tryd.func10, Tryd.ntmps10
    go_wp2_with fail
    refine (HM.out _).mono ?_
    rintro e w2 ⟨rfl, hb2⟩
    have hB2 : Below w.heap.size w w2 := bel_step (bel2 _ _ _) hb2
    have hX2 := (Blk.new1 w (.cells #[.string s, .bool b] 23) #[.string ⟨#[]⟩, .bool false] 23).next hb2
    have hY2 := ((Blk.new w #[.string s, .bool b] 23).alloc (.cells #[.string ⟨#[]⟩, .bool false] 23)).next hb2
    have y0 := hY2.cell 0
    have y1 := hY2.cell 1
    have t0 := hX2.cell 0
    have t1 := hX2.cell 1
    have c0 := hX2.free 0
    have c1 := hX2.free 1
    have HX2 : Hid (Blk w2 (w.heap.size + 1) #[.string ⟨#[]⟩, .bool false] 23) := hX2
    have HY2 : Hid (Blk w2 w.heap.size #[.string s, .bool b] 23) := hY2
    have HB2 : Hid (Below w.heap.size w w2) := hB2
    clear hX2 hY2 hB2 hb2 HM
    go_wp2_with fail
    refine (HK.out _).mono ?_
    rintro e w3 ⟨rfl, rfl⟩
    clear HK
    have HX : Hid (Blk (setP w3 (w.heap.size + 1) s true) (w.heap.size + 1) #[.string s, .bool true] 23) := Blk.putP HX2.out _ _
    have HB : Hid (Below w.heap.size w (setP w3 (w.heap.size + 1) s true)) := bel_setP HB2.out _ _ _ (Nat.le_succ _)
    have R0 : Hid (_ = _) := HX.out.cell 0
    have R1 : Hid (_ = _) := HX.out.cell 1
    unfold setP at HB R0 R1
    clear HX HX2 HY2 HB2
    go_wp2_with fail
    exact bodyPost_ret (v := .tuple #[.agg #[.string s, .bool true], .slice none 0 0, .int .i64 0]) (by simp [results, Tryd.results10, R0.out, R1.out, go_sem]) rfl ⟨_, rfl, Lies.zero _ _, HB.out⟩

end Go.Proofs.YtkobdkkgkpgcbaaDoor.keypad
