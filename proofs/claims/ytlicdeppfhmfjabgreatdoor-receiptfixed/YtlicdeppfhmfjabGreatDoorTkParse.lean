/- What Parse gives back. -/
import Derived.Test.YtlicdeppfhmfjabGreatDoorTkRead
import Derived.Test.YtlicdeppfhmfjabGreatDoorOver
import Derived.Test.YtlicdeppfhmfjabGreatDoorCmp
namespace Go.Proofs.YtlicdeppfhmfjabGreatDoor.token
open Go.Proofs.YtlicdeppfhmfjabGreatDoor.words Go.Proofs.YtlicdeppfhmfjabGreatDoor.check
open Go.RowKit
set_option linter.unusedSimpArgs false

theorem over_wn (a b c V : Nat) (w : World) (h : WN a b c V) :
    Calls Tryz.prog 40 #[.agg #[.int .u32 (a : Int), .int .u32 (b : Int), .int .u32 (c : Int)], .int .u32 97] w fun e w' =>
      ∃ a' b' c' : Nat, e = .returned (.tuple #[.agg #[.int .u32 (a' : Int), .int .u32 (b' : Int), .int .u32 (c' : Int)], .int .u32 ((V % 97 : Nat) : Int), .int .i64 0]) ∧ WN a' b' c' (V / 97) ∧ Below w.heap.size w w' := by
  have hk := wn_ok h
  have ho := over_any ⟨a, b, c⟩ 97 w hk.1 (by omega) (by omega)
  have h1 := over_val ⟨a, b, c⟩ 97
  have h2 := over_left (w := ⟨a, b, c⟩) 97 (by omega)
  rw [hk.2] at h1
  have hr : overR ⟨a, b, c⟩ 97 = ((V % 97 : Nat) : Int) := by omega
  obtain ⟨a', b', c', he, hn⟩ := wn_of (over_ok hk.1 (d := 97) (by omega)) (V := V / 97) (by omega)
  refine ho.mono ?_
  rintro e w' ⟨rfl, hb⟩
  exact ⟨a', b', c', by rw [he, hr], hn, hb⟩
theorem cmp_wn (a b c V : Nat) (w : World) (h : WN a b c V) :
    Calls Tryz.prog 39 #[.agg #[.int .u32 (a : Int), .int .u32 (b : Int), .int .u32 (c : Int)], .agg #[.int .u32 0, .int .u32 0, .int .u32 4]] w fun e w' => e = .returned (.int .i64 (cmp3 (V : Int) 73786976294838206464)) ∧ Below w.heap.size w w' := by
  have hk := wn_ok h
  have hc := cmp_any ⟨a, b, c⟩ ⟨0, 0, 4⟩ w hk.1 (by unfold W3.ok; decide)
  rwa [hk.2, show W3.val ⟨0, 0, 4⟩ = 73786976294838206464 by unfold W3.val; decide] at hc

theorem bel_set4 {w w' : World} (h : Below w.heap.size w w') (x y z u : Int) : Below w.heap.size w (((((w').setCell ⟨w.heap.size, 0, none⟩ (.int .i64 x)).setCell ⟨w.heap.size, 1, none⟩ (.int .i64 y)).setCell ⟨w.heap.size, 2, none⟩ (.int .i64 z)).setCell ⟨w.heap.size, 3, none⟩ (.int .i64 u)) := bel_set (bel_set (bel_set (bel_set h _ _ _ (Nat.le_refl _)) _ _ _ (Nat.le_refl _)) _ _ _ (Nat.le_refl _)) _ _ _ (Nat.le_refl _)
theorem blk_set4 {w w' : World} {p q r v : Value} (h : Blk w' w.heap.size #[p, q, r, v] 50) (x y z u : Int) : Blk (((((w').setCell ⟨w.heap.size, 0, none⟩ (.int .i64 x)).setCell ⟨w.heap.size, 1, none⟩ (.int .i64 y)).setCell ⟨w.heap.size, 2, none⟩ (.int .i64 z)).setCell ⟨w.heap.size, 3, none⟩ (.int .i64 u)) w.heap.size #[.int .i64 x, .int .i64 y, .int .i64 z, .int .i64 u] 50 := (((h.set 0 _).set 1 _).set 2 _).set 3 _

set_option maxHeartbeats 400000 in
theorem parse_6 (s : ByteArray) (w : World) (h : s.size ≠ 20) :
    Calls Tryz.prog 18 #[.string s] w fun e w' => e = .returned (.tuple #[noTok, .int .i64 6]) ∧ Below w.heap.size w w' := by
  have HF : Hid (∀ W, Calls Tryz.prog 38 #[.string s] W fun e w' => e = .returned (.tuple #[.agg #[.int .u32 0, .int .u32 0, .int .u32 0], .int .i64 6]) ∧ Below W.heap.size W w') := fun W => read_len s W h
  have hR0 := Blk.new w #[.int .i64 0, .int .i64 0, .int .i64 0, .int .i64 0] 50
  have HR0 : Hid (Blk (w.alloc (.cells #[.int .i64 0, .int .i64 0, .int .i64 0, .int .i64 0] 50)) w.heap.size #[.int .i64 0, .int .i64 0, .int .i64 0, .int .i64 0] 50) := hR0
  have HB0 : Hid (Below w.heap.size w (w.alloc (.cells #[.int .i64 0, .int .i64 0, .int .i64 0, .int .i64 0] 50))) := bel_box _ _
  clear hR0
  clear h
  go_enter Tryz.func18, Tryz.ntmps18
  go_wp2_with fail
  refine (HF.out _).mono ?_
  rintro e w1 ⟨rfl, hb1⟩
  have hR := (HR0.out.next hb1).alloc (.cells #[.int .u32 0, .int .u32 0, .int .u32 0] 77)
  have hB := (bel_step HB0.out hb1).alloc (bel_step HB0.out hb1).size (.cells #[.int .u32 0, .int .u32 0, .int .u32 0] 77)
  clear hb1 HF HR0 HB0
  have RR := blk_set4 (w := w) hR (0) (0) (0) (0)
  have HBB : Hid (Below w.heap.size w (((((w1.alloc (.cells #[.int .u32 0, .int .u32 0, .int .u32 0] 77)).setCell ⟨w.heap.size, 0, none⟩ (.int .i64 0)).setCell ⟨w.heap.size, 1, none⟩ (.int .i64 0)).setCell ⟨w.heap.size, 2, none⟩ (.int .i64 0)).setCell ⟨w.heap.size, 3, none⟩ (.int .i64 0))) := bel_set4 hB (0) (0) (0) (0)
  have R0 : Hid (_ = _) := RR.cell 0
  have R1 : Hid (_ = _) := RR.cell 1
  have R2 : Hid (_ = _) := RR.cell 2
  have R3 : Hid (_ = _) := RR.cell 3
  have p0 := hR.cell 0
  have p1 := hR.cell 1
  have p2 := hR.cell 2
  have p3 := hR.cell 3
  have f0 := hR.free 0
  have f1 := hR.free 1
  have f2 := hR.free 2
  have f3 := hR.free 3
  clear RR hR hB
  go_wp2_with fail
  refine bodyPost_ret (v := .tuple #[.agg #[.int .i64 0, .int .i64 0, .int .i64 0, .int .i64 0], .int .i64 6]) (by simp [results, Tryz.results18, R0.out, R1.out, R2.out, R3.out, go_sem]) rfl ⟨rfl, HBB.out⟩

set_option maxHeartbeats 400000 in
theorem parse_7 (s : ByteArray) (w : World) (h : s.size = 20) (h1 : allD s.data.toList = false) :
    Calls Tryz.prog 18 #[.string s] w fun e w' => e = .returned (.tuple #[noTok, .int .i64 7]) ∧ Below w.heap.size w w' := by
  have HF : Hid (∀ W, Calls Tryz.prog 38 #[.string s] W fun e w' => e = .returned (.tuple #[.agg #[.int .u32 0, .int .u32 0, .int .u32 0], .int .i64 7]) ∧ Below W.heap.size W w') := fun W => (read_any s W h).mono fun e w' hp => by
    rcases hp.2 with ⟨hx, _⟩ | ⟨_, hx⟩
    · rw [h1] at hx; cases hx
    · exact ⟨hx, hp.1⟩
  have hR0 := Blk.new w #[.int .i64 0, .int .i64 0, .int .i64 0, .int .i64 0] 50
  have HR0 : Hid (Blk (w.alloc (.cells #[.int .i64 0, .int .i64 0, .int .i64 0, .int .i64 0] 50)) w.heap.size #[.int .i64 0, .int .i64 0, .int .i64 0, .int .i64 0] 50) := hR0
  have HB0 : Hid (Below w.heap.size w (w.alloc (.cells #[.int .i64 0, .int .i64 0, .int .i64 0, .int .i64 0] 50))) := bel_box _ _
  clear hR0
  clear h h1
  go_enter Tryz.func18, Tryz.ntmps18
  go_wp2_with fail
  refine (HF.out _).mono ?_
  rintro e w1 ⟨rfl, hb1⟩
  have hR := (HR0.out.next hb1).alloc (.cells #[.int .u32 0, .int .u32 0, .int .u32 0] 77)
  have hB := (bel_step HB0.out hb1).alloc (bel_step HB0.out hb1).size (.cells #[.int .u32 0, .int .u32 0, .int .u32 0] 77)
  clear hb1 HF HR0 HB0
  have RR := blk_set4 (w := w) hR (0) (0) (0) (0)
  have HBB : Hid (Below w.heap.size w (((((w1.alloc (.cells #[.int .u32 0, .int .u32 0, .int .u32 0] 77)).setCell ⟨w.heap.size, 0, none⟩ (.int .i64 0)).setCell ⟨w.heap.size, 1, none⟩ (.int .i64 0)).setCell ⟨w.heap.size, 2, none⟩ (.int .i64 0)).setCell ⟨w.heap.size, 3, none⟩ (.int .i64 0))) := bel_set4 hB (0) (0) (0) (0)
  have R0 : Hid (_ = _) := RR.cell 0
  have R1 : Hid (_ = _) := RR.cell 1
  have R2 : Hid (_ = _) := RR.cell 2
  have R3 : Hid (_ = _) := RR.cell 3
  have p0 := hR.cell 0
  have p1 := hR.cell 1
  have p2 := hR.cell 2
  have p3 := hR.cell 3
  have f0 := hR.free 0
  have f1 := hR.free 1
  have f2 := hR.free 2
  have f3 := hR.free 3
  clear RR hR hB
  go_wp2_with fail
  refine bodyPost_ret (v := .tuple #[.agg #[.int .i64 0, .int .i64 0, .int .i64 0, .int .i64 0], .int .i64 7]) (by simp [results, Tryz.results18, R0.out, R1.out, R2.out, R3.out, go_sem]) rfl ⟨rfl, HBB.out⟩

set_option maxHeartbeats 1000000 in
theorem parse_big2 (s : ByteArray) (V : Nat) (w : World) (ht : TTab w) (h : s.size = 20) (h1 : allD s.data.toList = true) (hV : dv s.data.toList = V) (h2 : 73786976294838206464 ≤ V) :
    Calls Tryz.prog 18 #[.string s] w fun e w' => e = .returned (.tuple #[noTok, .int .i64 2]) ∧ Below w.heap.size w w' := by
  have HF : Hid (∀ W, Calls Tryz.prog 38 #[.string s] W fun e w' => ∃ a b c : Nat, e = .returned (.tuple #[.agg #[.int .u32 (a : Int), .int .u32 (b : Int), .int .u32 (c : Int)], .int .i64 0]) ∧ WN a b c V ∧ Below W.heap.size W w') := fun W => (read_any s W h).mono fun e w' hp => by
    rcases hp.2 with ⟨_, a, b, c, he, hw⟩ | ⟨hx, _⟩
    · rw [hV] at hw; exact ⟨a, b, c, he, hw, hp.1⟩
    · rw [h1] at hx; cases hx
  have hR0 := Blk.new w #[.int .i64 0, .int .i64 0, .int .i64 0, .int .i64 0] 50
  have HR0 : Hid (Blk (w.alloc (.cells #[.int .i64 0, .int .i64 0, .int .i64 0, .int .i64 0] 50)) w.heap.size #[.int .i64 0, .int .i64 0, .int .i64 0, .int .i64 0] 50) := hR0
  have HB0 : Hid (Below w.heap.size w (w.alloc (.cells #[.int .i64 0, .int .i64 0, .int .i64 0, .int .i64 0] 50))) := bel_box _ _
  clear hR0
  have HT0 : Hid (TTab w) := ht
  have HC : Hid (cmp3 (V : Int) 73786976294838206464 = (if (73786976294838206464 : Int) < V then 1 else 0) ∧ True) := ⟨by unfold cmp3; rw [if_neg (by omega)], trivial⟩
  have hcc : (0 : Int) ≤ (if (73786976294838206464 : Int) < V then 1 else 0) := by split <;> omega
  generalize (if (73786976294838206464 : Int) < (V : Int) then (1 : Int) else 0) = cc at *
  clear h2
  clear h h1 hV ht
  go_enter Tryz.func18, Tryz.ntmps18
  go_wp2_with fail
  refine (HF.out _).mono ?_
  rintro e w1 ⟨a, b, c, rfl, hw1, hb1⟩
  have HR1 : Hid (Blk (w1.alloc (.cells #[.int .u32 (a : Int), .int .u32 (b : Int), .int .u32 (c : Int)] 77)) w.heap.size #[.int .i64 0, .int .i64 0, .int .i64 0, .int .i64 0] 50) := (HR0.out.next hb1).alloc _
  have HB1 : Hid (Below w.heap.size w (w1.alloc (.cells #[.int .u32 (a : Int), .int .u32 (b : Int), .int .u32 (c : Int)] 77))) := (bel_step HB0.out hb1).alloc (bel_step HB0.out hb1).size _
  have hN1 := Blk.new w1 #[.int .u32 (a : Int), .int .u32 (b : Int), .int .u32 (c : Int)] 77
  have HN1 : Hid (Blk (w1.alloc (.cells #[.int .u32 (a : Int), .int .u32 (b : Int), .int .u32 (c : Int)] 77)) w1.heap.size #[.int .u32 (a : Int), .int .u32 (b : Int), .int .u32 (c : Int)] 77) := hN1
  have HW : Hid (WN a b c V) := hw1
  have c0 := hN1.cell 0
  have c1 := hN1.cell 1
  have c2 := hN1.cell 2
  clear hb1 HF HR0 HB0 hw1 hN1
  go_wp2_with fail
  refine (cmp_wn a b c V _ HW.out).mono ?_
  rintro e w2 ⟨rfl, hb2⟩
  have HR2 : Hid (Blk w2 w.heap.size #[.int .i64 0, .int .i64 0, .int .i64 0, .int .i64 0] 50) := HR1.out.next hb2
  have HB2 : Hid (Below w.heap.size w w2) := bel_step HB1.out hb2
  have hN2 := HN1.out.next hb2
  have n0 := hN2.cell 0
  have n1 := hN2.cell 1
  have n2 := hN2.cell 2
  clear hb2 c0 c1 c2 HR1 HB1 HN1 hN2
  rw [HC.out.1]
  have hR := HR2.out
  have hB := HB2.out
  clear HR2 HB2
  have RR := blk_set4 (w := w) hR (0) (0) (0) (0)
  have HBB : Hid (Below w.heap.size w (((((w2).setCell ⟨w.heap.size, 0, none⟩ (.int .i64 0)).setCell ⟨w.heap.size, 1, none⟩ (.int .i64 0)).setCell ⟨w.heap.size, 2, none⟩ (.int .i64 0)).setCell ⟨w.heap.size, 3, none⟩ (.int .i64 0))) := bel_set4 hB (0) (0) (0) (0)
  have R0 : Hid (_ = _) := RR.cell 0
  have R1 : Hid (_ = _) := RR.cell 1
  have R2 : Hid (_ = _) := RR.cell 2
  have R3 : Hid (_ = _) := RR.cell 3
  have p0 := hR.cell 0
  have p1 := hR.cell 1
  have p2 := hR.cell 2
  have p3 := hR.cell 3
  have f0 := hR.free 0
  have f1 := hR.free 1
  have f2 := hR.free 2
  have f3 := hR.free 3
  clear RR hR hB
  go_wp2_with fail
  refine bodyPost_ret (v := .tuple #[.agg #[.int .i64 0, .int .i64 0, .int .i64 0, .int .i64 0], .int .i64 2]) (by simp [results, Tryz.results18, R0.out, R1.out, R2.out, R3.out, go_sem]) rfl ⟨rfl, HBB.out⟩

set_option maxHeartbeats 1000000 in
theorem parse_8 (s : ByteArray) (V : Nat) (w : World) (ht : TTab w) (h : s.size = 20) (h1 : allD s.data.toList = true) (hV : dv s.data.toList = V) (h2 : V < 73786976294838206464) (h3 : V % 97 ≠ 0) :
    Calls Tryz.prog 18 #[.string s] w fun e w' => e = .returned (.tuple #[noTok, .int .i64 8]) ∧ Below w.heap.size w w' := by
  have HF : Hid (∀ W, Calls Tryz.prog 38 #[.string s] W fun e w' => ∃ a b c : Nat, e = .returned (.tuple #[.agg #[.int .u32 (a : Int), .int .u32 (b : Int), .int .u32 (c : Int)], .int .i64 0]) ∧ WN a b c V ∧ Below W.heap.size W w') := fun W => (read_any s W h).mono fun e w' hp => by
    rcases hp.2 with ⟨_, a, b, c, he, hw⟩ | ⟨hx, _⟩
    · rw [hV] at hw; exact ⟨a, b, c, he, hw, hp.1⟩
    · rw [h1] at hx; cases hx
  have hR0 := Blk.new w #[.int .i64 0, .int .i64 0, .int .i64 0, .int .i64 0] 50
  have HR0 : Hid (Blk (w.alloc (.cells #[.int .i64 0, .int .i64 0, .int .i64 0, .int .i64 0] 50)) w.heap.size #[.int .i64 0, .int .i64 0, .int .i64 0, .int .i64 0] 50) := hR0
  have HB0 : Hid (Below w.heap.size w (w.alloc (.cells #[.int .i64 0, .int .i64 0, .int .i64 0, .int .i64 0] 50))) := bel_box _ _
  clear hR0
  have HT0 : Hid (TTab w) := ht
  have HC : Hid (cmp3 (V : Int) 73786976294838206464 = -1) := (by unfold cmp3; rw [if_pos (by omega)] : cmp3 (V : Int) 73786976294838206464 = -1)
  obtain ⟨rr, hrr⟩ : ∃ rr : Int, ((V % 97 : Nat) : Int) = rr := ⟨_, rfl⟩
  have hr : (rr != 0) = true := by simp; omega
  have HRR : Hid (((V % 97 : Nat) : Int) = rr) := hrr
  clear h2 h3 hrr
  clear h h1 hV ht
  go_enter Tryz.func18, Tryz.ntmps18
  go_wp2_with fail
  refine (HF.out _).mono ?_
  rintro e w1 ⟨a, b, c, rfl, hw1, hb1⟩
  have HR1 : Hid (Blk (w1.alloc (.cells #[.int .u32 (a : Int), .int .u32 (b : Int), .int .u32 (c : Int)] 77)) w.heap.size #[.int .i64 0, .int .i64 0, .int .i64 0, .int .i64 0] 50) := (HR0.out.next hb1).alloc _
  have HB1 : Hid (Below w.heap.size w (w1.alloc (.cells #[.int .u32 (a : Int), .int .u32 (b : Int), .int .u32 (c : Int)] 77))) := (bel_step HB0.out hb1).alloc (bel_step HB0.out hb1).size _
  have hN1 := Blk.new w1 #[.int .u32 (a : Int), .int .u32 (b : Int), .int .u32 (c : Int)] 77
  have HN1 : Hid (Blk (w1.alloc (.cells #[.int .u32 (a : Int), .int .u32 (b : Int), .int .u32 (c : Int)] 77)) w1.heap.size #[.int .u32 (a : Int), .int .u32 (b : Int), .int .u32 (c : Int)] 77) := hN1
  have HW : Hid (WN a b c V) := hw1
  have c0 := hN1.cell 0
  have c1 := hN1.cell 1
  have c2 := hN1.cell 2
  clear hb1 HF HR0 HB0 hw1 hN1
  go_wp2_with fail
  refine (cmp_wn a b c V _ HW.out).mono ?_
  rintro e w2 ⟨rfl, hb2⟩
  have HR2 : Hid (Blk w2 w.heap.size #[.int .i64 0, .int .i64 0, .int .i64 0, .int .i64 0] 50) := HR1.out.next hb2
  have HB2 : Hid (Below w.heap.size w w2) := bel_step HB1.out hb2
  have hN2 := HN1.out.next hb2
  have n0 := hN2.cell 0
  have n1 := hN2.cell 1
  have n2 := hN2.cell 2
  clear hb2 c0 c1 c2 HR1 HB1 HN1 hN2
  rw [HC.out]
  go_wp2_with fail
  refine (over_wn a b c V _ HW.out).mono ?_
  rintro e w3 ⟨a', b', c', rfl, hw3, hb3⟩
  rw [HRR.out]
  have HR3 : Hid (Blk (w3.alloc (.cells #[.int .u32 (a' : Int), .int .u32 (b' : Int), .int .u32 (c' : Int)] 77)) w.heap.size #[.int .i64 0, .int .i64 0, .int .i64 0, .int .i64 0] 50) := (HR2.out.next hb3).alloc _
  have HB3 : Hid (Below w.heap.size w (w3.alloc (.cells #[.int .u32 (a' : Int), .int .u32 (b' : Int), .int .u32 (c' : Int)] 77))) := (bel_step HB2.out hb3).alloc (bel_step HB2.out hb3).size _
  have hN3 := Blk.new w3 #[.int .u32 (a' : Int), .int .u32 (b' : Int), .int .u32 (c' : Int)] 77
  have HW3 : Hid (WN a' b' c' (V / 97)) := hw3
  clear hb3 n0 n1 n2 HR2 HB2 HW HC hw3
  clear HW3 hN3 HRR
  have hR := HR3.out
  have hB := HB3.out
  clear HR3 HB3
  have RR := blk_set4 (w := w) hR (0) (0) (0) (0)
  have HBB : Hid (Below w.heap.size w (((((w3.alloc (.cells #[.int .u32 (a' : Int), .int .u32 (b' : Int), .int .u32 (c' : Int)] 77)).setCell ⟨w.heap.size, 0, none⟩ (.int .i64 0)).setCell ⟨w.heap.size, 1, none⟩ (.int .i64 0)).setCell ⟨w.heap.size, 2, none⟩ (.int .i64 0)).setCell ⟨w.heap.size, 3, none⟩ (.int .i64 0))) := bel_set4 hB (0) (0) (0) (0)
  have R0 : Hid (_ = _) := RR.cell 0
  have R1 : Hid (_ = _) := RR.cell 1
  have R2 : Hid (_ = _) := RR.cell 2
  have R3 : Hid (_ = _) := RR.cell 3
  have p0 := hR.cell 0
  have p1 := hR.cell 1
  have p2 := hR.cell 2
  have p3 := hR.cell 3
  have f0 := hR.free 0
  have f1 := hR.free 1
  have f2 := hR.free 2
  have f3 := hR.free 3
  clear RR hR hB
  go_wp2_with fail
  refine bodyPost_ret (v := .tuple #[.agg #[.int .i64 0, .int .i64 0, .int .i64 0, .int .i64 0], .int .i64 8]) (by simp [results, Tryz.results18, R0.out, R1.out, R2.out, R3.out, go_sem]) rfl ⟨rfl, HBB.out⟩

set_option maxHeartbeats 1000000 in
theorem parse_2 (s : ByteArray) (V : Nat) (w : World) (ht : TTab w) (h : s.size = 20) (h1 : allD s.data.toList = true) (hV : dv s.data.toList = V) (h2 : V < 73786976294838206464) (h3 : V % 97 = 0) (k : Tok) (hk : tokOf (V / 97) = k) (h4 : ¬ k.ok) :
    Calls Tryz.prog 18 #[.string s] w fun e w' => e = .returned (.tuple #[noTok, .int .i64 2]) ∧ Below w.heap.size w w' := by
  have HF : Hid (∀ W, Calls Tryz.prog 38 #[.string s] W fun e w' => ∃ a b c : Nat, e = .returned (.tuple #[.agg #[.int .u32 (a : Int), .int .u32 (b : Int), .int .u32 (c : Int)], .int .i64 0]) ∧ WN a b c V ∧ Below W.heap.size W w') := fun W => (read_any s W h).mono fun e w' hp => by
    rcases hp.2 with ⟨_, a, b, c, he, hw⟩ | ⟨hx, _⟩
    · rw [hV] at hw; exact ⟨a, b, c, he, hw, hp.1⟩
    · rw [h1] at hx; cases hx
  have hR0 := Blk.new w #[.int .i64 0, .int .i64 0, .int .i64 0, .int .i64 0] 50
  have HR0 : Hid (Blk (w.alloc (.cells #[.int .i64 0, .int .i64 0, .int .i64 0, .int .i64 0] 50)) w.heap.size #[.int .i64 0, .int .i64 0, .int .i64 0, .int .i64 0] 50) := hR0
  have HB0 : Hid (Below w.heap.size w (w.alloc (.cells #[.int .i64 0, .int .i64 0, .int .i64 0, .int .i64 0] 50))) := bel_box _ _
  clear hR0
  have HT0 : Hid (TTab w) := ht
  have HC : Hid (cmp3 (V : Int) 73786976294838206464 = -1) := (by unfold cmp3; rw [if_pos (by omega)] : cmp3 (V : Int) 73786976294838206464 = -1)
  have hff : (flawT k.c k.i k.a k.t != 0) = true := by
    simp only [bne_iff_ne, ne_eq]
    exact fun h => h4 (flaw_tok.1 h)
  have hrz : V % 97 = 0 := h3
  have HFL : Hid (∀ W, TTab W → Calls Tryz.prog 42 #[.agg #[.int .i64 (k.c : Int), .int .i64 (k.i : Int), .int .i64 (k.a : Int), .int .i64 (k.t : Int)]] W fun e w' => e = .returned (.int .i64 (flawT k.c k.i k.a k.t)) ∧ Below W.heap.size W w') := fun W hW => flaw_any k.c k.i k.a k.t W hW
  have HK : Hid (tokOf (V / 97) = k) := hk
  clear h2 h3 h4 hk
  generalize flawT k.c k.i k.a k.t = ff at *
  clear h h1 hV ht
  go_enter Tryz.func18, Tryz.ntmps18
  go_wp2_with fail
  refine (HF.out _).mono ?_
  rintro e w1 ⟨a, b, c, rfl, hw1, hb1⟩
  have HR1 : Hid (Blk (w1.alloc (.cells #[.int .u32 (a : Int), .int .u32 (b : Int), .int .u32 (c : Int)] 77)) w.heap.size #[.int .i64 0, .int .i64 0, .int .i64 0, .int .i64 0] 50) := (HR0.out.next hb1).alloc _
  have HB1 : Hid (Below w.heap.size w (w1.alloc (.cells #[.int .u32 (a : Int), .int .u32 (b : Int), .int .u32 (c : Int)] 77))) := (bel_step HB0.out hb1).alloc (bel_step HB0.out hb1).size _
  have hN1 := Blk.new w1 #[.int .u32 (a : Int), .int .u32 (b : Int), .int .u32 (c : Int)] 77
  have HN1 : Hid (Blk (w1.alloc (.cells #[.int .u32 (a : Int), .int .u32 (b : Int), .int .u32 (c : Int)] 77)) w1.heap.size #[.int .u32 (a : Int), .int .u32 (b : Int), .int .u32 (c : Int)] 77) := hN1
  have HW : Hid (WN a b c V) := hw1
  have c0 := hN1.cell 0
  have c1 := hN1.cell 1
  have c2 := hN1.cell 2
  clear hb1 HF HR0 HB0 hw1 hN1
  go_wp2_with fail
  refine (cmp_wn a b c V _ HW.out).mono ?_
  rintro e w2 ⟨rfl, hb2⟩
  have HR2 : Hid (Blk w2 w.heap.size #[.int .i64 0, .int .i64 0, .int .i64 0, .int .i64 0] 50) := HR1.out.next hb2
  have HB2 : Hid (Below w.heap.size w w2) := bel_step HB1.out hb2
  have hN2 := HN1.out.next hb2
  have n0 := hN2.cell 0
  have n1 := hN2.cell 1
  have n2 := hN2.cell 2
  clear hb2 c0 c1 c2 HR1 HB1 HN1 hN2
  rw [HC.out]
  go_wp2_with fail
  refine (over_wn a b c V _ HW.out).mono ?_
  rintro e w3 ⟨a', b', c', rfl, hw3, hb3⟩
  rw [hrz]
  have HR3 : Hid (Blk (w3.alloc (.cells #[.int .u32 (a' : Int), .int .u32 (b' : Int), .int .u32 (c' : Int)] 77)) w.heap.size #[.int .i64 0, .int .i64 0, .int .i64 0, .int .i64 0] 50) := (HR2.out.next hb3).alloc _
  have HB3 : Hid (Below w.heap.size w (w3.alloc (.cells #[.int .u32 (a' : Int), .int .u32 (b' : Int), .int .u32 (c' : Int)] 77))) := (bel_step HB2.out hb3).alloc (bel_step HB2.out hb3).size _
  have hN3 := Blk.new w3 #[.int .u32 (a' : Int), .int .u32 (b' : Int), .int .u32 (c' : Int)] 77
  have HW3 : Hid (WN a' b' c' (V / 97)) := hw3
  clear hb3 n0 n1 n2 HR2 HB2 HW HC hw3
  have HT3 : Hid (TTab (w3.alloc (.cells #[.int .u32 (a' : Int), .int .u32 (b' : Int), .int .u32 (c' : Int)] 77))) := HT0.out.below HB3.out
  have m0 := hN3.cell 0
  have m1 := hN3.cell 1
  have m2 := hN3.cell 2
  clear hN3
  go_wp2_with fail
  refine (unpack_any a' b' c' (V / 97) _ HW3.out HT3.out).mono ?_
  rintro e w4 ⟨he4, hb4⟩
  have HE4 : Hid (e = .returned (tokOf (V / 97)).v) := he4
  clear he4
  rw [HK.out] at HE4
  unfold Tok.v at HE4
  obtain rfl := HE4.out
  clear HE4
  have HR4 : Hid (Blk (w4.alloc (.cells #[.int .i64 (k.c : Int), .int .i64 (k.i : Int), .int .i64 (k.a : Int), .int .i64 (k.t : Int)] 50)) w.heap.size #[.int .i64 0, .int .i64 0, .int .i64 0, .int .i64 0] 50) := (HR3.out.next hb4).alloc _
  have HB4 : Hid (Below w.heap.size w (w4.alloc (.cells #[.int .i64 (k.c : Int), .int .i64 (k.i : Int), .int .i64 (k.a : Int), .int .i64 (k.t : Int)] 50))) := (bel_step HB3.out hb4).alloc (bel_step HB3.out hb4).size _
  have hK4 := Blk.new w4 #[.int .i64 (k.c : Int), .int .i64 (k.i : Int), .int .i64 (k.a : Int), .int .i64 (k.t : Int)] 50
  have HK4 : Hid (Blk (w4.alloc (.cells #[.int .i64 (k.c : Int), .int .i64 (k.i : Int), .int .i64 (k.a : Int), .int .i64 (k.t : Int)] 50)) w4.heap.size #[.int .i64 (k.c : Int), .int .i64 (k.i : Int), .int .i64 (k.a : Int), .int .i64 (k.t : Int)] 50) := hK4
  have HT4 : Hid (TTab (w4.alloc (.cells #[.int .i64 (k.c : Int), .int .i64 (k.i : Int), .int .i64 (k.a : Int), .int .i64 (k.t : Int)] 50))) := HT0.out.below HB4.out
  have k0 := hK4.cell 0
  have k1 := hK4.cell 1
  have k2 := hK4.cell 2
  have k3 := hK4.cell 3
  clear hb4 m0 m1 m2 HR3 HB3 HT3 HW3 hK4
  go_wp2_with fail
  refine (HFL.out _ HT4.out).mono ?_
  rintro e w5 ⟨rfl, hb5⟩
  have hR := HR4.out.next hb5
  have hB := bel_step HB4.out hb5
  have hK5 := HK4.out.next hb5
  clear hb5 k0 k1 k2 k3 HR4 HB4 HT4 HK4 HFL hK5
  have RR := blk_set4 (w := w) hR (0) (0) (0) (0)
  have HBB : Hid (Below w.heap.size w (((((w5).setCell ⟨w.heap.size, 0, none⟩ (.int .i64 0)).setCell ⟨w.heap.size, 1, none⟩ (.int .i64 0)).setCell ⟨w.heap.size, 2, none⟩ (.int .i64 0)).setCell ⟨w.heap.size, 3, none⟩ (.int .i64 0))) := bel_set4 hB (0) (0) (0) (0)
  have R0 : Hid (_ = _) := RR.cell 0
  have R1 : Hid (_ = _) := RR.cell 1
  have R2 : Hid (_ = _) := RR.cell 2
  have R3 : Hid (_ = _) := RR.cell 3
  have p0 := hR.cell 0
  have p1 := hR.cell 1
  have p2 := hR.cell 2
  have p3 := hR.cell 3
  have f0 := hR.free 0
  have f1 := hR.free 1
  have f2 := hR.free 2
  have f3 := hR.free 3
  clear RR hR hB
  go_wp2_with fail
  refine bodyPost_ret (v := .tuple #[.agg #[.int .i64 0, .int .i64 0, .int .i64 0, .int .i64 0], .int .i64 2]) (by simp [results, Tryz.results18, R0.out, R1.out, R2.out, R3.out, go_sem]) rfl ⟨rfl, HBB.out⟩

set_option maxHeartbeats 1000000 in
theorem parse_0 (s : ByteArray) (V : Nat) (w : World) (ht : TTab w) (h : s.size = 20) (h1 : allD s.data.toList = true) (hV : dv s.data.toList = V) (h2 : V < 73786976294838206464) (h3 : V % 97 = 0) (k : Tok) (hk : tokOf (V / 97) = k) (h4 : k.ok) :
    Calls Tryz.prog 18 #[.string s] w fun e w' => e = .returned (.tuple #[k.v, .int .i64 0]) ∧ Below w.heap.size w w' := by
  have HF : Hid (∀ W, Calls Tryz.prog 38 #[.string s] W fun e w' => ∃ a b c : Nat, e = .returned (.tuple #[.agg #[.int .u32 (a : Int), .int .u32 (b : Int), .int .u32 (c : Int)], .int .i64 0]) ∧ WN a b c V ∧ Below W.heap.size W w') := fun W => (read_any s W h).mono fun e w' hp => by
    rcases hp.2 with ⟨_, a, b, c, he, hw⟩ | ⟨hx, _⟩
    · rw [hV] at hw; exact ⟨a, b, c, he, hw, hp.1⟩
    · rw [h1] at hx; cases hx
  have hR0 := Blk.new w #[.int .i64 0, .int .i64 0, .int .i64 0, .int .i64 0] 50
  have HR0 : Hid (Blk (w.alloc (.cells #[.int .i64 0, .int .i64 0, .int .i64 0, .int .i64 0] 50)) w.heap.size #[.int .i64 0, .int .i64 0, .int .i64 0, .int .i64 0] 50) := hR0
  have HB0 : Hid (Below w.heap.size w (w.alloc (.cells #[.int .i64 0, .int .i64 0, .int .i64 0, .int .i64 0] 50))) := bel_box _ _
  clear hR0
  have HT0 : Hid (TTab w) := ht
  have HC : Hid (cmp3 (V : Int) 73786976294838206464 = -1) := (by unfold cmp3; rw [if_pos (by omega)] : cmp3 (V : Int) 73786976294838206464 = -1)
  have hrz : V % 97 = 0 := h3
  have HFL : Hid (∀ W, TTab W → Calls Tryz.prog 42 #[.agg #[.int .i64 (k.c : Int), .int .i64 (k.i : Int), .int .i64 (k.a : Int), .int .i64 (k.t : Int)]] W fun e w' => e = .returned (.int .i64 0) ∧ Below W.heap.size W w') := fun W hW => by
    have := flaw_any k.c k.i k.a k.t W hW
    rwa [flaw_tok.2 h4] at this
  have HK : Hid (tokOf (V / 97) = k) := hk
  clear h2 h3 h4 hk
  clear h h1 hV ht
  go_enter Tryz.func18, Tryz.ntmps18
  go_wp2_with fail
  refine (HF.out _).mono ?_
  rintro e w1 ⟨a, b, c, rfl, hw1, hb1⟩
  have HR1 : Hid (Blk (w1.alloc (.cells #[.int .u32 (a : Int), .int .u32 (b : Int), .int .u32 (c : Int)] 77)) w.heap.size #[.int .i64 0, .int .i64 0, .int .i64 0, .int .i64 0] 50) := (HR0.out.next hb1).alloc _
  have HB1 : Hid (Below w.heap.size w (w1.alloc (.cells #[.int .u32 (a : Int), .int .u32 (b : Int), .int .u32 (c : Int)] 77))) := (bel_step HB0.out hb1).alloc (bel_step HB0.out hb1).size _
  have hN1 := Blk.new w1 #[.int .u32 (a : Int), .int .u32 (b : Int), .int .u32 (c : Int)] 77
  have HN1 : Hid (Blk (w1.alloc (.cells #[.int .u32 (a : Int), .int .u32 (b : Int), .int .u32 (c : Int)] 77)) w1.heap.size #[.int .u32 (a : Int), .int .u32 (b : Int), .int .u32 (c : Int)] 77) := hN1
  have HW : Hid (WN a b c V) := hw1
  have c0 := hN1.cell 0
  have c1 := hN1.cell 1
  have c2 := hN1.cell 2
  clear hb1 HF HR0 HB0 hw1 hN1
  go_wp2_with fail
  refine (cmp_wn a b c V _ HW.out).mono ?_
  rintro e w2 ⟨rfl, hb2⟩
  have HR2 : Hid (Blk w2 w.heap.size #[.int .i64 0, .int .i64 0, .int .i64 0, .int .i64 0] 50) := HR1.out.next hb2
  have HB2 : Hid (Below w.heap.size w w2) := bel_step HB1.out hb2
  have hN2 := HN1.out.next hb2
  have n0 := hN2.cell 0
  have n1 := hN2.cell 1
  have n2 := hN2.cell 2
  clear hb2 c0 c1 c2 HR1 HB1 HN1 hN2
  rw [HC.out]
  go_wp2_with fail
  refine (over_wn a b c V _ HW.out).mono ?_
  rintro e w3 ⟨a', b', c', rfl, hw3, hb3⟩
  rw [hrz]
  have HR3 : Hid (Blk (w3.alloc (.cells #[.int .u32 (a' : Int), .int .u32 (b' : Int), .int .u32 (c' : Int)] 77)) w.heap.size #[.int .i64 0, .int .i64 0, .int .i64 0, .int .i64 0] 50) := (HR2.out.next hb3).alloc _
  have HB3 : Hid (Below w.heap.size w (w3.alloc (.cells #[.int .u32 (a' : Int), .int .u32 (b' : Int), .int .u32 (c' : Int)] 77))) := (bel_step HB2.out hb3).alloc (bel_step HB2.out hb3).size _
  have hN3 := Blk.new w3 #[.int .u32 (a' : Int), .int .u32 (b' : Int), .int .u32 (c' : Int)] 77
  have HW3 : Hid (WN a' b' c' (V / 97)) := hw3
  clear hb3 n0 n1 n2 HR2 HB2 HW HC hw3
  have HT3 : Hid (TTab (w3.alloc (.cells #[.int .u32 (a' : Int), .int .u32 (b' : Int), .int .u32 (c' : Int)] 77))) := HT0.out.below HB3.out
  have m0 := hN3.cell 0
  have m1 := hN3.cell 1
  have m2 := hN3.cell 2
  clear hN3
  go_wp2_with fail
  refine (unpack_any a' b' c' (V / 97) _ HW3.out HT3.out).mono ?_
  rintro e w4 ⟨he4, hb4⟩
  have HE4 : Hid (e = .returned (tokOf (V / 97)).v) := he4
  clear he4
  rw [HK.out] at HE4
  unfold Tok.v at HE4
  obtain rfl := HE4.out
  clear HE4
  have HR4 : Hid (Blk (w4.alloc (.cells #[.int .i64 (k.c : Int), .int .i64 (k.i : Int), .int .i64 (k.a : Int), .int .i64 (k.t : Int)] 50)) w.heap.size #[.int .i64 0, .int .i64 0, .int .i64 0, .int .i64 0] 50) := (HR3.out.next hb4).alloc _
  have HB4 : Hid (Below w.heap.size w (w4.alloc (.cells #[.int .i64 (k.c : Int), .int .i64 (k.i : Int), .int .i64 (k.a : Int), .int .i64 (k.t : Int)] 50))) := (bel_step HB3.out hb4).alloc (bel_step HB3.out hb4).size _
  have hK4 := Blk.new w4 #[.int .i64 (k.c : Int), .int .i64 (k.i : Int), .int .i64 (k.a : Int), .int .i64 (k.t : Int)] 50
  have HK4 : Hid (Blk (w4.alloc (.cells #[.int .i64 (k.c : Int), .int .i64 (k.i : Int), .int .i64 (k.a : Int), .int .i64 (k.t : Int)] 50)) w4.heap.size #[.int .i64 (k.c : Int), .int .i64 (k.i : Int), .int .i64 (k.a : Int), .int .i64 (k.t : Int)] 50) := hK4
  have HT4 : Hid (TTab (w4.alloc (.cells #[.int .i64 (k.c : Int), .int .i64 (k.i : Int), .int .i64 (k.a : Int), .int .i64 (k.t : Int)] 50))) := HT0.out.below HB4.out
  have k0 := hK4.cell 0
  have k1 := hK4.cell 1
  have k2 := hK4.cell 2
  have k3 := hK4.cell 3
  clear hb4 m0 m1 m2 HR3 HB3 HT3 HW3 hK4
  go_wp2_with fail
  refine (HFL.out _ HT4.out).mono ?_
  rintro e w5 ⟨rfl, hb5⟩
  have hR := HR4.out.next hb5
  have hB := bel_step HB4.out hb5
  have hK5 := HK4.out.next hb5
  have l0 := hK5.cell 0
  have l1 := hK5.cell 1
  have l2 := hK5.cell 2
  have l3 := hK5.cell 3
  clear hb5 k0 k1 k2 k3 HR4 HB4 HT4 HK4 HFL hK5
  have RR := blk_set4 (w := w) hR ((k.c : Int)) ((k.i : Int)) ((k.a : Int)) ((k.t : Int))
  have HBB : Hid (Below w.heap.size w (((((w5).setCell ⟨w.heap.size, 0, none⟩ (.int .i64 (k.c : Int))).setCell ⟨w.heap.size, 1, none⟩ (.int .i64 (k.i : Int))).setCell ⟨w.heap.size, 2, none⟩ (.int .i64 (k.a : Int))).setCell ⟨w.heap.size, 3, none⟩ (.int .i64 (k.t : Int)))) := bel_set4 hB ((k.c : Int)) ((k.i : Int)) ((k.a : Int)) ((k.t : Int))
  have R0 : Hid (_ = _) := RR.cell 0
  have R1 : Hid (_ = _) := RR.cell 1
  have R2 : Hid (_ = _) := RR.cell 2
  have R3 : Hid (_ = _) := RR.cell 3
  have p0 := hR.cell 0
  have p1 := hR.cell 1
  have p2 := hR.cell 2
  have p3 := hR.cell 3
  have f0 := hR.free 0
  have f1 := hR.free 1
  have f2 := hR.free 2
  have f3 := hR.free 3
  clear RR hR hB
  go_wp2_with fail
  refine bodyPost_ret (v := .tuple #[.agg #[.int .i64 (k.c : Int), .int .i64 (k.i : Int), .int .i64 (k.a : Int), .int .i64 (k.t : Int)], .int .i64 0]) (by simp [results, Tryz.results18, R0.out, R1.out, R2.out, R3.out, go_sem]) rfl ⟨rfl, HBB.out⟩

/-- What Parse answers, at every text. -/
theorem parse_any (s : ByteArray) (w : World) (ht : TTab w) :
    Calls Tryz.prog 18 #[.string s] w fun e w' => e = .returned (.tuple #[parseV s.data.toList, .int .i64 (parseE s.data.toList)]) ∧ Below w.heap.size w w' := by
  have hl := len_eq s
  by_cases h : s.size = 20
  · cases h1 : allD s.data.toList with
    | false =>
      obtain ⟨e1, e2⟩ := parse_dig (l := s.data.toList) (by omega) h1
      rw [e1, e2]; exact parse_7 s w h h1
    | true =>
      by_cases h2 : dv s.data.toList < 73786976294838206464
      · by_cases h3 : dv s.data.toList % 97 = 0
        · cases h4 : okB (tokOf (dv s.data.toList / 97)) with
          | false =>
            obtain ⟨e1, e2⟩ := parse_no (l := s.data.toList) (by omega) h1 h2 h3 h4
            rw [e1, e2]
            exact parse_2 s _ w ht h h1 rfl h2 h3 _ rfl (fun hk => by rw [okB_ok.2 hk] at h4; cases h4)
          | true =>
            obtain ⟨e1, e2⟩ := Go.Proofs.YtlicdeppfhmfjabGreatDoor.token.parse_ok (l := s.data.toList) (by omega) h1 h2 h3 h4
            rw [e1, e2]
            exact parse_0 s _ w ht h h1 rfl h2 h3 _ rfl (okB_ok.1 h4)
        · obtain ⟨e1, e2⟩ := parse_chk (l := s.data.toList) (by omega) h1 h2 h3
          rw [e1, e2]; exact parse_8 s _ w ht h h1 rfl h2 h3
      · obtain ⟨e1, e2⟩ := parse_big (l := s.data.toList) (by omega) h1 (by omega)
        rw [e1, e2]; exact parse_big2 s _ w ht h h1 rfl (by omega)
  · obtain ⟨e1, e2⟩ := parse_len (l := s.data.toList) (by omega)
    rw [e1, e2]; exact parse_6 s w h

end Go.Proofs.YtlicdeppfhmfjabGreatDoor.token
