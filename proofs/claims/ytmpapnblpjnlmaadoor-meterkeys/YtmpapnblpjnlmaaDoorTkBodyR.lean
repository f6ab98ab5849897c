/- The document's body of a token. -/
import Derived.Test.YtmpapnblpjnlmaaDoorTkRef
namespace Go.Proofs.YtmpapnblpjnlmaaDoor.token
open Go.RowKit
set_option linter.unusedSimpArgs false
set_option linter.unusedVariables false

set_option maxHeartbeats 400000 in
theorem bodyOf_no (c i a t : Int) (w : World) (h : flawT c i a t ≠ 0) :
    Calls Tryd.prog 13 #[.agg #[.int .i64 c, .int .i64 i, .int .i64 a, .int .i64 t]] w fun e w' => e = .returned (.tuple #[.int .i64 0, .int .i64 (flawT c i a t)]) ∧ Below w.heap.size w w' := by
  have HF : Hid (∀ W, Calls Tryd.prog 25 #[.agg #[.int .i64 c, .int .i64 i, .int .i64 a, .int .i64 t]] W fun e w' => e = .returned (.int .i64 (flawT c i a t)) ∧ Below W.heap.size W w') := fun W => fault_any c i a t W
  have hd : (flawT c i a t != 0) = true := by simpa using h
  have HB : Hid (Below w.heap.size w (w.alloc (.cells #[.int .i64 c, .int .i64 i, .int .i64 a, .int .i64 t] 31))) := (Below.refl _ _).alloc (Nat.le_refl _) _
  clear h
  generalize flawT c i a t = f at *
  go_enter Tryd.func13, Tryd.ntmps13
  go_wp2_with fail
  refine (HF.out _).mono ?_
  rintro e w1 ⟨rfl, hb1⟩
  have HB1 : Hid (Below w.heap.size w w1) := bel_step HB.out hb1
  clear hb1 HF HB
  go_wp2_with fail
  refine bodyPost_ret (v := .tuple #[.int .i64 0, .int .i64 f]) (by simp [results, Tryd.results13, go_sem]) rfl ⟨rfl, HB1.out⟩

set_option maxHeartbeats 400000 in
theorem bodyOf_ok (k : Tok) (w : World) (hk : k.ok) :
    Calls Tryd.prog 13 #[k.v] w fun e w' => e = .returned (.tuple #[.int .i64 (k.body : Int), .int .i64 0]) ∧ Below w.heap.size w w' := by
  have HF : Hid (∀ W, Calls Tryd.prog 25 #[.agg #[.int .i64 (k.c : Int), .int .i64 (k.i : Int), .int .i64 (k.a : Int), .int .i64 (k.t : Int)]] W fun e w' => e = .returned (.int .i64 0) ∧ Below W.heap.size W w') := fun W => by
    have := fault_any k.c k.i k.a k.t W
    rwa [flaw_tok.2 hk] at this
  have HB : Hid (Below w.heap.size w (w.alloc (.cells #[.int .i64 (k.c : Int), .int .i64 (k.i : Int), .int .i64 (k.a : Int), .int .i64 (k.t : Int)] 31))) := (Below.refl _ _).alloc (Nat.le_refl _) _
  have HX : Hid (Blk (w.alloc (.cells #[.int .i64 (k.c : Int), .int .i64 (k.i : Int), .int .i64 (k.a : Int), .int .i64 (k.t : Int)] 31)) w.heap.size #[.int .i64 (k.c : Int), .int .i64 (k.i : Int), .int .i64 (k.a : Int), .int .i64 (k.t : Int)] 31) := Blk.new _ _ _
  have EB : Hid ((k.body : Int) = (k.c : Int) * 2199023255552 + (k.i : Int) * 2097152 + (k.a : Int)) := by
    show (k.body : Int) = _
    unfold Tok.body; omega
  have h1 := hk.c3; have h2 := hk.i2; have h3 := hk.a2
  have z1 : (0 : Int) ≤ (k.c : Int) := by omega
  have z2 : (0 : Int) ≤ (k.i : Int) := by omega
  have z3 : (0 : Int) ≤ (k.a : Int) := by omega
  have y1 : (k.c : Int) ≤ 3 := by omega
  have y2 : (k.i : Int) ≤ 1048575 := by omega
  have y3 : (k.a : Int) ≤ 2097151 := by omega
  clear hk h1 h2 h3
  unfold Tok.v
  rw [EB.out]
  clear EB
  generalize (k.c : Int) = c at *
  generalize (k.i : Int) = i at *
  generalize (k.a : Int) = a at *
  generalize (k.t : Int) = t at *
  go_enter Tryd.func13, Tryd.ntmps13
  go_wp2_with fail
  refine (HF.out _).mono ?_
  rintro e w1 ⟨rfl, hb1⟩
  have HB1 : Hid (Below w.heap.size w w1) := bel_step HB.out hb1
  have hX := HX.out.next hb1
  have x0 := hX.cell 0
  have x1 := hX.cell 1
  have x2 := hX.cell 2
  clear hb1 HF HB HX hX
  go_wp2_with fail
  refine bodyPost_ret (v := .tuple #[.int .i64 (c * 2199023255552 + i * 2097152 + a), .int .i64 0]) (by simp [results, Tryd.results13, go_sem]) rfl ⟨rfl, HB1.out⟩

end Go.Proofs.YtmpapnblpjnlmaaDoor.token
