/- The document's words of a token. -/
import Derived.Test.YtmpjmcfgikmgnaaDoorTkNum
import Derived.Test.YtmpjmcfgikmgnaaDoorTkBody
namespace Go.Proofs.YtmpjmcfgikmgnaaDoor.token
open Go.Proofs.YtmpjmcfgikmgnaaDoor.words
open Go.RowKit
set_option maxRecDepth 100000
set_option linter.unusedSimpArgs false
set_option linter.unusedVariables false

set_option maxHeartbeats 400000 in
theorem refWords_no (c i a t : Int) (w : World) (h : flawT c i a t ≠ 0) :
    Calls Tryd.prog 12 #[.agg #[.int .i64 c, .int .i64 i, .int .i64 a, .int .i64 t]] w fun e w' => e = .returned (.tuple #[.agg #[.int .u32 0, .int .u32 0, .int .u32 0], .int .i64 (flawT c i a t)]) ∧ Below w.heap.size w w' := by
  have HF : Hid (∀ W, Calls Tryd.prog 21 #[.agg #[.int .i64 c, .int .i64 i, .int .i64 a, .int .i64 t]] W fun e w' => e = .returned (.int .i64 (flawT c i a t)) ∧ Below W.heap.size W w') := fun W => fault_any c i a t W
  have hd : (flawT c i a t != 0) = true := by simpa using h
  have hb0 : Below w.heap.size w ((w.alloc (.cells #[.int .i64 c, .int .i64 i, .int .i64 a, .int .i64 t] 23)).alloc (.cells #[.int .u32 0, .int .u32 0, .int .u32 0] 30)) := (bel_box _ _).alloc (by simp) _
  have HB : Hid (Below w.heap.size w ((w.alloc (.cells #[.int .i64 c, .int .i64 i, .int .i64 a, .int .i64 t] 23)).alloc (.cells #[.int .u32 0, .int .u32 0, .int .u32 0] 30))) := hb0
  have HX : Hid (Blk ((w.alloc (.cells #[.int .i64 c, .int .i64 i, .int .i64 a, .int .i64 t] 23)).alloc (.cells #[.int .u32 0, .int .u32 0, .int .u32 0] 30)) (w.heap.size + 1) #[.int .u32 0, .int .u32 0, .int .u32 0] 30) := Blk.new1 _ _ _ _
  clear h hb0
  generalize flawT c i a t = f at *
  go_enter Tryd.func12, Tryd.ntmps12
  go_wp2_with fail
  refine (HF.out _).mono ?_
  rintro e w1 ⟨rfl, hb1⟩
  have hX := HX.out.next hb1
  have hB1 := bel_step HB.out hb1
  have HB1 : Hid (Below w.heap.size w (((w1.setCell ⟨w.heap.size + 1, 0, none⟩ (.int .u32 0)).setCell ⟨w.heap.size + 1, 1, none⟩ (.int .u32 0)).setCell ⟨w.heap.size + 1, 2, none⟩ (.int .u32 0))) := bel_set (bel_set (bel_set hB1 _ _ _ (by omega)) _ _ _ (by omega)) _ _ _ (by omega)
  have RR : Blk (((w1.setCell ⟨w.heap.size + 1, 0, none⟩ (.int .u32 0)).setCell ⟨w.heap.size + 1, 1, none⟩ (.int .u32 0)).setCell ⟨w.heap.size + 1, 2, none⟩ (.int .u32 0)) (w.heap.size + 1) #[.int .u32 0, .int .u32 0, .int .u32 0] 30 := ((hX.set 0 _).set 1 _).set 2 _
  have R0 : Hid (_ = _) := RR.cell 0
  have R1 : Hid (_ = _) := RR.cell 1
  have R2 : Hid (_ = _) := RR.cell 2
  have x0 := hX.cell 0
  have x1 := hX.cell 1
  have x2 := hX.cell 2
  have f0 := hX.free 0
  have f1 := hX.free 1
  have f2 := hX.free 2
  clear hb1 HF HB HX hX RR hB1
  go_wp2_with fail
  refine bodyPost_ret (v := .tuple #[.agg #[.int .u32 0, .int .u32 0, .int .u32 0], .int .i64 f]) (by simp [results, Tryd.results12, R0.out, R1.out, R2.out, go_sem]) rfl ⟨rfl, HB1.out⟩

set_option maxHeartbeats 400000 in
theorem refWords_ok (k : Tok) (w : World) (hk : k.ok) :
    Calls Tryd.prog 12 #[k.v] w fun e w' => WordsPost w k e w' := by
  have HF : Hid (∀ W, Calls Tryd.prog 21 #[.agg #[.int .i64 (k.c : Int), .int .i64 (k.i : Int), .int .i64 (k.a : Int), .int .i64 (k.t : Int)]] W fun e w' => e = .returned (.int .i64 0) ∧ Below W.heap.size W w') := fun W => by
    have := fault_any k.c k.i k.a k.t W
    rwa [flaw_tok.2 hk] at this
  have HP : Hid (∀ W, Calls Tryd.prog 24 #[.agg #[.int .i64 (k.c : Int), .int .i64 (k.i : Int), .int .i64 (k.a : Int), .int .i64 (k.t : Int)]] W fun e w' => NewPost W (k.num * 97) e w') := fun W => number_any k W hk
  have HQ : Hid (∀ (n : Nat) W, Bg W n (k.num * 97) → Calls Tryd.prog 23 #[.pointer (some ⟨n, 0, none⟩)] W fun e w' => ∃ a b c : Nat, e = .returned (.tuple #[.agg #[.int .u32 (a : Int), .int .u32 (b : Int), .int .u32 (c : Int)], .int .u32 0]) ∧ WN a b c (k.num * 97) ∧ Below W.heap.size W w') := fun n W hW => wide_wn n _ W hW (by have := num_bd hk; omega)
  have hb0 : Below w.heap.size w ((w.alloc (.cells #[.int .i64 (k.c : Int), .int .i64 (k.i : Int), .int .i64 (k.a : Int), .int .i64 (k.t : Int)] 23)).alloc (.cells #[.int .u32 0, .int .u32 0, .int .u32 0] 30)) := (bel_box _ _).alloc (by simp) _
  have HB : Hid (Below w.heap.size w ((w.alloc (.cells #[.int .i64 (k.c : Int), .int .i64 (k.i : Int), .int .i64 (k.a : Int), .int .i64 (k.t : Int)] 23)).alloc (.cells #[.int .u32 0, .int .u32 0, .int .u32 0] 30))) := hb0
  have HR : Hid (Blk ((w.alloc (.cells #[.int .i64 (k.c : Int), .int .i64 (k.i : Int), .int .i64 (k.a : Int), .int .i64 (k.t : Int)] 23)).alloc (.cells #[.int .u32 0, .int .u32 0, .int .u32 0] 30)) (w.heap.size + 1) #[.int .u32 0, .int .u32 0, .int .u32 0] 30) := Blk.new1 _ _ _ _
  have HX : Hid (Blk ((w.alloc (.cells #[.int .i64 (k.c : Int), .int .i64 (k.i : Int), .int .i64 (k.a : Int), .int .i64 (k.t : Int)] 23)).alloc (.cells #[.int .u32 0, .int .u32 0, .int .u32 0] 30)) w.heap.size #[.int .i64 (k.c : Int), .int .i64 (k.i : Int), .int .i64 (k.a : Int), .int .i64 (k.t : Int)] 23) := (Blk.new _ _ _).alloc _
  clear hk hb0
  unfold Tok.v
  go_enter Tryd.func12, Tryd.ntmps12
  go_wp2_with fail
  refine (HF.out _).mono ?_
  rintro e w1 ⟨rfl, hb1⟩
  have HB1 : Hid (Below w.heap.size w w1) := bel_step HB.out hb1
  have HR1 : Hid (Blk w1 (w.heap.size + 1) #[.int .u32 0, .int .u32 0, .int .u32 0] 30) := HR.out.next hb1
  have hX := HX.out.next hb1
  have x0 := hX.cell 0
  have x1 := hX.cell 1
  have x2 := hX.cell 2
  have x3 := hX.cell 3
  clear hb1 HF HB HX hX HR
  go_wp2_with fail
  refine (HP.out _).mono ?_
  rintro e w2 ⟨z, rfl, hz, hwn, hb2⟩
  have HB2 : Hid (Below w.heap.size w w2) := bel_step HB1.out hb2
  have HR2 : Hid (Blk w2 (w.heap.size + 1) #[.int .u32 0, .int .u32 0, .int .u32 0] 30) := HR1.out.next hb2
  have HN : Hid (Bg w2 z (k.num * 97)) := hwn
  clear hb2 hwn hz HB1 HP x0 x1 x2 x3 HR1
  go_wp2_with fail
  refine (HQ.out _ _ HN.out).mono ?_
  rintro e w3 ⟨a', b', c', rfl, hwn, hb3⟩
  have hB3 := (bel_step HB2.out hb3).alloc (bel_step HB2.out hb3).size (.cells #[.int .u32 (a' : Int), .int .u32 (b' : Int), .int .u32 (c' : Int)] 30)
  have hR3 := (HR2.out.next hb3).alloc (.cells #[.int .u32 (a' : Int), .int .u32 (b' : Int), .int .u32 (c' : Int)] 30)
  have HN3 : Hid (WN a' b' c' (k.num * 97)) := hwn
  clear hb3 HB2 HQ HR2 HN hwn
  have HB4 : Hid (Below w.heap.size w ((((w3.alloc (.cells #[.int .u32 (a' : Int), .int .u32 (b' : Int), .int .u32 (c' : Int)] 30)).setCell ⟨w.heap.size + 1, 0, none⟩ (.int .u32 (a' : Int))).setCell ⟨w.heap.size + 1, 1, none⟩ (.int .u32 (b' : Int))).setCell ⟨w.heap.size + 1, 2, none⟩ (.int .u32 (c' : Int)))) := bel_set (bel_set (bel_set hB3 _ _ _ (by omega)) _ _ _ (by omega)) _ _ _ (by omega)
  have RR : Blk ((((w3.alloc (.cells #[.int .u32 (a' : Int), .int .u32 (b' : Int), .int .u32 (c' : Int)] 30)).setCell ⟨w.heap.size + 1, 0, none⟩ (.int .u32 (a' : Int))).setCell ⟨w.heap.size + 1, 1, none⟩ (.int .u32 (b' : Int))).setCell ⟨w.heap.size + 1, 2, none⟩ (.int .u32 (c' : Int))) (w.heap.size + 1) #[.int .u32 (a' : Int), .int .u32 (b' : Int), .int .u32 (c' : Int)] 30 := ((hR3.set 0 _).set 1 _).set 2 _
  have R0 : Hid (_ = _) := RR.cell 0
  have R1 : Hid (_ = _) := RR.cell 1
  have R2 : Hid (_ = _) := RR.cell 2
  have x0 := hR3.cell 0
  have x1 := hR3.cell 1
  have x2 := hR3.cell 2
  have f0 := hR3.free 0
  have f1 := hR3.free 1
  have f2 := hR3.free 2
  clear RR hR3 hB3
  go_wp2_with fail
  refine bodyPost_ret (v := .tuple #[.agg #[.int .u32 (a' : Int), .int .u32 (b' : Int), .int .u32 (c' : Int)], .int .i64 0]) (by simp [results, Tryd.results12, R0.out, R1.out, R2.out, go_sem]) rfl ⟨a', b', c', rfl, HN3.out, HB4.out⟩

end Go.Proofs.YtmpjmcfgikmgnaaDoor.token
