/- What Body and Words give back. -/
import Derived.Test.YtmpjmcfgikmgnaaDoorTkUnpack
import Derived.Test.YtmpjmcfgikmgnaaDoorTkFlaw2
import Derived.Test.YtmpjmcfgikmgnaaDoorTimes
namespace Go.Proofs.YtmpjmcfgikmgnaaDoor.token
open Go.Proofs.YtmpjmcfgikmgnaaDoor.words
open Go.RowKit
set_option linter.unusedSimpArgs false

theorem bel_box (w : World) (o : Obj) : Below w.heap.size w (w.alloc o) := (Below.refl _ _).alloc (Nat.le_refl _) o

/-- Three words as a wide number, and back. -/
theorem wn_ok {a b c V : Nat} (h : WN a b c V) : W3.ok ⟨a, b, c⟩ ∧ W3.val ⟨a, b, c⟩ = V := by
  have h1 := h.a1; have h2 := h.b1; have h3 := h.c1
  have h4 := h.val
  refine ⟨⟨⟨by show (0 : Int) ≤ a; omega, by show (a : Int) < _; omega⟩, ⟨by show (0 : Int) ≤ b; omega, by show (b : Int) < _; omega⟩, by show (0 : Int) ≤ c; omega, by show (c : Int) < _; omega⟩, ?_⟩
  unfold bigV at h4
  unfold W3.val
  simp only
  omega
theorem wn_of {X : W3} (h : X.ok) {V : Nat} (hV : X.val = V) : ∃ a b c : Nat, X = ⟨a, b, c⟩ ∧ WN a b c V := by
  obtain ⟨x, y, z⟩ := X
  obtain ⟨⟨h0, h0'⟩, ⟨h1, h1'⟩, h2, h2'⟩ := h
  simp only at *
  obtain ⟨a, rfl⟩ := Int.eq_ofNat_of_zero_le h0
  obtain ⟨b, rfl⟩ := Int.eq_ofNat_of_zero_le h1
  obtain ⟨c, rfl⟩ := Int.eq_ofNat_of_zero_le h2
  refine ⟨a, b, c, rfl, by omega, by omega, by omega, ?_⟩
  unfold W3.val at hV
  unfold bigV
  simp only at hV
  omega
theorem times_wn (a b c V m : Nat) (w : World) (h : WN a b c V) (hm : m < 4294967296) (hv : V * m < 79228162514264337593543950336) :
    Calls Tryd.prog 22 #[.agg #[.int .u32 (a : Int), .int .u32 (b : Int), .int .u32 (c : Int)], .int .u32 (m : Int)] w fun e w' =>
      ∃ (a' b' c' : Nat) (o : Int), e = .returned (.tuple #[.agg #[.int .u32 (a' : Int), .int .u32 (b' : Int), .int .u32 (c' : Int)], .int .u32 o]) ∧ WN a' b' c' (V * m) ∧ Below w.heap.size w w' := by
  have hk := wn_ok h
  have ht := times_any ⟨a, b, c⟩ m w hk.1 (by omega) (by omega)
  obtain ⟨a', b', c', he, hn⟩ := wn_of (X := timesW ⟨a, b, c⟩ m) (carry3_ok _ _ _) (V := V * m) (by
    rw [times_mod, hk.2]
    unfold top
    rw [← Int.natCast_mul, Int.emod_eq_of_lt (by omega) (by omega)])
  refine ht.mono ?_
  rintro e w' ⟨rfl, hb⟩
  exact ⟨a', b', c', _, by rw [he], hn, hb⟩

set_option maxHeartbeats 400000 in
theorem body_no (c i a t : Int) (w : World) (ht : TTab w) (h : flawT c i a t ≠ 0) :
    Calls Tryd.prog 9 #[.agg #[.int .i64 c, .int .i64 i, .int .i64 a, .int .i64 t]] w fun e w' => e = .returned (.tuple #[.int .i64 0, .int .i64 (flawT c i a t)]) ∧ Below w.heap.size w w' := by
  have HF : Hid (∀ W, TTab W → Calls Tryd.prog 18 #[.agg #[.int .i64 c, .int .i64 i, .int .i64 a, .int .i64 t]] W fun e w' => e = .returned (.int .i64 (flawT c i a t)) ∧ Below W.heap.size W w') := fun W hW => flaw_any c i a t W hW
  have hd : (flawT c i a t != 0) = true := by simpa using h
  have HB : Hid (Below w.heap.size w (w.alloc (.cells #[.int .i64 c, .int .i64 i, .int .i64 a, .int .i64 t] 23))) := bel_box _ _
  have HT : Hid (TTab (w.alloc (.cells #[.int .i64 c, .int .i64 i, .int .i64 a, .int .i64 t] 23))) := ht.below (bel_box _ _)
  clear ht h
  generalize flawT c i a t = f at *
  go_enter Tryd.func9, Tryd.ntmps9
  go_wp2_with fail
  refine (HF.out _ HT.out).mono ?_
  rintro e w1 ⟨rfl, hb1⟩
  have HB1 : Hid (Below w.heap.size w w1) := bel_step HB.out hb1
  clear hb1 HF HB HT
  go_wp2_with fail
  refine bodyPost_ret (v := .tuple #[.int .i64 0, .int .i64 f]) (by simp [results, Tryd.results9, go_sem]) rfl ⟨rfl, HB1.out⟩

set_option maxHeartbeats 400000 in
theorem body_ok (k : Tok) (w : World) (ht : TTab w) (hk : k.ok) :
    Calls Tryd.prog 9 #[k.v] w fun e w' => e = .returned (.tuple #[.int .i64 (k.body : Int), .int .i64 0]) ∧ Below w.heap.size w w' := by
  have HF : Hid (∀ W, TTab W → Calls Tryd.prog 18 #[.agg #[.int .i64 (k.c : Int), .int .i64 (k.i : Int), .int .i64 (k.a : Int), .int .i64 (k.t : Int)]] W fun e w' => e = .returned (.int .i64 0) ∧ Below W.heap.size W w') := fun W hW => by
    have := flaw_any k.c k.i k.a k.t W hW
    rwa [flaw_tok.2 hk] at this
  have HP : Hid (∀ W, TTab W → Calls Tryd.prog 20 #[.agg #[.int .i64 (k.c : Int), .int .i64 (k.i : Int), .int .i64 (k.a : Int), .int .i64 (k.t : Int)]] W fun e w' => PackPost W k e w') := fun W hW => pack_any k W hk hW
  have HQ : Hid (∀ (x y z : Nat) W, WN x y z k.num → Calls Tryd.prog 19 #[.agg #[.int .u32 (x : Int), .int .u32 (y : Int), .int .u32 (z : Int)], .int .i64 16, .int .i64 43] W fun e w' => e = .returned (.tuple #[.int .u64 (k.body : Int), .int .i64 0]) ∧ Below W.heap.size W w') := fun x y z W hW => by
    have := bits_wn x y z 16 43 k.num W hW (by omega) (by omega) (by omega)
    rwa [show k.num / 2 ^ 16 % 2 ^ 43 = k.body from body_num hk] at this
  have hwr : IntKind.i64.wrap (k.body : Int) = (k.body : Int) := wrap_i _ (by have := body_bd hk; omega)
  have HT : Hid (TTab (w.alloc (.cells #[.int .i64 (k.c : Int), .int .i64 (k.i : Int), .int .i64 (k.a : Int), .int .i64 (k.t : Int)] 23))) := ht.below (bel_box _ _)
  have HB : Hid (Below w.heap.size w (w.alloc (.cells #[.int .i64 (k.c : Int), .int .i64 (k.i : Int), .int .i64 (k.a : Int), .int .i64 (k.t : Int)] 23))) := bel_box _ _
  have HX : Hid (Blk (w.alloc (.cells #[.int .i64 (k.c : Int), .int .i64 (k.i : Int), .int .i64 (k.a : Int), .int .i64 (k.t : Int)] 23)) w.heap.size #[.int .i64 (k.c : Int), .int .i64 (k.i : Int), .int .i64 (k.a : Int), .int .i64 (k.t : Int)] 23) := Blk.new _ _ _
  clear ht hk
  unfold Tok.v
  generalize (k.body : Int) = bd at *
  go_enter Tryd.func9, Tryd.ntmps9
  go_wp2_with fail
  refine (HF.out _ HT.out).mono ?_
  rintro e w1 ⟨rfl, hb1⟩
  have HB1 : Hid (Below w.heap.size w w1) := bel_step HB.out hb1
  have HT1 : Hid (TTab w1) := HT.out.below hb1
  have hX := HX.out.next hb1
  have x0 := hX.cell 0
  have x1 := hX.cell 1
  have x2 := hX.cell 2
  have x3 := hX.cell 3
  clear hb1 HF HB HT HX hX
  go_wp2_with fail
  refine (HP.out _ HT1.out).mono ?_
  rintro e w2 ⟨x, y, z, rfl, hwn, hb2⟩
  have HB2 : Hid (Below w.heap.size w w2) := bel_step HB1.out hb2
  have HN : Hid (WN x y z k.num) := hwn
  clear hb2 hwn HB1 HT1 HP x0 x1 x2 x3
  go_wp2_with fail
  refine (HQ.out _ _ _ _ HN.out).mono ?_
  rintro e w3 ⟨rfl, hb3⟩
  have HB3 : Hid (Below w.heap.size w w3) := bel_step HB2.out hb3
  clear hb3 HB2 HQ
  go_wp2_with fail
  refine bodyPost_ret (v := .tuple #[.int .i64 bd, .int .i64 0]) (by simp [results, Tryd.results9, go_sem]) rfl ⟨rfl, HB3.out⟩

set_option maxHeartbeats 400000 in
theorem words_no (c i a t : Int) (w : World) (ht : TTab w) (h : flawT c i a t ≠ 0) :
    Calls Tryd.prog 11 #[.agg #[.int .i64 c, .int .i64 i, .int .i64 a, .int .i64 t]] w fun e w' => e = .returned (.tuple #[.agg #[.int .u32 0, .int .u32 0, .int .u32 0], .int .i64 (flawT c i a t)]) ∧ Below w.heap.size w w' := by
  have HF : Hid (∀ W, TTab W → Calls Tryd.prog 18 #[.agg #[.int .i64 c, .int .i64 i, .int .i64 a, .int .i64 t]] W fun e w' => e = .returned (.int .i64 (flawT c i a t)) ∧ Below W.heap.size W w') := fun W hW => flaw_any c i a t W hW
  have hd : (flawT c i a t != 0) = true := by simpa using h
  have hb0 : Below w.heap.size w ((w.alloc (.cells #[.int .i64 c, .int .i64 i, .int .i64 a, .int .i64 t] 23)).alloc (.cells #[.int .u32 0, .int .u32 0, .int .u32 0] 30)) := (bel_box _ _).alloc (by simp) _
  have HB : Hid (Below w.heap.size w ((w.alloc (.cells #[.int .i64 c, .int .i64 i, .int .i64 a, .int .i64 t] 23)).alloc (.cells #[.int .u32 0, .int .u32 0, .int .u32 0] 30))) := hb0
  have HT : Hid (TTab ((w.alloc (.cells #[.int .i64 c, .int .i64 i, .int .i64 a, .int .i64 t] 23)).alloc (.cells #[.int .u32 0, .int .u32 0, .int .u32 0] 30))) := ht.below hb0
  have HX : Hid (Blk ((w.alloc (.cells #[.int .i64 c, .int .i64 i, .int .i64 a, .int .i64 t] 23)).alloc (.cells #[.int .u32 0, .int .u32 0, .int .u32 0] 30)) (w.heap.size + 1) #[.int .u32 0, .int .u32 0, .int .u32 0] 30) := Blk.new1 _ _ _ _
  clear ht h hb0
  generalize flawT c i a t = f at *
  go_enter Tryd.func11, Tryd.ntmps11
  go_wp2_with fail
  refine (HF.out _ HT.out).mono ?_
  rintro e w1 ⟨rfl, hb1⟩
  have hX := HX.out.next hb1
  have hB1 := bel_step HB.out hb1
  have HB1 : Hid (Below w.heap.size w (((w1.setCell ⟨w.heap.size + 1, 0, none⟩ (.int .u32 0)).setCell ⟨w.heap.size + 1, 1, none⟩ (.int .u32 0)).setCell ⟨w.heap.size + 1, 2, none⟩ (.int .u32 0))) := bel_set (bel_set (bel_set hB1 _ _ _ (by omega)) _ _ _ (by omega)) _ _ _ (by omega)
  have RR : Blk (((w1.setCell ⟨w.heap.size + 1, 0, none⟩ (.int .u32 0)).setCell ⟨w.heap.size + 1, 1, none⟩ (.int .u32 0)).setCell ⟨w.heap.size + 1, 2, none⟩ (.int .u32 0)) (w.heap.size + 1) #[.int .u32 0, .int .u32 0, .int .u32 0] 30 := ((hX.set 0 _).set 1 _).set 2 _
  have R0 : Hid (_ = _) := RR.cell 0
  have R1 : Hid (_ = _) := RR.cell 1
  have R2 : Hid (_ = _) := RR.cell 2
  have x0 := hX.cell 0
  have x1 := hX.cell 1
  have x2 := hX.cell 2
  have f0 := hX.free 0
  have f1 := hX.free 1
  have f2 := hX.free 2
  clear hb1 HF HB HT HX hX RR hB1
  go_wp2_with fail
  refine bodyPost_ret (v := .tuple #[.agg #[.int .u32 0, .int .u32 0, .int .u32 0], .int .i64 f]) (by simp [results, Tryd.results11, R0.out, R1.out, R2.out, go_sem]) rfl ⟨rfl, HB1.out⟩

/-- What Words gives back. -/
def WordsPost (w : World) (k : Tok) (e : Ending) (w' : World) : Prop := ∃ a b c : Nat, e = .returned (.tuple #[.agg #[.int .u32 (a : Int), .int .u32 (b : Int), .int .u32 (c : Int)], .int .i64 0]) ∧ WN a b c (k.num * 97) ∧ Below w.heap.size w w'

set_option maxHeartbeats 400000 in
theorem words_ok (k : Tok) (w : World) (ht : TTab w) (hk : k.ok) :
    Calls Tryd.prog 11 #[k.v] w fun e w' => WordsPost w k e w' := by
  have HF : Hid (∀ W, TTab W → Calls Tryd.prog 18 #[.agg #[.int .i64 (k.c : Int), .int .i64 (k.i : Int), .int .i64 (k.a : Int), .int .i64 (k.t : Int)]] W fun e w' => e = .returned (.int .i64 0) ∧ Below W.heap.size W w') := fun W hW => by
    have := flaw_any k.c k.i k.a k.t W hW
    rwa [flaw_tok.2 hk] at this
  have HP : Hid (∀ W, TTab W → Calls Tryd.prog 20 #[.agg #[.int .i64 (k.c : Int), .int .i64 (k.i : Int), .int .i64 (k.a : Int), .int .i64 (k.t : Int)]] W fun e w' => PackPost W k e w') := fun W hW => pack_any k W hk hW
  have HQ : Hid (∀ (x y z : Nat) W, WN x y z k.num → Calls Tryd.prog 22 #[.agg #[.int .u32 (x : Int), .int .u32 (y : Int), .int .u32 (z : Int)], .int .u32 97] W fun e w' => ∃ (a' b' c' : Nat) (o : Int), e = .returned (.tuple #[.agg #[.int .u32 (a' : Int), .int .u32 (b' : Int), .int .u32 (c' : Int)], .int .u32 o]) ∧ WN a' b' c' (k.num * 97) ∧ Below W.heap.size W w') := fun x y z W hW =>
    times_wn x y z k.num 97 W hW (by omega) (by have := num_bd hk; omega)
  have hb0 : Below w.heap.size w ((w.alloc (.cells #[.int .i64 (k.c : Int), .int .i64 (k.i : Int), .int .i64 (k.a : Int), .int .i64 (k.t : Int)] 23)).alloc (.cells #[.int .u32 0, .int .u32 0, .int .u32 0] 30)) := (bel_box _ _).alloc (by simp) _
  have HB : Hid (Below w.heap.size w ((w.alloc (.cells #[.int .i64 (k.c : Int), .int .i64 (k.i : Int), .int .i64 (k.a : Int), .int .i64 (k.t : Int)] 23)).alloc (.cells #[.int .u32 0, .int .u32 0, .int .u32 0] 30))) := hb0
  have HT : Hid (TTab ((w.alloc (.cells #[.int .i64 (k.c : Int), .int .i64 (k.i : Int), .int .i64 (k.a : Int), .int .i64 (k.t : Int)] 23)).alloc (.cells #[.int .u32 0, .int .u32 0, .int .u32 0] 30))) := ht.below hb0
  have HR : Hid (Blk ((w.alloc (.cells #[.int .i64 (k.c : Int), .int .i64 (k.i : Int), .int .i64 (k.a : Int), .int .i64 (k.t : Int)] 23)).alloc (.cells #[.int .u32 0, .int .u32 0, .int .u32 0] 30)) (w.heap.size + 1) #[.int .u32 0, .int .u32 0, .int .u32 0] 30) := Blk.new1 _ _ _ _
  have HX : Hid (Blk ((w.alloc (.cells #[.int .i64 (k.c : Int), .int .i64 (k.i : Int), .int .i64 (k.a : Int), .int .i64 (k.t : Int)] 23)).alloc (.cells #[.int .u32 0, .int .u32 0, .int .u32 0] 30)) w.heap.size #[.int .i64 (k.c : Int), .int .i64 (k.i : Int), .int .i64 (k.a : Int), .int .i64 (k.t : Int)] 23) := (Blk.new _ _ _).alloc _
  clear ht hk hb0
  unfold Tok.v
  go_enter Tryd.func11, Tryd.ntmps11
  go_wp2_with fail
  refine (HF.out _ HT.out).mono ?_
  rintro e w1 ⟨rfl, hb1⟩
  have HB1 : Hid (Below w.heap.size w w1) := bel_step HB.out hb1
  have HT1 : Hid (TTab w1) := HT.out.below hb1
  have HR1 : Hid (Blk w1 (w.heap.size + 1) #[.int .u32 0, .int .u32 0, .int .u32 0] 30) := HR.out.next hb1
  have hX := HX.out.next hb1
  have x0 := hX.cell 0
  have x1 := hX.cell 1
  have x2 := hX.cell 2
  have x3 := hX.cell 3
  clear hb1 HF HB HT HX hX HR
  go_wp2_with fail
  refine (HP.out _ HT1.out).mono ?_
  rintro e w2 ⟨x, y, z, rfl, hwn, hb2⟩
  have HB2 : Hid (Below w.heap.size w w2) := bel_step HB1.out hb2
  have HR2 : Hid (Blk w2 (w.heap.size + 1) #[.int .u32 0, .int .u32 0, .int .u32 0] 30) := HR1.out.next hb2
  have HN : Hid (WN x y z k.num) := hwn
  clear hb2 hwn HB1 HT1 HP x0 x1 x2 x3 HR1
  go_wp2_with fail
  refine (HQ.out _ _ _ _ HN.out).mono ?_
  rintro e w3 ⟨a', b', c', o, rfl, hwn, hb3⟩
  have hB3 := (bel_step HB2.out hb3).alloc (bel_step HB2.out hb3).size (.cells #[.int .u32 (a' : Int), .int .u32 (b' : Int), .int .u32 (c' : Int)] 30)
  have hR3 := (HR2.out.next hb3).alloc (.cells #[.int .u32 (a' : Int), .int .u32 (b' : Int), .int .u32 (c' : Int)] 30)
  have HN3 : Hid (WN a' b' c' (k.num * 97)) := hwn
  clear hb3 HB2 HQ HR2 HN hwn
  have HB4 : Hid (Below w.heap.size w ((((w3.alloc (.cells #[.int .u32 (a' : Int), .int .u32 (b' : Int), .int .u32 (c' : Int)] 30)).setCell ⟨w.heap.size + 1, 0, none⟩ (.int .u32 (a' : Int))).setCell ⟨w.heap.size + 1, 1, none⟩ (.int .u32 (b' : Int))).setCell ⟨w.heap.size + 1, 2, none⟩ (.int .u32 (c' : Int)))) := bel_set (bel_set (bel_set hB3 _ _ _ (by omega)) _ _ _ (by omega)) _ _ _ (by omega)
  have RR : Blk ((((w3.alloc (.cells #[.int .u32 (a' : Int), .int .u32 (b' : Int), .int .u32 (c' : Int)] 30)).setCell ⟨w.heap.size + 1, 0, none⟩ (.int .u32 (a' : Int))).setCell ⟨w.heap.size + 1, 1, none⟩ (.int .u32 (b' : Int))).setCell ⟨w.heap.size + 1, 2, none⟩ (.int .u32 (c' : Int))) (w.heap.size + 1) #[.int .u32 (a' : Int), .int .u32 (b' : Int), .int .u32 (c' : Int)] 30 := ((hR3.set 0 _).set 1 _).set 2 _
  have R0 : Hid (_ = _) := RR.cell 0
  have R1 : Hid (_ = _) := RR.cell 1
  have R2 : Hid (_ = _) := RR.cell 2
  have x0 := hR3.cell 0
  have x1 := hR3.cell 1
  have x2 := hR3.cell 2
  have f0 := hR3.free 0
  have f1 := hR3.free 1
  have f2 := hR3.free 2
  clear RR hR3 hB3
  go_wp2_with fail
  refine bodyPost_ret (v := .tuple #[.agg #[.int .u32 (a' : Int), .int .u32 (b' : Int), .int .u32 (c' : Int)], .int .i64 0]) (by simp [results, Tryd.results11, R0.out, R1.out, R2.out, go_sem]) rfl ⟨a', b', c', rfl, HN3.out, HB4.out⟩

end Go.Proofs.YtmpjmcfgikmgnaaDoor.token
