/- The document's number of a token. -/
import Derived.Test.YtmpjmcfgikmgnaaDoorTkBodyR
import Derived.Test.YtmpjmcfgikmgnaaDoorTkPack
import Derived.Test.YtmpjmcfgikmgnaaDoorBigM4
namespace Go.Proofs.YtmpjmcfgikmgnaaDoor.token
open Go.Proofs.YtmpjmcfgikmgnaaDoor.words
open Go.RowKit
set_option maxRecDepth 100000
set_option linter.unusedSimpArgs false
set_option linter.unusedVariables false

theorem blk_ex {w w' : World} {G z : Nat} {cs : Array Value} {t : TypeId} (h : Blk w G cs t) (he : Ex w w' z) (hne : G ≠ z) : Blk w' G cs t := by
  have hl := h.lt
  unfold Blk at *
  rw [he.block G hl hne]; exact h

set_option maxHeartbeats 1000000 in
theorem number_abs (k : Tok) (B M1 M2 M3 : Nat) (w : World)
    (HF : Hid (∀ W, Calls Tryd.prog 10 #[.agg #[.int .i64 (k.c : Int), .int .i64 (k.i : Int), .int .i64 (k.a : Int), .int .i64 (k.t : Int)]] W fun e w' => e = .returned (.tuple #[.int .i64 (B : Int), .int .i64 0]) ∧ Below W.heap.size W w'))
    (HE : Hid (B * 65536 = M1 ∧ M1 + k.t = M2 ∧ M2 * 97 = M3)) (hB : B < 9223372036854775808) (ht : k.t < 9223372036854775808)
    (HL : Hid ((dig B).length ≤ 100 ∧ (dig 65536).length ≤ 100 ∧ (dig M1).length ≤ 100 ∧ (dig k.t).length ≤ 100 ∧ (dig M2).length ≤ 100 ∧ (dig 97).length ≤ 100)) :
    Calls Tryd.prog 24 #[k.v] w fun e w' => NewPost w M3 e w' := by
  have HB0 : Hid (Below w.heap.size w (w.alloc (.cells #[.int .i64 (k.c : Int), .int .i64 (k.i : Int), .int .i64 (k.a : Int), .int .i64 (k.t : Int)] 23))) := (Below.refl _ _).alloc (Nat.le_refl _) _
  have HX0 : Hid (Blk (w.alloc (.cells #[.int .i64 (k.c : Int), .int .i64 (k.i : Int), .int .i64 (k.a : Int), .int .i64 (k.t : Int)] 23)) w.heap.size #[.int .i64 (k.c : Int), .int .i64 (k.i : Int), .int .i64 (k.a : Int), .int .i64 (k.t : Int)] 23) := Blk.new _ _ _
  unfold Tok.v
  go_enter Tryd.func24, Tryd.ntmps24
  go_wp2_with fail
  refine (HF.out _).mono ?_
  rintro e w1 ⟨rfl, hb1⟩
  have HB1 : Hid (Below w.heap.size w w1) := bel_step HB0.out hb1
  have HX1 : Hid (Blk w1 w.heap.size #[.int .i64 (k.c : Int), .int .i64 (k.i : Int), .int .i64 (k.a : Int), .int .i64 (k.t : Int)] 23) := HX0.out.next hb1
  clear hb1 HB0 HX0 HF
  go_wp2_with fail
  refine (newInt_any B _ hB).mono ?_
  rintro e w2 ⟨z, rfl, hz, hg2, hb2⟩
  have HB2 : Hid (Below w.heap.size w w2) := bel_step HB1.out hb2
  have HX2 : Hid (Blk w2 w.heap.size #[.int .i64 (k.c : Int), .int .i64 (k.i : Int), .int .i64 (k.a : Int), .int .i64 (k.t : Int)] 23) := HX1.out.next hb2
  have HZ : Hid (w.heap.size < z) := Nat.lt_of_lt_of_le HX1.out.lt hz
  have HG2 : Hid (Bg w2 z B) := hg2
  clear hb2 hg2 hz HB1 HX1
  go_wp2_with fail
  refine (newInt_any 65536 _ (by decide)).mono ?_
  rintro e w3 ⟨q3, rfl, hq3, hg3, hb3⟩
  have HB3 : Hid (Below w.heap.size w w3) := bel_step HB2.out hb3
  have HX3 : Hid (Blk w3 w.heap.size #[.int .i64 (k.c : Int), .int .i64 (k.i : Int), .int .i64 (k.a : Int), .int .i64 (k.t : Int)] 23) := HX2.out.next hb3
  have N3 := HG2.out.below hb3
  have nl := HG2.out.ob.lt
  have ne3 : q3 ≠ z := by omega
  have HG3 : Hid (Bg w3 z B) := N3
  have HQ3 : Hid (Bg w3 q3 65536) := hg3
  clear hb3 hg3 hq3 HB2 HX2 N3 nl HG2
  go_wp2_with fail
  refine (Mul_any z z q3 B 65536 _ HG3.out HQ3.out HG3.out.ob ne3 HL.out.1 HL.out.2.1).mono ?_
  rintro e w4 ⟨rfl, hg4, hx4⟩
  rw [HE.out.1] at hg4
  have HB4 : Hid (Below w.heap.size w w4) := hx4.below HB3.out (by have := HZ.out; omega)
  have HX4 : Hid (Blk w4 w.heap.size #[.int .i64 (k.c : Int), .int .i64 (k.i : Int), .int .i64 (k.a : Int), .int .i64 (k.t : Int)] 23) := blk_ex HX3.out hx4 (by have := HZ.out; omega)
  have HG4 : Hid (Bg w4 z M1) := hg4
  have x3 := HX4.out.cell 3
  clear hg4 hx4 ne3 HB3 HX3 HG3 HQ3
  go_wp2_with fail
  refine (newInt_any k.t _ ht).mono ?_
  rintro e w5 ⟨q5, rfl, hq5, hg5, hb5⟩
  have HB5 : Hid (Below w.heap.size w w5) := bel_step HB4.out hb5
  have N5 := HG4.out.below hb5
  have nl := HG4.out.ob.lt
  have ne5 : q5 ≠ z := by omega
  have HG5 : Hid (Bg w5 z M1) := N5
  have HQ5 : Hid (Bg w5 q5 k.t) := hg5
  clear hb5 hg5 hq5 HB4 HX4 N5 nl HG4 x3
  go_wp2_with fail
  refine (Add_any z z q5 M1 k.t _ HG5.out HQ5.out HG5.out.ob ne5 HL.out.2.2.1 HL.out.2.2.2.1).mono ?_
  rintro e w6 ⟨rfl, hg6, hx6⟩
  rw [HE.out.2.1] at hg6
  have HB6 : Hid (Below w.heap.size w w6) := hx6.below HB5.out (by have := HZ.out; omega)
  have HG6 : Hid (Bg w6 z M2) := hg6
  clear hg6 hx6 ne5 HB5 HG5 HQ5
  go_wp2_with fail
  refine (newInt_any 97 _ (by decide)).mono ?_
  rintro e w7 ⟨q7, rfl, hq7, hg7, hb7⟩
  have HB7 : Hid (Below w.heap.size w w7) := bel_step HB6.out hb7
  have N7 := HG6.out.below hb7
  have nl := HG6.out.ob.lt
  have ne7 : q7 ≠ z := by omega
  have HG7 : Hid (Bg w7 z M2) := N7
  have HQ7 : Hid (Bg w7 q7 97) := hg7
  clear hb7 hg7 hq7 HB6 N7 nl HG6
  go_wp2_with fail
  refine (Mul_any z z q7 M2 97 _ HG7.out HQ7.out HG7.out.ob ne7 HL.out.2.2.2.2.1 HL.out.2.2.2.2.2).mono ?_
  rintro e w8 ⟨rfl, hg8, hx8⟩
  rw [HE.out.2.2] at hg8
  have HB8 : Hid (Below w.heap.size w w8) := hx8.below HB7.out (by have := HZ.out; omega)
  have HG8 : Hid (Bg w8 z M3) := hg8
  clear hg8 hx8 ne7 HB7 HG7 HQ7
  go_wp2_with fail
  go_ret
  exact NewPost.mk (by have := HZ.out; omega) HG8.out HB8.out

theorem number_any (k : Tok) (w : World) (hk : k.ok) :
    Calls Tryd.prog 24 #[k.v] w fun e w' => NewPost w (k.num * 97) e w' := by
  have hb := body_bd hk
  have hn := num_lt hk
  have ht := hk.t2
  have he : k.body * 65536 + k.t = k.num := by unfold Tok.body Tok.num; omega
  have hs : ∀ m, m < 4294967296 ^ 8 → (dig m).length ≤ 100 := fun m hm => len100 hm
  refine number_abs k k.body (k.body * 65536) k.num (k.num * 97) w (fun W => bodyOf_ok k W hk) ⟨rfl, he, rfl⟩ (by omega) (by omega) ⟨hs _ (Nat.lt_of_le_of_lt hb (by decide)), hs _ (by decide), hs _ (Nat.lt_of_le_of_lt (show k.body * 65536 ≤ 8796093022207 * 65536 by omega) (by decide)), hs _ (Nat.lt_of_le_of_lt ht (by decide)), hs _ (Nat.lt_trans hn (by decide)), hs _ (by decide)⟩

theorem wide_wn (n m : Nat) (w : World) (hg : Bg w n m) (hm : m < 79228162514264337593543950336) :
    Calls Tryd.prog 23 #[.pointer (some ⟨n, 0, none⟩)] w fun e w' => ∃ a b c : Nat, e = .returned (.tuple #[.agg #[.int .u32 (a : Int), .int .u32 (b : Int), .int .u32 (c : Int)], .int .u32 0]) ∧ WN a b c m ∧ Below w.heap.size w w' := by
  have hl : ∀ k, k < 79228162514264337593543950336 → (dig k).length ≤ 60 := fun k hk => by
    have := dig_len (m := k) 4 (by omega)
    omega
  have h3 : m / 4294967296 / 4294967296 / 4294967296 = 0 := by omega
  have := wide96_abs n m _ _ _ _ _ _ w hg ⟨rfl, rfl, rfl, rfl, rfl, rfl⟩ (Nat.mod_lt _ (by decide)) (Nat.mod_lt _ (by decide)) (Nat.mod_lt _ (by decide)) (by omega) ⟨hl _ hm, hl _ (by omega), hl _ (by omega)⟩
  rw [h3] at this
  refine this.mono ?_
  rintro e w' ⟨he, hb⟩
  exact ⟨_, _, _, he, ⟨by omega, by omega, by omega, by unfold bigV; omega⟩, hb⟩
theorem wn_inj {a b c a' b' c' V : Nat} (h : WN a b c V) (h' : WN a' b' c' V) : a = a' ∧ b = b' ∧ c = c' := by
  have := h.a1; have := h.b1; have := h.c1; have := h'.a1; have := h'.b1; have := h'.c1
  have h1 := h.val; have h2 := h'.val
  unfold bigV at h1 h2
  omega

end Go.Proofs.YtmpjmcfgikmgnaaDoor.token
