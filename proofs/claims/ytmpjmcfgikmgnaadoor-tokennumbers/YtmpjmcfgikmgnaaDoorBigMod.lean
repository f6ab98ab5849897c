/- (*Int).DivMod, whatever way the division goes, of numbers not below 0. -/
import Derived.Test.YtmpjmcfgikmgnaaDoorBigQuo
namespace Go.Proofs.YtmpjmcfgikmgnaaDoor.words
open Go.RowKit
set_option maxRecDepth 100000

theorem Ex2.from {w w1 w' : World} {z r : Nat} (hb : Below w.heap.size w w1) (h : Ex2 w1 w' z r) : Ex2 w w' z r :=
  ⟨h.os.trans hb.os, h.tape.trans hb.tape, h.output.trans hb.output, Nat.le_trans hb.size h.size, fun k hk hz hr => (h.block k (Nat.lt_of_lt_of_le hk hb.size) hz hr).trans (hb.block k hk)⟩
theorem Bg.neg {w : World} {z m : Nat} (h : Bg w z m) : w.cell? ⟨z, 0, none⟩ = some (.bool false) := let ⟨_, _, _, h0, _⟩ := h.parts; h0

set_option maxHeartbeats 2000000 in
theorem divMod_of (z x y r q t m d : Nat) (w : World) (hx : Bg w x m) (hy : Bg w y d) (hz : Ob w z) (hr : Ob w r) (hzr : r ≠ z) (hdl : (dig d).length ≤ 100)
    (hd : ∀ w' xa xn xc ya yn yc, Ru w' xa xn xc (dig m) → Ru w' ya yn yc (dig d) → Calls Tryd.prog 70 #[.slice xa xn xc, .slice ya yn yc] w' fun e w'' => DivGives w' q t e w'') :
    Calls Tryd.prog 73 #[.pointer (some ⟨z, 0, none⟩), .pointer (some ⟨x, 0, none⟩), .pointer (some ⟨y, 0, none⟩), .pointer (some ⟨r, 0, none⟩)] w fun e w' => QuoPost w z r q t e w' := by
  have hyl := hy.ob.lt
  have hb0 : Below w.heap.size w (w.alloc (.cells #[.bool false, .slice none 0 0] 61)) := (Below.refl _ w).alloc (Nat.le_refl _) _
  have HO : Hid (Ob (w.alloc (.cells #[.bool false, .slice none 0 0] 61)) w.heap.size) := ob_new w
  have HB : Hid (Below w.heap.size w (w.alloc (.cells #[.bool false, .slice none 0 0] 61))) := hb0
  have HY : Hid (Bg (w.alloc (.cells #[.bool false, .slice none 0 0] 61)) y d) := hy.below hb0
  have HW : Hid (Bg w x m ∧ Bg w y d ∧ Ob w z ∧ Ob w r) := ⟨hx, hy, hz, hr⟩
  have HD : Hid (∀ w' xa xn xc ya yn yc, Ru w' xa xn xc (dig m) → Ru w' ya yn yc (dig d) → Calls Tryd.prog 70 #[.slice xa xn xc, .slice ya yn yc] w' fun e w'' => DivGives w' q t e w'') := hd
  clear hx hy hz hr hb0 hd
  go_enter Tryd.func73, Tryd.ntmps73
  go_wp2_with fail
  refine (Set_any w.heap.size y d _ HY.out HO.out (by omega) hdl).mono ?_
  rintro e w1 ⟨rfl, _, hex⟩
  have hb1 : Below w.heap.size w w1 := hex.below HB.out (Nat.le_refl _)
  have HQ : Hid (Calls Tryd.prog 37 #[.pointer (some ⟨z, 0, none⟩), .pointer (some ⟨x, 0, none⟩), .pointer (some ⟨y, 0, none⟩), .pointer (some ⟨r, 0, none⟩)] w1 fun e w' => QuoPost w1 z r q t e w') := by
    obtain ⟨xa, xn, xc, x0, x1, xr⟩ := (HW.out.1.below hb1).parts
    obtain ⟨ya, yn, yc, y0, y1, yr⟩ := (HW.out.2.1.below hb1).parts
    exact quo_of z x y r q t xa ya xn xc yn yc w1 x0 x1 y0 y1 (HW.out.2.2.1.below hb1) (HW.out.2.2.2.below hb1) hzr fun w' hb => HD.out w' xa xn xc ya yn yc (xr.below hb) (yr.below hb)
  have HB1 : Hid (Below w.heap.size w w1) := hb1
  clear hex hb1
  go_wp2_with fail
  refine HQ.out.mono ?_
  rintro e w2 ⟨rfl, g1, g2, hex2⟩
  have hneg := g2.neg
  have F2 : Hid (Bg w2 z q ∧ Bg w2 r t ∧ Ex2 w w2 z r) := ⟨g1, g2, Ex2.from HB1.out hex2⟩
  clear g1 g2 hex2
  go_wp2_with fail
  refine bodyPost_ret (v := .tuple #[.pointer (some ⟨z, 0, none⟩), .pointer (some ⟨r, 0, none⟩)]) (by simp [results, Tryd.results73, go_sem]) rfl ⟨rfl, F2.out.1, F2.out.2.1, F2.out.2.2⟩

end Go.Proofs.YtmpjmcfgikmgnaaDoor.words
