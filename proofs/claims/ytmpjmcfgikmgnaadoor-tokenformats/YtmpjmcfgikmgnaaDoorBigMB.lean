/- (*Int).Mod and Div by 2^32. -/
import Derived.Test.YtmpjmcfgikmgnaaDoorBigMod
namespace Go.Proofs.YtmpjmcfgikmgnaaDoor.words
open Go.RowKit
set_option maxRecDepth 100000

theorem Ex2.left {w w' : World} {z r : Nat} (h : Ex2 w w' z r) (hz : w.heap.size ≤ z) : Ex w w' r := ⟨h.os, h.tape, h.output, h.size, fun k hk hr => h.block k hk (by omega) hr⟩
theorem Ex2.right {w w' : World} {z r : Nat} (h : Ex2 w w' z r) (hz : w.heap.size ≤ r) : Ex w w' z := ⟨h.os, h.tape, h.output, h.size, fun k hk hr => h.block k hk hr (by omega)⟩

theorem base_div (m : Nat) (hm : (dig m).length ≤ 60) : ∀ w' xa xn xc ya yn yc, Ru w' xa xn xc (dig m) → Ru w' ya yn yc (dig 4294967296) → Calls Tryd.prog 70 #[.slice xa xn xc, .slice ya yn yc] w' fun e w'' => DivGives w' (m / 4294967296) (m % 4294967296) e w'' := by
  intro w' xa xn xc ya yn yc hx hy
  have e := hy.len
  rw [dig_base] at e
  subst e
  exact div_base xa ya xn xc yc m w' hx hy (by rw [← hx.len]; exact hm)

set_option maxHeartbeats 2000000 in
theorem Mod_base (z x y m : Nat) (w : World) (hx : Bg w x m) (hy : Bg w y 4294967296) (hz : Ob w z) (hm : (dig m).length ≤ 60) :
    Calls Tryd.prog 51 #[.pointer (some ⟨z, 0, none⟩), .pointer (some ⟨x, 0, none⟩), .pointer (some ⟨y, 0, none⟩)] w fun e w' => OpPost w z (m % 4294967296) e w' := by
  have hb0 : Below w.heap.size w (w.alloc (.cells #[.bool false, .slice none 0 0] 61)) := (Below.refl _ w).alloc (Nat.le_refl _) _
  have hzl := hz.lt
  have hd := divMod_of w.heap.size x y z _ _ m 4294967296 _ (hx.below hb0) (hy.below hb0) (ob_new w) (hz.below hb0) (by omega) (by rw [dig_base]; omega) (base_div m hm)
  have HD : Hid (Calls Tryd.prog 73 #[.pointer (some ⟨w.heap.size, 0, none⟩), .pointer (some ⟨x, 0, none⟩), .pointer (some ⟨y, 0, none⟩), .pointer (some ⟨z, 0, none⟩)] (w.alloc (.cells #[.bool false, .slice none 0 0] 61)) fun e w' => QuoPost (w.alloc (.cells #[.bool false, .slice none 0 0] 61)) w.heap.size z (m / 4294967296) (m % 4294967296) e w') := hd
  have HB : Hid (Below w.heap.size w (w.alloc (.cells #[.bool false, .slice none 0 0] 61))) := hb0
  clear hd hx hy hz hb0 hm
  generalize m / 4294967296 = q at *
  generalize m % 4294967296 = t at *
  go_enter Tryd.func51, Tryd.ntmps51
  go_wp2_with fail
  refine HD.out.mono ?_
  rintro e w1 ⟨rfl, _, g2, hex⟩
  have F : Hid (Bg w1 z t ∧ Ex w w1 z) := ⟨g2, (Ex2.from HB.out hex).left (Nat.le_refl _)⟩
  clear g2 hex
  go_wp2_with fail
  go_ret
  exact ⟨rfl, F.out.1, F.out.2⟩

set_option maxHeartbeats 2000000 in
theorem Div_base (z x y m : Nat) (w : World) (hx : Bg w x m) (hy : Bg w y 4294967296) (hz : Ob w z) (hm : (dig m).length ≤ 60) :
    Calls Tryd.prog 53 #[.pointer (some ⟨z, 0, none⟩), .pointer (some ⟨x, 0, none⟩), .pointer (some ⟨y, 0, none⟩)] w fun e w' => OpPost w z (m / 4294967296) e w' := by
  have hb0 : Below w.heap.size w (w.alloc (.cells #[.bool false, .slice none 0 0] 61)) := (Below.refl _ w).alloc (Nat.le_refl _) _
  have hzl := hz.lt
  have hd := divMod_of z x y w.heap.size _ _ m 4294967296 _ (hx.below hb0) (hy.below hb0) (hz.below hb0) (ob_new w) (by omega) (by rw [dig_base]; omega) (base_div m hm)
  have HD : Hid (Calls Tryd.prog 73 #[.pointer (some ⟨z, 0, none⟩), .pointer (some ⟨x, 0, none⟩), .pointer (some ⟨y, 0, none⟩), .pointer (some ⟨w.heap.size, 0, none⟩)] (w.alloc (.cells #[.bool false, .slice none 0 0] 61)) fun e w' => QuoPost (w.alloc (.cells #[.bool false, .slice none 0 0] 61)) z w.heap.size (m / 4294967296) (m % 4294967296) e w') := hd
  have HB : Hid (Below w.heap.size w (w.alloc (.cells #[.bool false, .slice none 0 0] 61))) := hb0
  clear hd hx hy hz hb0 hm
  generalize m / 4294967296 = q at *
  generalize m % 4294967296 = t at *
  go_enter Tryd.func53, Tryd.ntmps53
  go_wp2_with fail
  refine HD.out.mono ?_
  rintro e w1 ⟨rfl, g1, _, hex⟩
  have F : Hid (Bg w1 z q ∧ Ex w w1 z) := ⟨g1, (Ex2.from HB.out hex).right (Nat.le_refl _)⟩
  clear g1 hex
  go_wp2_with fail
  go_ret
  exact ⟨rfl, F.out.1, F.out.2⟩

end Go.Proofs.YtmpjmcfgikmgnaaDoor.words
