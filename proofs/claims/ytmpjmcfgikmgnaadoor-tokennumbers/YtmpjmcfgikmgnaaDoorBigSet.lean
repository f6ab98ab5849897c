/- (*Int).Set. -/
import Derived.Test.YtmpjmcfgikmgnaaDoorBigBase
namespace Go.Proofs.YtmpjmcfgikmgnaaDoor.words
open Go.RowKit
set_option maxRecDepth 100000

set_option maxHeartbeats 2000000 in
theorem Set_any (z x m : Nat) (w : World) (hx : Bg w x m) (hz : Ob w z) (hxz : x ≠ z) (hm : (dig m).length ≤ 100) :
    Calls Tryd.prog 50 #[.pointer (some ⟨z, 0, none⟩), .pointer (some ⟨x, 0, none⟩)] w fun e w' => OpPost w z m e w' := by
  obtain ⟨xa, xn, xc, x0, x1, xr⟩ := hx.parts
  have HT : Hid (∀ w', Below w.heap.size w w' → Calls Tryd.prog 72 #[.slice xa xn xc] w' fun e w'' => Gives w' m e w'') := fun w' hb => twin_any xa xn xc m w' (xr.below hb) (by rw [← xr.len]; exact hm)
  have HZ : Hid (Ob w z) := hz
  have KW : Hid (Below w.heap.size w w.drew) := (Below.refl _ w).drew
  have KS : Hid (w.drew.cell? ⟨x, 0, none⟩ = some (.bool false) ∧ w.drew.cell? ⟨x, 1, none⟩ = some (.slice xa xn xc)) := ⟨x0, x1⟩
  clear hx hz xr hm
  go_enter Tryd.func50, Tryd.ntmps50
  go_wp2_with fail
  go_region_held (fun v => v.cell? ⟨x, 0, none⟩ = some (.bool false) ∧ v.cell? ⟨x, 1, none⟩ = some (.slice xa xn xc))
    (first | exact K2.out | exact K1.out | exact KS.out)
    (first
      | (go_at_call 72; refine (HT.out _ KW.out).mono ?_; rintro e w1 ⟨ra, rn, rc, rfl, hr, hb⟩
         have B1 : Hid (Below w.heap.size w w1) := KW.out.trans (hb.mono KW.out.size)
         have K1 : Hid (w1.cell? ⟨x, 0, none⟩ = some (.bool false) ∧ w1.cell? ⟨x, 1, none⟩ = some (.slice xa xn xc)) := ⟨cell_bel hb KS.out.1, cell_bel hb KS.out.2⟩
         have R1 : Hid (Ru w1 ra rn rc (dig m)) := hr
         clear hb hr)
      | (go_at_call 65; refine (give_any z _ _ _ _ (HZ.out.below B1.out)).mono ?_; rintro e w2 ⟨rfl, h2, hex⟩
         have K2 : Hid (w2.cell? ⟨x, 0, none⟩ = some (.bool false) ∧ w2.cell? ⟨x, 1, none⟩ = some (.slice xa xn xc)) := ⟨cell_ex hex K1.out.1 hxz, cell_ex hex K1.out.2 hxz⟩
         have F2 : Hid (Bg w2 z m ∧ Ex w w2 z) := ⟨⟨_, _, _, h2, R1.out.ex (HZ.out.below B1.out) hex⟩, Ex.of B1.out hex⟩
         clear h2 hex))
  all_goals (go_wp2_with fail; go_ret; exact ⟨rfl, F2.out.1, F2.out.2⟩)

end Go.Proofs.YtmpjmcfgikmgnaaDoor.words
