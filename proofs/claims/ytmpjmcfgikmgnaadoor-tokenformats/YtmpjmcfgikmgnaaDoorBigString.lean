/- What (*Int).String gives back. -/
import Derived.Test.YtmpjmcfgikmgnaaDoorBigStr
namespace Go.Proofs.YtmpjmcfgikmgnaaDoor.words
open Go.RowKit
set_option maxRecDepth 100000

theorem str_zero : strOf (decL 0) = ⟨#[48]⟩ := by rw [decL_one (by decide)]; rfl

theorem text_zero (z : Nat) (w : World) (hg : Bg w z 0) :
    Calls Tryd.prog 60 #[.pointer (some ⟨z, 0, none⟩), .int .i64 10] w fun e w' => StrPost w 0 e w' := by
  obtain ⟨a, n, c, hcz, hr⟩ := hg
  have hn : n = 0 := by have := hr.len; rw [dig_zero] at this; simpa using this.symm
  subst hn
  obtain ⟨c0, c1⟩ := bg_at hcz (Below.refl _ w)
  have HP : Hid (StrPost w 0 (.returned (.string ⟨#[48]⟩)) w) := ⟨by rw [str_zero], Below.refl _ _⟩
  clear hr hcz
  go_enter Tryd.func60, Tryd.ntmps60
  go_wp2_with fail
  go_ret
  exact HP.out

theorem string_any (z m : Nat) (w : World) (hg : Bg w z m) (hl : (dig m).length ≤ 100) (hd : (decL m).length ≤ 100) :
    Calls Tryd.prog 27 #[.pointer (some ⟨z, 0, none⟩)] w fun e w' => StrPost w m e w' := by
  have HT : Hid (Calls Tryd.prog 60 #[.pointer (some ⟨z, 0, none⟩), .int .i64 10] w fun e w' => StrPost w m e w') := by
    by_cases h0 : m = 0
    · subst h0; exact text_zero z w hg
    · exact text_any z m w hg (by omega) hl hd
  clear hg
  go_enter Tryd.func27, Tryd.ntmps27
  go_wp2_with fail
  refine HT.out.mono ?_
  rintro e w1 ⟨rfl, hb⟩
  have HB : Hid (Below w.heap.size w w1) := hb
  clear hb
  go_wp2_with fail
  go_ret
  exact ⟨rfl, HB.out⟩

end Go.Proofs.YtmpjmcfgikmgnaaDoor.words
