/- What units cost, as the document has it. -/
import Derived.Test.YtmjjfljaelahoaaTfUm
import Derived.Test.YtmjjfljaelahoaaTfC
namespace Go.Proofs.Ytmjjfljaelahoaa.tar
open Go.RowKit
set_option maxRecDepth 100000
set_option linter.unusedVariables false
set_option linter.unusedSimpArgs false

set_option maxHeartbeats 2000000 in
theorem rpriced (a : Option Addr) (len cap : Nat) (ls : List Du) (x n : Int) (w : World) (hr : RowD w a len ls) (hl : len ≤ maxLen) : Calls Try.prog 14 #[.slice a len cap, .int .i64 x, .int .i64 n] w fun e w' => TwoPost w (PriceIs ls x n) e w' := by
  have HMY : Hid (Calls Try.prog 27 #[.slice a len cap, .int .i64 x, .int .i64 n] w fun e w' => ErrPost w (MayIs ls x n) e w') := rmay a len cap ls x n w hr hl
  go_enter Try.func14, Try.ntmps14
  go_wp2_with fail
  refine HMY.out.mono ?_
  rintro e w1 ⟨f, rfl, hf, hb⟩
  have HB : Hid (Below w.heap.size w w1) := hb
  have HF : Hid (MayIs ls x n f) := hf
  by_cases h0 : f = 0
  · subst h0
    have hm := hf.ok.1 rfl
    have HCO : Hid (Calls Try.prog 28 #[.slice a len cap, .int .i64 x, .int .i64 (x + n)] w1 fun e w' => ValPost w1 (cost ls x (x + n)) e w') := rcost a len cap ls x (x + n) w1 (hr.below hb) hm.1 hm.2.1.1 (by have := hm.2.2.1.1; omega) hm.2.2.2
    have hx0 := hm.2.1.1
    have hx1 := hm.2.1.2
    have hn0 := hm.2.2.1.1
    have hn1 := hm.2.2.1.2
    clear hf hm hb hr hl HMY
    generalize hcc : cost ls x (x + n) = c at *
    have HCC : Hid (cost ls x (x + n) = c) := hcc
    clear hcc
    go_wp2_with fail
    refine HCO.out.mono ?_
    rintro e w2 ⟨rfl, hb2⟩
    have HB2 : Hid (Below w.heap.size w w2) := HB.out.trans (hb2.mono HB.out.size)
    clear hb2 HCO
    go_wp2_with fail
    go_ret2
    exact ⟨_, _, rfl, ⟨HF.out, .inl ⟨rfl, HCC.out.symm⟩⟩, HB2.out⟩
  · have hne : (f != 0) = true := by simpa using h0
    have HN : Hid (f ≠ 0) := h0
    clear hf h0 hb hr hl HMY
    go_wp2_with fail
    go_ret2
    exact ⟨_, _, rfl, ⟨HF.out, .inr ⟨HN.out, rfl⟩⟩, HB.out⟩

end Go.Proofs.Ytmjjfljaelahoaa.tar
