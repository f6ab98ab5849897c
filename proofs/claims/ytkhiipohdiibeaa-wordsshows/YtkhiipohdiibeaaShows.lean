/- What vendmeterref.WideShown gives back. -/
import Derived.Test.YtkhiipohdiibeaaBigStr
import Derived.Test.YtkhiipohdiibeaaCompared
namespace Go.Proofs.Ytkhiipohdiibeaa.words
open Go.RowKit

theorem str_zero : strOf (decL 0) = ⟨#[48]⟩ := by rw [decL_one (by decide)]; rfl

theorem text_zero (z : Nat) (w : World) (hg : Bg w z 0) :
    Calls Try.prog 26 #[.pointer (some ⟨z, 0, none⟩), .int .i64 10] w fun e w' => StrPost w 0 e w' := by
  obtain ⟨a, n, c, hcz, hr⟩ := hg
  have hn : n = 0 := by have := hr.len; rw [dig_zero] at this; simpa using this.symm
  subst hn
  obtain ⟨c0, c1⟩ := bg_at hcz (Below.refl _ w)
  have HP : Hid (StrPost w 0 (.returned (.string ⟨#[48]⟩)) w) := ⟨by rw [str_zero], Below.refl _ _⟩
  clear hr hcz
  go_enter Try.func26, Try.ntmps26
  go_wp2_with fail
  go_ret
  exact HP.out

theorem string_any (z m : Nat) (w : World) (hg : Bg w z m) (hl : (dig m).length ≤ 100) (hd : (decL m).length ≤ 100) :
    Calls Try.prog 15 #[.pointer (some ⟨z, 0, none⟩)] w fun e w' => StrPost w m e w' := by
  have HT : Hid (Calls Try.prog 26 #[.pointer (some ⟨z, 0, none⟩), .int .i64 10] w fun e w' => StrPost w m e w') := by
    by_cases h0 : m = 0
    · subst h0; exact text_zero z w hg
    · exact text_any z m w hg (by omega) hl hd
  clear hg
  go_enter Try.func15, Try.ntmps15
  go_wp2_with fail
  refine HT.out.mono ?_
  rintro e w1 ⟨rfl, hb⟩
  have HB : Hid (Below w.heap.size w w1) := hb
  clear hb
  go_wp2_with fail
  go_ret
  exact ⟨rfl, HB.out⟩

theorem big96_dec {a b c : Nat} (ha : a < 4294967296) (hb : b < 4294967296) (hc : c < 4294967296) : (decL (big96V a b c)).length ≤ 100 := by
  have := decL_len29 (big96V a b c) (by unfold big96V top; omega)
  omega

set_option maxHeartbeats 1000000 in
theorem shown_any (a b c : Nat) (w : World) (ha : a < 4294967296) (hb : b < 4294967296) (hc : c < 4294967296) :
    Calls Try.prog 9 #[.agg #[.int .u32 (a : Int), .int .u32 (b : Int), .int .u32 (c : Int)]] w fun e w' => StrPost w (W3.val ⟨a, b, c⟩).toNat e w' := by
  have HT : Hid (Trio (w.alloc (.cells #[.int .u32 (a : Int), .int .u32 (b : Int), .int .u32 (c : Int)] 24)) w.heap.size (.int .u32 (a : Int)) (.int .u32 (b : Int)) (.int .u32 (c : Int))) := trio_new _ _ _ _
  have HB : Hid (Below w.heap.size w (w.alloc (.cells #[.int .u32 (a : Int), .int .u32 (b : Int), .int .u32 (c : Int)] 24))) := (Below.refl _ w).alloc (Nat.le_refl _) _
  have c0 := HT.out.c0
  have c1 := HT.out.c1
  have c2 := HT.out.c2
  have HV : Hid ((W3.val ⟨a, b, c⟩).toNat = big96V a b c) := (by rw [← big96_val]; rfl : (W3.val ⟨a, b, c⟩).toNat = big96V a b c)
  have HL := big96_len ha hb hc
  have HD := big96_dec ha hb hc
  go_enter Try.func9, Try.ntmps9
  go_wp2_with fail
  refine (big96_any a b c _ ha hb hc).mono ?_
  rintro e w1 ⟨z, rfl, hz, hg, hb1⟩
  have HG : Hid (Bg w1 z (big96V a b c)) := hg
  have HB1 : Hid (Below w.heap.size w w1) := HB.out.trans (hb1.mono HB.out.size)
  clear hg hb1 hz c0 c1 c2
  go_wp2_with fail
  refine (string_any z _ _ HG.out HL HD).mono ?_
  rintro e w2 ⟨rfl, hb2⟩
  have HP : Hid (StrPost w (W3.val ⟨a, b, c⟩).toNat (.returned (.string (strOf (decL (big96V a b c))))) w2) := ⟨by rw [HV.out], HB1.out.trans (hb2.mono HB1.out.size)⟩
  clear hb2 HL HD HV
  go_wp2_with fail
  go_ret
  exact HP.out

end Go.Proofs.Ytkhiipohdiibeaa.words
