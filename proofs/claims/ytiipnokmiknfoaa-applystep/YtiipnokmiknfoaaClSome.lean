/- Words that the statements make: some of a list, one at least. -/
import Derived.Test.YtiipnokmiknfoaaClRow
namespace Go.Proofs.Ytiipnokmiknfoaa.cell
open Go.RowKit
set_option maxRecDepth 100000
set_option linter.unusedVariables false

/-- Words were given back that nobody else holds, one at least, so many at most. -/
def SomePost (w : World) (most : Nat) (e : Ending) (w' : World) : Prop :=
  ∃ (v : Value) (zs : List Int), e = .returned v ∧ Ws w' w.heap.size v zs ∧ 1 ≤ zs.length ∧ zs.length ≤ most ∧ Below w.heap.size w w'
theorem SomePost.mk {w w' : World} {most : Nat} {v : Value} {zs : List Int} (h : Ws w' w.heap.size v zs) (h1 : 1 ≤ zs.length) (h2 : zs.length ≤ most) (hb : Below w.heap.size w w') : SomePost w most (.returned v) w' := ⟨v, zs, rfl, h, h1, h2, hb⟩
/-- How many elements a slice has. -/
def lenV : Value → Nat
  | .slice _ n _ => n
  | _ => 0
theorem word_cell (w : World) (d : Int) : (w.alloc (.cells #[.int .u32 d] 39)).cell? ⟨w.heap.size, 0, none⟩ = some (.int .u32 d) := (Blk.new w _ _).cell 0

set_option maxHeartbeats 1000000 in
theorem some_any (a : Option Addr) (len cap most : Nat) (zs : List Int) (w : World) (hr : RowU w a len zs) (h1 : 1 ≤ most) (h2 : most ≤ 100000) :
    Calls Try.prog 18 #[.slice a len cap, .int .i64 (most : Int)] w fun e w' => SomePost w most e w' := by
  have HR : Hid (RowU w a len zs) := hr
  clear hr
  go_enter Try.func18, Try.ntmps18
  go_wp2_with fail
  go_loopw [5, 6] (fun v i wr => ∃ (k : Nat) (V : Value) (rs : List Int), V = v ∧ k ≤ len ∧ k ≤ most ∧ i = .int .i64 (k : Int) ∧ rs.length = k ∧ Ws wr w.heap.size V rs ∧ Below w.heap.size w wr) (fun _ i _ => len - (intOf i).toNat)
  case atStart => exact ⟨0, _, [], rfl, Nat.zero_le _, Nat.zero_le _, rfl, rfl, Ws.zero _ _, Below.refl _ _⟩
  case round =>
    obtain ⟨k, V, rs, hV, hk, hk2, rfl, hrl, hown, hb⟩ := hrel
    subst hV
    have HO : Hid (Ws wr w.heap.size V rs) := hown
    have HB : Hid (Below w.heap.size w wr) := hb
    have HRL : Hid (rs.length = k) := hrl
    clear hown hrl hb
    by_cases hgo : k < len ∧ k < most
    · obtain ⟨hlt, hlt2⟩ := hgo
      obtain ⟨b, off, rfl, l1, hc⟩ := HR.out.at (by omega)
      have hcell : wr.cell? ⟨b, off + k, none⟩ = some (.int .u32 (zs.getD k 0)) := (HB.out.cell (p := ⟨b, off + k, none⟩) l1).trans (hc k hlt)
      clear hc l1
      generalize zs.getD k 0 = z at *
      have HG : Hid ((wr.alloc (.cells #[.int .u32 z] 39)).cell? ⟨wr.heap.size, 0, none⟩ = some (.int .u32 z)) := word_cell wr z
      have HOA : Hid (Ws (wr.alloc (.cells #[.int .u32 z] 39)) w.heap.size V rs) := HO.out.alloc _
      have HSZ : Hid (w.heap.size ≤ (wr.alloc (.cells #[.int .u32 z] 39)).heap.size) := alloc_le HB.out.size _
      go_wp2_with (first
        | (at_builtin; refine wp_word rfl _ _ rfl w.heap.size wr.heap.size _ rs z rfl rfl HOA.out HG.out (by have := HRL.out; omega) HSZ.out ?_)
        | go_in)
      intro v' w4 hL4 hg4
      have HL4 : Hid (Ws w4 w.heap.size v' (rs ++ [z])) := hL4
      have HB4 : Hid (Below w.heap.size w w4) := own_bel HOA.out hg4 (HB.out.alloc HB.out.size _) (Nat.le_refl _) HSZ.out
      clear hL4 hg4 HOA HO HB HG HSZ
      go_wp2_with fail
      go_roundw
      case rel => exact ⟨k + 1, _, rs ++ [z], rfl, by omega, by omega, by go_num, by rw [List.length_append, HRL.out]; rfl, HL4.out, HB4.out⟩
      case measure => simp [intOf]; omega
    · obtain ⟨av, cv, rfl, hrv, hnv, hcv⟩ := HO.out.row
      clear hrv hnv hcv
      have hrl := HRL.out
      rw [hrl] at HO ⊢
      by_cases h0 : k = 0
      · subst h0
        have h00 : rs = [] := List.eq_nil_of_length_eq_zero hrl
        subst h00
        have HG : Hid ((wr.alloc (.cells #[.int .u32 0] 39)).cell? ⟨wr.heap.size, 0, none⟩ = some (.int .u32 0)) := word_cell wr 0
        have HOA : Hid (Ws (wr.alloc (.cells #[.int .u32 0] 39)) w.heap.size (.slice av 0 cv) []) := HO.out.alloc _
        have HSZ : Hid (w.heap.size ≤ (wr.alloc (.cells #[.int .u32 0] 39)).heap.size) := alloc_le HB.out.size _
        have hl0 : len = 0 := by omega
        clear hrl HRL hgo
        subst hl0
        go_wp2_with (first
          | (at_builtin; refine wp_word rfl _ _ rfl w.heap.size wr.heap.size _ [] 0 rfl rfl HOA.out HG.out (by decide) HSZ.out ?_)
          | go_in)
        intro v' w4 hL4 hg4
        have HL4 : Hid (Ws w4 w.heap.size v' ([] ++ [0])) := hL4
        have HB4 : Hid (Below w.heap.size w w4) := own_bel HOA.out hg4 (HB.out.alloc HB.out.size _) (Nat.le_refl _) HSZ.out
        clear hL4 hg4 HOA HO HB HG HSZ
        go_wp2_with fail
        go_ret
        exact SomePost.mk HL4.out (by decide) h1 HB4.out
      · have h0' : ((k : Int) == 0) = false := by simp; omega
        by_cases hc : k < len
        · have hc2 : ¬ (k : Int) < (most : Int) := by omega
          go_wp2_with fail
          go_ret
          exact SomePost.mk HO.out (by rw [HRL.out]; omega) (by rw [HRL.out]; omega) HB.out
        · go_wp2_with fail
          go_ret
          exact SomePost.mk HO.out (by rw [HRL.out]; omega) (by rw [HRL.out]; omega) HB.out

end Go.Proofs.Ytiipnokmiknfoaa.cell
