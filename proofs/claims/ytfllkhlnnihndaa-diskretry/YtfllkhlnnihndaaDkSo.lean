/- Some words: at least one. -/
import Derived.Test.YtfllkhlnnihndaaDkW
import Derived.Test.YtfllkhlnnihndaaClGave
import Derived.Test.YtfllkhlnnihndaaClRow
import Derived.Test.YtfllkhlnnihndaaWRow
import Derived.OwnWalk
namespace Go.Proofs.Ytfllkhlnnihndaa.disk
open Go.RowKit Go.Proofs.Ytfllkhlnnihndaa.cell
set_option maxRecDepth 100000
set_option linter.unusedVariables false

def SomeW (w : World) (most : Nat) (e : Ending) (w' : World) : Prop :=
  ∃ (v : Value) (zs : List Int), e = .returned v ∧ Ws w' w.heap.size v zs ∧ 1 ≤ zs.length ∧ zs.length ≤ most ∧ Wds zs ∧ Below w.heap.size w w'
theorem SomeW.mk {w w' : World} {most : Nat} {v : Value} {zs : List Int} (h : Ws w' w.heap.size v zs) (h1 : 1 ≤ zs.length) (h2 : zs.length ≤ most) (h3 : Wds zs) (hb : Below w.heap.size w w') : SomeW w most (.returned v) w' := ⟨v, zs, rfl, h, h1, h2, h3, hb⟩
set_option maxHeartbeats 1000000 in
theorem some_words (a : Option Addr) (len cap most : Nat) (zs : List Int) (w : World) (hr : RowU w a len zs) (hwz : Wds zs) (h1 : 1 ≤ most) (h2 : most ≤ 100000) :
    Calls Try.prog 20 #[.slice a len cap, .int .i64 (most : Int)] w fun e w' => SomeW w most e w' := by
  have HR : Hid (RowU w a len zs) := hr
  have HWZ : Hid (Wds zs) := hwz
  clear hr hwz
  go_enter Try.func20, Try.ntmps20
  go_wp2_with fail
  go_loopw [5, 6] (fun v i wr => ∃ (k : Nat) (V : Value) (rs : List Int), V = v ∧ k ≤ len ∧ k ≤ most ∧ i = .int .i64 (k : Int) ∧ rs.length = k ∧ Wds rs ∧ Ws wr w.heap.size V rs ∧ Below w.heap.size w wr) (fun _ i _ => len - (intOf i).toNat)
  case atStart => exact ⟨0, _, [], rfl, Nat.zero_le _, Nat.zero_le _, rfl, rfl, wds_nil, Ws.zero _ _, Below.refl _ _⟩
  case round =>
    obtain ⟨k, V, rs, hV, hk, hk2, rfl, hrl, hwr, hown, hb⟩ := hrel
    subst hV
    have HO : Hid (Ws wr w.heap.size V rs) := hown
    have HB : Hid (Below w.heap.size w wr) := hb
    have HRL : Hid (rs.length = k) := hrl
    have HWR : Hid (Wds rs) := hwr
    clear hown hrl hb hwr
    by_cases hgo : k < len ∧ k < most
    · obtain ⟨hlt, hlt2⟩ := hgo
      obtain ⟨b, off, rfl, l1, hc⟩ := HR.out.at (by omega)
      have hcell : wr.cell? ⟨b, off + k, none⟩ = some (.int .u32 (zs.getD k 0)) := (HB.out.cell (p := ⟨b, off + k, none⟩) l1).trans (hc k hlt)
      clear hc l1
      have HWK : Hid (Wds (rs ++ [zs.getD k 0])) := wds_app HWR.out (fun x hx => by rw [List.mem_singleton.1 hx]; exact wds_at HWZ.out k)
      generalize zs.getD k 0 = z at *
      have HG : Hid ((wr.alloc (.cells #[.int .u32 z] 42)).cell? ⟨wr.heap.size, 0, none⟩ = some (.int .u32 z)) := word_cell wr z
      have HOA : Hid (Ws (wr.alloc (.cells #[.int .u32 z] 42)) w.heap.size V rs) := HO.out.alloc _
      have HSZ : Hid (w.heap.size ≤ (wr.alloc (.cells #[.int .u32 z] 42)).heap.size) := alloc_le HB.out.size _
      go_wp2_with (first
        | (at_builtin; refine wp_word rfl _ _ rfl w.heap.size wr.heap.size _ rs z rfl rfl HOA.out HG.out (by have := HRL.out; omega) HSZ.out ?_)
        | go_in)
      intro v' w4 hL4 hg4
      have HL4 : Hid (Ws w4 w.heap.size v' (rs ++ [z])) := hL4
      have HB4 : Hid (Below w.heap.size w w4) := own_bel HOA.out hg4 (HB.out.alloc HB.out.size _) (Nat.le_refl _) HSZ.out
      clear hL4 hg4 HOA HO HB HG HSZ
      go_wp2_with fail
      go_roundw
      case rel => exact ⟨k + 1, _, rs ++ [z], rfl, by omega, by omega, by go_num, by rw [List.length_append, HRL.out]; rfl, HWK.out, HL4.out, HB4.out⟩
      case measure => simp [intOf]; omega
    · obtain ⟨av, cv, rfl, hrv, hnv, hcv⟩ := HO.out.row
      clear hrv hnv hcv
      have hrl := HRL.out
      rw [hrl] at HO ⊢
      by_cases h0 : k = 0
      · subst h0
        have h00 : rs = [] := List.eq_nil_of_length_eq_zero hrl
        subst h00
        have HG : Hid ((wr.alloc (.cells #[.int .u32 0] 42)).cell? ⟨wr.heap.size, 0, none⟩ = some (.int .u32 0)) := word_cell wr 0
        have HOA : Hid (Ws (wr.alloc (.cells #[.int .u32 0] 42)) w.heap.size (.slice av 0 cv) []) := HO.out.alloc _
        have HSZ : Hid (w.heap.size ≤ (wr.alloc (.cells #[.int .u32 0] 42)).heap.size) := alloc_le HB.out.size _
        have hl0 : len = 0 := by omega
        clear hrl HRL hgo
        subst hl0
        go_wp2_with (first
          | (at_builtin; refine wp_word rfl _ _ rfl w.heap.size wr.heap.size _ [] 0 rfl rfl HOA.out HG.out (by decide) HSZ.out ?_)
          | go_in)
        intro v' w4 hL4 hg4
        have HL4 : Hid (Ws w4 w.heap.size v' ([] ++ [0])) := hL4
        have HB4 : Hid (Below w.heap.size w w4) := own_bel HOA.out hg4 (HB.out.alloc HB.out.size _) (Nat.le_refl _) HSZ.out
        clear hL4 hg4 HOA HO HB HG HSZ
        go_wp2_with fail
        go_ret
        exact SomeW.mk HL4.out (by decide) h1 (fun x hx => by rw [List.mem_singleton.1 hx]; decide) HB4.out
      · have h0' : ((k : Int) == 0) = false := by simp; omega
        by_cases hc : k < len
        · have hc2 : ¬ (k : Int) < (most : Int) := by omega
          go_wp2_with fail
          go_ret
          exact SomeW.mk HO.out (by rw [HRL.out]; omega) (by rw [HRL.out]; omega) HWR.out HB.out
        · go_wp2_with fail
          go_ret
          exact SomeW.mk HO.out (by rw [HRL.out]; omega) (by rw [HRL.out]; omega) HWR.out HB.out

/-- The same, in the form that a caller wants: a slice in new memory. -/
def SomeR (w : World) (most : Nat) (e : Ending) (w' : World) : Prop :=
  ∃ (b n cap : Nat) (zs : List Int), e = .returned (.slice (some ⟨b, 0, none⟩) n cap) ∧ RowU w' (some ⟨b, 0, none⟩) n zs ∧ w.heap.size ≤ b ∧ b < w'.heap.size ∧ 1 ≤ n ∧ n ≤ most ∧ n ≤ cap ∧ Wds zs ∧ Below w.heap.size w w'
theorem some_row (a : Option Addr) (len cap most : Nat) (zs : List Int) (w : World) (hr : RowU w a len zs) (hwz : Wds zs) (h1 : 1 ≤ most) (h2 : most ≤ 100000) :
    Calls Try.prog 20 #[.slice a len cap, .int .i64 (most : Int)] w fun e w' => SomeR w most e w' :=
  (some_words a len cap most zs w hr hwz h1 h2).mono fun e w' ⟨v, zs', he, hv, q1, q2, q3, hb⟩ => by
    rcases hv.2 with ⟨_, h0⟩ | ⟨g, cap', cur, hvv, hg, hc, _⟩
    · omega
    · obtain ⟨x, c, hx, rx, _, hle⟩ := hv.row
      rw [hvv] at hx
      injection hx with e1 e2 e3
      subst e1
      subst e3
      exact ⟨g, zs'.length, cap', zs', by rw [he, hvv], rx, hg, Blk.lt hc, q1, q2, hle, q3, hb⟩

end Go.Proofs.Ytfllkhlnnihndaa.disk
