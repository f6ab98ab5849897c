/- Some words: told exactly. -/
import Derived.Test.YtfhlokjpdkmdjaaWRow
import Derived.OwnWalk
namespace Go.Proofs.Ytfhlokjpdkmdjaa.book
open Go.RowKit Go.Proofs.Ytfhlokjpdkmdjaa.cell
set_option maxRecDepth 100000
set_option linter.unusedVariables false
set_option linter.unusedSimpArgs false

/-- Some words: at most so many, one at least. -/
def someL (zs : List Int) (most : Nat) : List Int := if zs.length = 0 then [0] else zs.take most
theorem some_all {zs rs : List Int} {most : Nat} (h : zs.length ≠ 0) (hr : rs = zs.take most) : rs = someL zs most := by unfold someL; rw [if_neg h]; exact hr
def SomeX (w : World) (most : Nat) (zs : List Int) (e : Ending) (w' : World) : Prop := ∃ v, e = .returned v ∧ Ws w' w.heap.size v (someL zs most) ∧ Below w.heap.size w w'
theorem SomeX.mk {w w' : World} {most : Nat} {zs rs : List Int} {v : Value} (h : Ws w' w.heap.size v rs) (hr : rs = someL zs most) (hb : Below w.heap.size w w') : SomeX w most zs (.returned v) w' := ⟨v, rfl, hr ▸ h, hb⟩
theorem some_mem {zs : List Int} {most : Nat} (h : ∀ x ∈ zs, 0 ≤ x ∧ x < 4294967296) : ∀ x ∈ someL zs most, 0 ≤ x ∧ x < 4294967296 := by
  intro x hx
  unfold someL at hx
  split at hx
  · rw [List.mem_singleton.1 hx]; decide
  · exact h x (List.mem_of_mem_take hx)
theorem some_13 {zs : List Int} (h : (someL zs 20).length = 13) : someL zs 20 = zs := by
  unfold someL at h ⊢
  split at h
  · cases h
  · rename_i hz
    rw [if_neg hz]
    rw [List.length_take] at h
    exact List.take_of_length_le (by omega)
set_option maxHeartbeats 1000000 in
theorem some_is (a : Option Addr) (len cap most : Nat) (zs : List Int) (w : World) (hr : RowU w a len zs) (h1 : 1 ≤ most) (h2 : most ≤ 100000) :
    Calls Try.prog 23 #[.slice a len cap, .int .i64 (most : Int)] w fun e w' => SomeX w most zs e w' := by
  have HR : Hid (RowU w a len zs) := hr
  have HLZ : Hid (zs.length = len) := hr.1
  clear hr
  go_enter Try.func23, Try.ntmps23
  go_wp2_with fail
  go_loopw [5, 6] (fun v i wr => ∃ (k : Nat) (V : Value) (rs : List Int), V = v ∧ k ≤ len ∧ k ≤ most ∧ i = .int .i64 (k : Int) ∧ (rs.length = k ∧ rs = zs.take k) ∧ Ws wr w.heap.size V rs ∧ Below w.heap.size w wr) (fun _ i _ => len - (intOf i).toNat)
  case atStart => exact ⟨0, _, [], rfl, Nat.zero_le _, Nat.zero_le _, rfl, ⟨rfl, rfl⟩, Ws.zero _ _, Below.refl _ _⟩
  case round =>
    obtain ⟨k, V, rs, hV, hk, hk2, rfl, ⟨hrl, hrt⟩, hown, hb⟩ := hrel
    subst hV
    have HO : Hid (Ws wr w.heap.size V rs) := hown
    have HB : Hid (Below w.heap.size w wr) := hb
    have HRL : Hid (rs.length = k) := hrl
    have HRT : Hid (rs = zs.take k) := hrt
    clear hown hrl hb hrt
    by_cases hgo : k < len ∧ k < most
    · obtain ⟨hlt, hlt2⟩ := hgo
      obtain ⟨b, off, rfl, l1, hc⟩ := HR.out.at (by omega)
      have hcell : wr.cell? ⟨b, off + k, none⟩ = some (.int .u32 (zs.getD k 0)) := (HB.out.cell (p := ⟨b, off + k, none⟩) l1).trans (hc k hlt)
      clear hc l1
      have HWK : Hid (rs ++ [zs.getD k 0] = zs.take (k + 1)) := by
        have hk' : k < zs.length := by rw [HLZ.out]; exact hlt
        show _ = _
        rw [HRT.out, List.take_succ_eq_append_getElem hk']
        simp [List.getD, List.getElem?_eq_getElem hk']
      generalize zs.getD k 0 = z at *
      have HG : Hid ((wr.alloc (.cells #[.int .u32 z] 67)).cell? ⟨wr.heap.size, 0, none⟩ = some (.int .u32 z)) := (Blk.new wr _ _).cell 0
      have HOA : Hid (Ws (wr.alloc (.cells #[.int .u32 z] 67)) w.heap.size V rs) := HO.out.alloc _
      have HSZ : Hid (w.heap.size ≤ (wr.alloc (.cells #[.int .u32 z] 67)).heap.size) := alloc_le HB.out.size _
      go_wp2_with (first
        | (at_builtin; refine wp_word rfl _ _ rfl w.heap.size wr.heap.size _ rs z rfl rfl HOA.out HG.out (by have := HRL.out; omega) HSZ.out ?_)
        | go_in)
      intro v' w4 hL4 hg4
      have HL4 : Hid (Ws w4 w.heap.size v' (rs ++ [z])) := hL4
      have HB4 : Hid (Below w.heap.size w w4) := own_bel HOA.out hg4 (HB.out.alloc HB.out.size _) (Nat.le_refl _) HSZ.out
      clear hL4 hg4 HOA HO HB HG HSZ
      go_wp2_with fail
      go_roundw
      case rel => exact ⟨k + 1, _, rs ++ [z], rfl, by omega, by omega, by go_num, ⟨by rw [List.length_append, HRL.out]; rfl, HWK.out⟩, HL4.out, HB4.out⟩
      case measure => simp [intOf]; omega
    · obtain ⟨av, cv, rfl, hrv, hnv, hcv⟩ := HO.out.row
      clear hrv hnv hcv
      have hrl := HRL.out
      rw [hrl] at HO ⊢
      by_cases h0 : k = 0
      · subst h0
        have h00 : rs = [] := List.eq_nil_of_length_eq_zero hrl
        subst h00
        have HG : Hid ((wr.alloc (.cells #[.int .u32 0] 67)).cell? ⟨wr.heap.size, 0, none⟩ = some (.int .u32 0)) := (Blk.new wr _ _).cell 0
        have HOA : Hid (Ws (wr.alloc (.cells #[.int .u32 0] 67)) w.heap.size (.slice av 0 cv) []) := HO.out.alloc _
        have HSZ : Hid (w.heap.size ≤ (wr.alloc (.cells #[.int .u32 0] 67)).heap.size) := alloc_le HB.out.size _
        have hl0 : len = 0 := by omega
        clear hrl HRL hgo
        subst hl0
        go_wp2_with (first
          | (at_builtin; refine wp_word rfl _ _ rfl w.heap.size wr.heap.size _ [] 0 rfl rfl HOA.out HG.out (by decide) HSZ.out ?_)
          | go_in)
        intro v' w4 hL4 hg4
        have HL4 : Hid (Ws w4 w.heap.size v' ([] ++ [0])) := hL4
        have HB4 : Hid (Below w.heap.size w w4) := own_bel HOA.out hg4 (HB.out.alloc HB.out.size _) (Nat.le_refl _) HSZ.out
        clear hL4 hg4 HOA HO HB HG HSZ
        go_wp2_with fail
        go_ret
        exact SomeX.mk HL4.out (by have h9 : zs = [] := List.eq_nil_of_length_eq_zero HLZ.out; rw [h9]; rfl) HB4.out
      · have h0' : ((k : Int) == 0) = false := by simp; omega
        by_cases hc : k < len
        · have hc2 : ¬ (k : Int) < (most : Int) := by omega
          have HSL : Hid (rs = someL zs most) := some_all (by rw [HLZ.out]; omega) (by rw [HRT.out, show k = most by omega])
          go_wp2_with fail
          go_ret
          exact SomeX.mk HO.out HSL.out HB.out
        · have HSL : Hid (rs = someL zs most) := some_all (by rw [HLZ.out]; omega) (by rw [HRT.out, List.take_of_length_le (by rw [HLZ.out]; omega), List.take_of_length_le (by rw [HLZ.out]; omega)])
          go_wp2_with fail
          go_ret
          exact SomeX.mk HO.out HSL.out HB.out

end Go.Proofs.Ytfhlokjpdkmdjaa.book
