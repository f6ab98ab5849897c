/- Words that the statements make: all of a list, one at least. -/
import Derived.Test.YtmpapnblpjnlmabWRow
namespace Go.Proofs.Ytmpapnblpjnlmab.cell
open Go.RowKit
set_option maxRecDepth 100000
set_option linter.unusedVariables false

/-- One word is put behind the others, however many there are. -/
theorem wp_wordB {w : World} {ops : Array Oper} {rest : List Oper} {o : Oper} {a : Act} {Q : Exit → Act → World → Prop} (hgd : o.guard = none) (s x : Operand)
    (ho : o.op = .call { callee := .builtin .append, args := #[s, x], argTypes := #[22, 22] })
    (base G : Nat) (v : Value) (l : List Int) (r : Int) (hs : a.eval s = v) (hx : a.eval x = .slice (some ⟨G, 0, none⟩) 1 1) (hv : Ws w base v l) (hu : w.cell? ⟨G, 0, none⟩ = some (.int .u32 r)) (hn : (l.length + 1) * 4 ≤ 140737488355328) (hbase : base ≤ w.heap.size)
    (h : ∀ v' w', Ws w' base v' (l ++ [r]) → w.grownBy w' v.ownBlock → wpList Try.prog ops Q rest (a.put o.dst v') w') : wpList Try.prog ops Q (o :: rest) a w := by
  obtain ⟨i0, hi, hz0, hz1, hz2⟩ := info_parts info_u32
  refine wpList_append_own w hgd s x 22 ho base 43 i0 (.int .u32 0) 1 4 Try.underlying22 hi hz0 hz1 hz2 rfl (by decide) v l.length (l.map (.int .u32)) hs hv ⟨G, 0, none⟩ 1 1 [.int .u32 r] hx rfl ?_ ?_ (by unfold maxLen; omega) hn hbase ?_
  · intro j u hj
    match j, hj with
    | 0, hj => simp at hj; subst hj; simpa [Addr.add] using hu
  · intro u hu; simp at hu; subst hu; rfl
  intro v' w' h1 h2 _
  refine h v' w' ?_ h2
  unfold Ws
  rw [List.length_append, List.map_append]
  exact h1
/-- All of a list, or one nought. -/
def allOr (zs : List Int) : List Int := if zs = [] then [0] else zs
def GaveA (w : World) (zs : List Int) (e : Ending) (w' : World) : Prop := ∃ v, e = .returned v ∧ Ws w' w.heap.size v zs ∧ Below w.heap.size w w'
theorem take_one (zs : List Int) (k : Nat) (h : k < zs.length) : zs.take k ++ [zs.getD k 0] = zs.take (k + 1) := by
  rw [List.take_succ_eq_append_getElem h]
  congr 2
  simp [List.getD, List.getElem?_eq_getElem h]
theorem wcell (w : World) (d : Int) : (w.alloc (.cells #[.int .u32 d] 43)).cell? ⟨w.heap.size, 0, none⟩ = some (.int .u32 d) := (Blk.new w _ _).cell 0

set_option maxHeartbeats 1000000 in
theorem some_all (a : Option Addr) (len cap : Nat) (zs : List Int) (w : World) (hr : RowU w a len zs) (hs : len * 4 ≤ 140737488351232) :
    Calls Try.prog 6 #[.slice a len cap, .int .i64 (len : Int)] w fun e w' => GaveA w (allOr zs) e w' := by
  have HR : Hid (RowU w a len zs) := hr
  have HL : Hid (zs.length = len) := hr.1
  clear hr
  go_enter Try.func6, Try.ntmps6
  go_wp2_with fail
  go_loopw [5, 6] (fun v i wr => ∃ (k : Nat) (V : Value), V = v ∧ k ≤ len ∧ i = .int .i64 (k : Int) ∧ Ws wr w.heap.size V (zs.take k) ∧ Below w.heap.size w wr) (fun _ i _ => len - (intOf i).toNat)
  case atStart => exact ⟨0, _, rfl, Nat.zero_le _, rfl, Ws.zero _ _, Below.refl _ _⟩
  case round =>
    obtain ⟨k, V, hV, hk, rfl, hown, hb⟩ := hrel
    subst hV
    have HO : Hid (Ws wr w.heap.size V (zs.take k)) := hown
    have HB : Hid (Below w.heap.size w wr) := hb
    have hkl : (zs.take k).length = k := by rw [List.length_take, HL.out]; omega
    clear hown hb
    by_cases hlt : k < len
    · obtain ⟨b, off, rfl, l1, hc⟩ := HR.out.at (by omega)
      have hcell : wr.cell? ⟨b, off + k, none⟩ = some (.int .u32 (zs.getD k 0)) := (HB.out.cell (p := ⟨b, off + k, none⟩) l1).trans (hc k hlt)
      have HT : Hid (zs.take k ++ [zs.getD k 0] = zs.take (k + 1)) := take_one zs k (by rw [HL.out]; exact hlt)
      have HBY : Hid (((zs.take k).length + 1) * 4 ≤ 140737488355328) := by show _ ≤ _; rw [hkl]; omega
      clear hc l1 hkl
      generalize zs.getD k 0 = z at *
      generalize zs.take k = rs at *
      have HG : Hid ((wr.alloc (.cells #[.int .u32 z] 43)).cell? ⟨wr.heap.size, 0, none⟩ = some (.int .u32 z)) := wcell wr z
      have HOA : Hid (Ws (wr.alloc (.cells #[.int .u32 z] 43)) w.heap.size V rs) := HO.out.alloc _
      have HSZ : Hid (w.heap.size ≤ (wr.alloc (.cells #[.int .u32 z] 43)).heap.size) := alloc_le HB.out.size _
      go_wp2_with (first
        | (at_builtin; refine wp_wordB rfl _ _ rfl w.heap.size wr.heap.size _ rs z rfl rfl HOA.out HG.out HBY.out HSZ.out ?_)
        | go_in)
      intro v' w4 hL4 hg4
      have HL4 : Hid (Ws w4 w.heap.size v' (zs.take (k + 1))) := by have := HT.out; rw [this] at hL4; exact hL4
      have HB4 : Hid (Below w.heap.size w w4) := own_bel HOA.out hg4 (HB.out.alloc HB.out.size _) (Nat.le_refl _) HSZ.out
      clear hL4 hg4 HOA HO HB HG HSZ HT HBY
      go_wp2_with fail
      go_roundw
      case rel => exact ⟨k + 1, _, rfl, by omega, by go_num, HL4.out, HB4.out⟩
      case measure => simp [intOf]; omega
    · obtain rfl : k = len := by omega
      obtain ⟨av, cv, rfl, hrv, hnv, hcv⟩ := HO.out.row
      clear hrv hnv hcv
      have HZ : Hid (zs.take k = zs) := List.take_of_length_le (by rw [HL.out]; exact Nat.le_refl _)
      rw [hkl] at HO ⊢
      by_cases h0 : k = 0
      · subst h0
        have h00 : zs = [] := List.eq_nil_of_length_eq_zero HL.out
        have HAO : Hid (allOr zs = [] ++ [0]) := by show _ = _; rw [h00]; rfl
        have HG : Hid ((wr.alloc (.cells #[.int .u32 0] 43)).cell? ⟨wr.heap.size, 0, none⟩ = some (.int .u32 0)) := wcell wr 0
        have HOA : Hid (Ws (wr.alloc (.cells #[.int .u32 0] 43)) w.heap.size (.slice av 0 cv) []) := HO.out.alloc _
        have HSZ : Hid (w.heap.size ≤ (wr.alloc (.cells #[.int .u32 0] 43)).heap.size) := alloc_le HB.out.size _
        clear h00 hkl HZ HR HL
        go_wp2_with (first
          | (at_builtin; refine wp_wordB rfl _ _ rfl w.heap.size wr.heap.size _ [] 0 rfl rfl HOA.out HG.out (by decide) HSZ.out ?_)
          | go_in)
        intro v' w4 hL4 hg4
        have HL4 : Hid (Ws w4 w.heap.size v' (allOr zs)) := by rw [HAO.out]; exact hL4
        have HB4 : Hid (Below w.heap.size w w4) := own_bel HOA.out hg4 (HB.out.alloc HB.out.size _) (Nat.le_refl _) HSZ.out
        clear hL4 hg4 HOA HO HB HG HSZ HAO
        go_wp2_with fail
        go_ret
        exact ⟨_, rfl, HL4.out, HB4.out⟩
      · have h0' : ((k : Int) == 0) = false := by simp; omega
        have HF : Hid (Ws wr w.heap.size (.slice av k cv) (allOr zs)) := by
          have := HO.out
          rw [HZ.out] at this
          have e : allOr zs = zs := by unfold allOr; rw [if_neg]; intro hz; have := HL.out; rw [hz] at this; simp at this; omega
          rw [e]; exact this
        clear hkl HZ HR HL HO
        go_wp2_with fail
        go_ret
        exact ⟨_, rfl, HF.out, HB.out⟩

end Go.Proofs.Ytmpapnblpjnlmab.cell
