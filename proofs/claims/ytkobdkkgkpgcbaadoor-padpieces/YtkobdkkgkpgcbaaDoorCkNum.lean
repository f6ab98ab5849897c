/- Texts of digits that the statements make of bytes. -/
import Derived.Test.YtkobdkkgkpgcbaaDoorCkTxt
import Derived.Test.YtkobdkkgkpgcbaaDoorCkPick
import Derived.OwnWalk
import Derived.BigRegion
import Derived.DataReads
import Derived.Deep.QuietTactic
import Derived.BigQuiet
import Derived.Laws.BytesArg
import Derived.Laws.AppendOwnNone
import Derived.WalkSpells
import Derived.WalkLawsBesides
namespace Go.Proofs.YtkobdkkgkpgcbaaDoor.check
open Go.RowKit

/-- The slice a, len, cap reads as the bytes zs: its elements alone. -/
def RowB (w : World) (a : Option Addr) (len : Nat) (zs : List Int) : Prop :=
  zs.length = len ∧ (∀ z ∈ zs, 0 ≤ z ∧ z < 256) ∧ (len = 0 ∨ ∃ b off, a = some ⟨b, off, none⟩ ∧ ∀ i, i < len → w.cell? ⟨b, off + i, none⟩ = some (.int .u8 (zs.getD i 0)))

theorem rowB_of {w : World} {a : Option Addr} {len cap : Nat} {zs : List Int}
    (h : (a = none ∧ len = 0 ∧ cap = 0 ∧ zs = []) ∨ ∃ x, a = some x ∧ len ≤ cap ∧ cap ≤ maxLen ∧ zs.length = cap ∧ (∀ i, i < zs.length → w.cell? (x.add i) = some (.int .u8 (zs.getD i 0))) ∧ ∀ n ∈ zs, (Lit.int .u8 n).wf = true) :
    RowB w a len (zs.take len) ∧ len ≤ maxLen := by
  rcases h with ⟨rfl, rfl, rfl, rfl⟩ | ⟨x, rfl, h1, h2, h3, h4, h5⟩
  · exact ⟨⟨rfl, fun z hz => by simp at hz, .inl rfl⟩, Nat.zero_le _⟩
  · refine ⟨⟨by rw [List.length_take]; omega, fun z hz => ?_, ?_⟩, by omega⟩
    · have hb := h5 z (List.mem_of_mem_take hz)
      have hb' : 0 ≤ z ∧ z ≤ 255 := bounds_u8 hb
      omega
    · by_cases h0 : len = 0
      · exact .inl h0
      · refine .inr ?_
        obtain ⟨b, off, spot⟩ := x
        have hs : spot = none := by simpa [Addr.add] using World.cell?_spot (h4 0 (by omega))
        subst hs
        refine ⟨b, off, rfl, fun i hi => ?_⟩
        have := h4 i (by omega)
        rw [Addr.add_lit] at this
        rw [this]
        congr 2
        simp [hi]

theorem info_u8 : (Tryd.prog.info? 5).map (fun i => (i.zero, i.size, i.bytes)) = some (some (.int .u8 0), 1, 1) := by kernel_rfl

def numL (zs : List Int) (k : Nat) : List Int := (zs.take k).map fun z => 48 + z % 10
theorem numL_step {zs : List Int} {k : Nat} (hk : k < zs.length) : numL zs (k + 1) = numL zs k ++ [48 + zs.getD k 0 % 10] := by
  unfold numL
  rw [List.take_add_one, List.map_append]
  simp [List.getD, List.getElem?_eq_getElem hk]
theorem numL_len {zs : List Int} {k : Nat} (hk : k ≤ zs.length) : (numL zs k).length = k := by unfold numL; simp; omega
theorem numL_D (zs : List Int) (k : Nat) : allD (strOfNums (numL zs k)).data.toList = true := by
  rw [strOfNums_data]
  unfold allD
  rw [List.all_eq_true]
  intro c hc
  obtain ⟨n, hn, rfl⟩ := List.mem_map.1 hc
  obtain ⟨z, _, rfl⟩ := List.mem_map.1 hn
  simp only [isD, UInt8.toNat_ofNat', Bool.and_eq_true, decide_eq_true_eq]
  omega

/-- A text of digits was given back, one at least, so many at most. -/
def NumPost (w : World) (most : Nat) (e : Ending) (w' : World) : Prop :=
  ∃ s : ByteArray, e = .returned (.string s) ∧ 1 ≤ s.size ∧ s.size ≤ most ∧ allD s.data.toList = true ∧ Below w.heap.size w w'
theorem NumPost.mk {w w' : World} {most : Nat} {s : ByteArray} (h1 : 1 ≤ s.size) (h2 : s.size ≤ most) (h3 : allD s.data.toList = true) (h4 : Below w.heap.size w w') : NumPost w most (.returned (.string s)) w' := ⟨s, rfl, h1, h2, h3, h4⟩

theorem own_belowB {w wr w1 : World} {v : Value} {k : Nat} {xs : List Value} (hb : Below w.heap.size w wr) (ho : wr.ownsRow w.heap.size 5 1 v k xs) (hg : wr.grownBy w1 v.ownBlock) : Below w.heap.size w w1 := by
  refine hb.grown hg hb.size fun j hj => ?_
  rcases ho.2 with ⟨rfl, _⟩ | ⟨g, cap, cur, rfl, hg', _⟩
  · simp [Value.ownBlock] at hj
  · simp [Value.ownBlock] at hj
    omega

theorem own_conv {w : World} {base n : Nat} {v : Value} {l : List Int} (h : w.ownsRow base 5 1 v n (l.map (.int .u8))) (hn : 0 < n) :
    ∃ a cap, v = .slice a n cap ∧ (convert 37 9 (.slice a n cap)).run Tryd.prog w = .ok (.string (strOfNums l)) w := by
  have hl : l.length = n := by simpa using h.1
  rcases h.2 with ⟨rfl, rfl⟩ | ⟨g, cap, cur, rfl, _, _, hc, _⟩
  · omega
  · refine ⟨_, cap, rfl, ?_⟩
    refine run_convert_bytes_arg w 37 5 Tryd.underlying37 Tryd.underlying5 g 0 n cap l hl (fun i hi => ?_) 9 Tryd.underlying9
    have := h.cells (g := g) rfl i (.int .u8 (l.getD i 0)) (by simp [List.getElem?_eq_getElem (show i < l.length by omega), List.getD])
    simpa [Addr.add_lit] using this

set_option maxHeartbeats 1000000 in
theorem numerals_any (a : Option Addr) (len cap : Nat) (zs : List Int) (most : Nat) (w : World) (hr : RowB w a len zs) (hl : len ≤ maxLen) (hm : 1 ≤ most) (hm2 : most ≤ 200) :
    Calls Tryd.prog 16 #[.slice a len cap, .int .i64 (most : Int)] w fun e w' => NumPost w most e w' := by
  obtain ⟨i0, hi, hz0, hz1, hz2⟩ := info_parts info_u8
  obtain ⟨hz, hzb, hr⟩ := hr
  unfold maxLen at hl
  go_enter Tryd.func16, Tryd.ntmps16
  go_wp2_with fail
  go_loopw [5, 6] (fun v i wr => ∃ (k : Nat) (V : Value), V = v ∧ k ≤ len ∧ k ≤ most ∧ i = .int .i64 (k : Int) ∧ wr.ownsRow w.heap.size 5 1 V k ((numL zs k).map (.int .u8)) ∧ Below w.heap.size w wr) (fun _ i _ => len - (intOf i).toNat)
  case atStart => exact ⟨0, _, rfl, Nat.zero_le _, Nat.zero_le _, rfl, World.ownsRow_nil _ _ _ _, Below.refl _ _⟩
  case round =>
    obtain ⟨k, V, hV, hk, hk5, rfl, hown, hb⟩ := hrel
    subst hV
    by_cases hgo : k < len ∧ k < most
    · obtain ⟨hlt, hlt5⟩ := hgo
      rcases hr with h0 | ⟨b, off, rfl, hc⟩
      · omega
      have h1 := hc k hlt
      have hcell : wr.cell? ⟨b, off + k, none⟩ = some (.int .u8 (zs.getD k 0)) := (hb.cell (p := ⟨b, off + k, none⟩) (World.block_lt_of_cell? w _ h1)).trans h1
      have HS : Hid (numL zs (k + 1) = numL zs k ++ [48 + zs.getD k 0 % 10]) := numL_step (by omega)
      have hzw := hzb (zs.getD k 0) (by simp [List.getD, List.getElem?_eq_getElem (show k < zs.length by omega)])
      have hl2 : (numL zs k).length = k := numL_len (by omega)
      clear hc h1 hzb
      generalize zs.getD k 0 = z at *
      generalize numL zs k = l at *
      obtain ⟨z0, z1⟩ := hzw
      go_wp2_with (first
        | (at_builtin; refine wpList_append_own _ rfl _ _ 37 rfl w.heap.size 5 i0 (.int .u8 0) 1 1 Tryd.underlying37 hi hz0 hz1 hz2 rfl (by decide) _ _ _ rfl (hown.alloc _) ⟨wr.heap.size, 0, none⟩ 1 1 [.int .u8 (48 + z % 10)] rfl rfl ?c1 ?c2 ?c3 ?c4 ?c5 ?_)
        | go_in)
      case c1 =>
        intro j u hj
        match j, hj with
        | 0, hj => simp at hj; subst hj; simp [Addr.add]
      case c2 => intro u hu; simp at hu; subst hu; rfl
      case c3 => unfold maxLen; omega
      case c4 => omega
      case c5 => have := hb.size; simp; omega
      intro v' w1 hown' hg _
      have HB : Hid (Below w.heap.size w w1) := own_belowB (hb.alloc hb.size _) (hown.alloc _) hg
      have HO : Hid (w1.ownsRow w.heap.size 5 1 v' (k + 1) ((l ++ [48 + z % 10]).map (.int .u8))) := by rw [List.map_append]; exact hown'
      clear hown hown' hg hb
      go_wp2
      go_roundw
      case rel => exact ⟨k + 1, _, rfl, by omega, by omega, by go_num, by rw [HS.out]; exact HO.out, HB.out⟩
      case measure => simp [intOf]; omega
    · have hl2 : (numL zs k).length = k := numL_len (by omega)
      have HD : Hid (allD (strOfNums (numL zs k)).data.toList = true) := numL_D zs k
      have HB : Hid (Below w.heap.size w wr) := hb
      by_cases hk0 : k = 0
      · subst hk0
        obtain ⟨a', cap', hv⟩ : ∃ a' cap', V = .slice a' 0 cap' := by
          rcases hown.2 with ⟨rfl, _⟩ | ⟨g, cp, cur, rfl, _⟩
          · exact ⟨none, 0, rfl⟩
          · exact ⟨_, _, rfl⟩
        subst hv
        clear hown hb HD hl2 hr hzb
        by_cases hc : 0 < len
        · omega
        · go_wp2_with fail
          go_ret
          exact NumPost.mk (by decide) (by exact hm) (by decide) HB.out
      · obtain ⟨a', cap', hv, hcv⟩ := own_conv hown (by omega)
        subst hv
        have HZ : Hid ((strOfNums (numL zs k)).size = k) := by
          show _ = _
          rw [strOfNums_size, hl2]
        have e0 : ((k : Int) == 0) = false := by simp; omega
        clear hown hb hl2 hr hzb
        generalize strOfNums (numL zs k) = S at *
        by_cases hc : k < len
        · have hc2 : ¬ (k : Int) < (most : Int) := by omega
          go_wp2_with fail
          go_ret
          exact NumPost.mk (by rw [HZ.out]; omega) (by rw [HZ.out]; exact hk5) HD.out HB.out
        · go_wp2_with fail
          go_ret
          exact NumPost.mk (by rw [HZ.out]; omega) (by rw [HZ.out]; exact hk5) HD.out HB.out

end Go.Proofs.YtkobdkkgkpgcbaaDoor.check
