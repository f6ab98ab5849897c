/- Weights that may be, not all 0, as vendmeterkeep.dealt makes them of whatever numbers. -/
import Derived.Test.YtipihacnkiijaaaCopy
import Derived.Test.YtipihacnkiijaaaAdd
import Derived.Laws.AppendOwnNone
namespace Go.Proofs.Ytipihacnkiijaaa.cents
open Go.RowKit

/-- A slice was given back: weights that may be, one at least, not all 0. -/
def WtsPost (w : World) (e : Ending) (w' : World) : Prop :=
  ∃ a n cap ys, e = .returned (.slice a n cap) ∧ Row w' a n ys ∧ 0 < n ∧ n ≤ 50 ∧ okAll 0 1000000 ys = true ∧ 0 < ys.sum ∧ Below w.heap.size w w'
theorem WtsPost.mk {w w' : World} {a : Option Addr} {n cap : Nat} {ys : List Int} (h1 : Row w' a n ys) (h2 : 0 < n) (h3 : n ≤ 50) (h4 : okAll 0 1000000 ys = true) (h5 : 0 < ys.sum) (h6 : Below w.heap.size w w') : WtsPost w (.returned (.slice a n cap)) w' := ⟨a, n, cap, ys, rfl, h1, h2, h3, h4, h5, h6⟩

def wts (zs : List Int) (k : Nat) : List Int := (zs.take k).map (pick · 1000001)

theorem wts_step {zs : List Int} {k : Nat} (hk : k < zs.length) : wts zs (k + 1) = wts zs k ++ [pick (zs.getD k 0) 1000001] := by
  unfold wts
  rw [List.take_add_one, List.map_append]
  simp [List.getD, List.getElem?_eq_getElem hk]
theorem wts_len {zs : List Int} {k : Nat} (hk : k ≤ zs.length) : (wts zs k).length = k := by unfold wts; simp; omega
theorem wts_mem {zs : List Int} {k : Nat} {z : Int} (h : z ∈ wts zs k) : 0 ≤ z ∧ z ≤ 1000000 := by
  obtain ⟨y, _, rfl⟩ := List.mem_map.1 h
  have h1 := pick_nonneg y 1000001 (by omega)
  have h2 := pick_lt y 1000001 (by omega)
  exact ⟨h1, by omega⟩
theorem ok_of {l : List Int} (h : ∀ z ∈ l, 0 ≤ z ∧ z ≤ 1000000) : okAll 0 1000000 l = true := by
  unfold okAll
  rw [List.all_eq_true]
  intro z hz
  have := h z hz
  simpa using this
theorem wts_sum {zs : List Int} {k : Nat} (hk : k ≤ zs.length) : 0 ≤ (wts zs k).sum ∧ (wts zs k).sum ≤ 1000000 * k := by
  have h : ∀ l : List Int, (∀ z ∈ l, 0 ≤ z ∧ z ≤ 1000000) → 0 ≤ l.sum ∧ l.sum ≤ 1000000 * (l.length : Int) := by
    intro l hl
    induction l with
    | nil => simp
    | cons x r ih =>
      have := ih fun z hz => hl z (List.mem_cons_of_mem _ hz)
      have := hl x (List.mem_cons_self ..)
      simp only [List.sum_cons, List.length_cons]
      omega
  have := h (wts zs k) fun z hz => wts_mem hz
  rwa [wts_len hk] at this

theorem arg_wf {w : World} {a : Option Addr} {len cap : Nat} {zs : List Int}
    (h : (a = none ∧ len = 0 ∧ cap = 0 ∧ zs = []) ∨ ∃ x, a = some x ∧ len ≤ cap ∧ cap * 8 ≤ 140737488351232 ∧ zs.length = cap ∧ (∀ i, i < zs.length → w.cell? (x.add i) = some (.int .i64 (zs.getD i 0))) ∧ ∀ n ∈ zs, (Lit.int .i64 n).wf = true) :
    ∀ z ∈ zs.take len, (Lit.int .i64 z).wf = true := by
  rcases h with ⟨rfl, rfl, rfl, rfl⟩ | ⟨x, rfl, h1, h2, h3, h4, h5⟩
  · intro z hz; simp at hz
  · intro z hz; exact h5 z (List.mem_of_mem_take hz)

theorem own_below {w wr w1 : World} {v : Value} {k : Nat} {xs : List Value} (hb : Below w.heap.size w wr) (ho : wr.ownsRow w.heap.size 3 1 v k xs) (hg : wr.grownBy w1 v.ownBlock) : Below w.heap.size w w1 := by
  refine hb.grown hg hb.size fun j hj => ?_
  rcases ho.2 with ⟨rfl, _⟩ | ⟨g, cap, cur, rfl, hg', _⟩
  · simp [Value.ownBlock] at hj
  · simp [Value.ownBlock] at hj
    omega

theorem wts_last {w wr w1 : World} {o : Obj} {v : Value} {l : List Int} {m : Nat} (hb : Below w.heap.size w wr) (hok : ∀ z ∈ l, 0 ≤ z ∧ z ≤ 1000000) (hl : (l.take m).length = m) (hm : m ≤ 49)
    (ho : w1.ownsRow w.heap.size 3 1 v (1 + m) (Value.int .i64 1 :: (l.take m).map (.int .i64))) (hg : (wr.alloc o).grownBy w1 (Value.slice (some ⟨wr.heap.size, 0, none⟩) 1 1).ownBlock) :
    ∃ a cap, v = .slice a (1 + m) cap ∧ WtsPost w (.returned (.slice a (1 + m) cap)) w1 := by
  have ho' : w1.ownsRow w.heap.size 3 1 v (1 + m) ((1 :: l.take m).map (.int .i64)) := ho
  obtain ⟨a, cap, hv, hrow, _⟩ := own_row ho'
  have hb1 : Below w.heap.size w w1 := (hb.alloc hb.size o).grown hg (by have := hb.size; simp; omega) fun j hj => by
    simp [Value.ownBlock] at hj
    have := hb.size
    omega
  have hmem : ∀ z ∈ (1 :: l.take m), 0 ≤ z ∧ z ≤ 1000000 := by
    intro z hz
    rcases List.mem_cons.1 hz with rfl | hz
    · omega
    · exact hok z (List.mem_of_mem_take hz)
  refine ⟨a, cap, hv, WtsPost.mk hrow (by omega) (by omega) (ok_of hmem) ?_ hb1⟩
  have : ∀ q : List Int, (∀ z ∈ q, 0 ≤ z) → 0 ≤ q.sum := by
    intro q hq
    induction q with
    | nil => simp
    | cons x r ih =>
      have := ih fun z hz => hq z (List.mem_cons_of_mem _ hz)
      have := hq x (List.mem_cons_self ..)
      simp only [List.sum_cons]; omega
  have h0 := this (l.take m) fun z hz => (hok z (List.mem_of_mem_take hz)).1
  rw [List.sum_cons]; omega

set_option maxHeartbeats 1000000 in
theorem wts_any (a : Option Addr) (len cap : Nat) (zs : List Int) (w : World) (hr : Row w a len zs) (hwf : ∀ z ∈ zs, (Lit.int .i64 z).wf = true) (hl : len * 8 ≤ 140737488351232) :
    Calls Try.prog 14 #[.slice a len cap] w fun e w' => WtsPost w e w' := by
  obtain ⟨i0, hi, hz0, hz1, hz2⟩ := info_parts info_int
  obtain ⟨hz, hr⟩ := hr
  go_enter Try.func14, Try.ntmps14
  go_wp2
  go_loopw [3, 4, 5] (fun v s i wr => ∃ k : Nat, k ≤ len ∧ k ≤ 50 ∧ i = .int .i64 k ∧ s = .int .i64 (wts zs k).sum ∧ wr.ownsRow w.heap.size 3 1 v k ((wts zs k).map (.int .i64)) ∧ Below w.heap.size w wr) (fun _ _ i _ => len - (intOf i).toNat)
  case atStart => exact ⟨0, Nat.zero_le _, Nat.zero_le _, rfl, rfl, World.ownsRow_nil _ _ _ _, Below.refl _ _⟩
  case round =>
    obtain ⟨k, hk, hk5, rfl, rfl, hown, hb⟩ := hrel
    have hsum := wts_sum (zs := zs) (k := k) (by omega)
    by_cases hgo : k < len ∧ k < 50
    · obtain ⟨hlt, hlt5⟩ := hgo
      · rcases hr with h0 | ⟨b, off, rfl, hc⟩
        · omega
        have h1 := hc k hlt
        have hcell : wr.cell? ⟨b, off + k, none⟩ = some (.int .i64 (zs.getD k 0)) := (hb.cell (p := ⟨b, off + k, none⟩) (block_lt h1)).trans h1
        have HS : Hid (wts zs (k + 1) = wts zs k ++ [pick (zs.getD k 0) 1000001]) := wts_step (by omega)
        have hzw := hwf (zs.getD k 0) (by simp [List.getD, List.getElem?_eq_getElem (show k < zs.length by omega)])
        have hl2 : (wts zs k).length = k := wts_len (by omega)
        clear hc h1 hwf
        generalize zs.getD k 0 = z at *
        have p1 := pick_nonneg z 1000001 (by omega)
        have p2 := pick_lt z 1000001 (by omega)
        go_wp2_with fail
        refine (picked_any z 1000001 _ hzw (by omega) (by omega)).mono ?_
        rintro e wr ⟨rfl, rfl⟩
        clear hzw hcell
        generalize pick z 1000001 = p at *
        generalize wts zs k = l at *
        go_wp2_with (first
          | (at_builtin; refine wpList_append_own _ rfl _ _ 22 rfl w.heap.size 3 i0 (.int .i64 0) 1 8 Try.underlying22 hi hz0 hz1 hz2 rfl (by decide) _ _ _ rfl (hown.alloc _) ⟨wr.heap.size, 0, none⟩ 1 1 [.int .i64 p] rfl rfl ?c1 ?c2 ?c3 ?c4 ?c5 ?_)
          | go_in)
        case c1 =>
          intro j u hj
          match j, hj with
          | 0, hj => simp at hj; subst hj; simp [Addr.add]
        case c2 => intro u hu; simp at hu; subst hu; rfl
        case c3 => unfold maxLen; omega
        case c4 => omega
        case c5 => have := hb.size; simp; omega
        intro v' w1 hown' hg _
        have HB : Hid (Below w.heap.size w w1) := own_below (hb.alloc hb.size _) (hown.alloc _) hg
        have HO : Hid (w1.ownsRow w.heap.size 3 1 v' (k + 1) ((l ++ [p]).map (.int .i64))) := by rw [List.map_append]; exact hown'
        have hv : (l ++ [p]).sum = l.sum + p := by rw [List.sum_append]; simp
        have HV : Hid ((l ++ [p]).sum = l.sum + p) := hv
        clear hv
        clear hown hown' hg hb
        generalize l.sum = s at *
        go_wp2
        go_roundw
        case rel => exact ⟨k + 1, by omega, by omega, by go_num, by rw [HS.out, HV.out], by rw [HS.out]; exact HO.out, HB.out⟩
        case measure => simp [intOf]; omega
    · have hl2 : (wts zs k).length = k := wts_len (by omega)
      have hok : ∀ z ∈ wts zs k, 0 ≤ z ∧ z ≤ 1000000 := fun z hz => wts_mem hz
      generalize wts zs k = l at *
      by_cases hs0 : l.sum = 0
      · have HL : Hid (l.length = k ∧ ∀ z ∈ l, 0 ≤ z ∧ z ≤ 1000000) := ⟨hl2, hok⟩
        have e0 : (l.sum == 0) = true := by simp [hs0]
        rcases hown.2 with ⟨rfl, h0⟩ | ⟨g, cp, cur, rfl, hbg, hrow, hkc, hcm, hcs, hct⟩
        · subst h0
          clear hsum hl2 hok hs0
          have hlt : ¬ 0 < len := by omega
          clear hr hwf hgo hown
          go_wp2_with fail
          go_ret
          exact WtsPost.mk (ys := [1]) ⟨rfl, .inr ⟨_, 0, rfl, fun i hi => by obtain rfl : i = 0 := by omega
                                                                             simp⟩⟩ (by omega) (by omega) (by decide) (by decide) (hb.alloc hb.size _)
        · have HC : Hid (∀ (m j : Nat) (u : Value), ((l.take m).map (Value.int .i64))[j]? = some u → (wr.alloc (.cells #[.int .i64 1] 3)).cell? (Addr.add ⟨g, 0, none⟩ j) = some u) := by
            intro m j u hu
            rw [World.cell?_of_block (w := wr)]
            · have hj : (l.map (Value.int .i64))[j]? = some u := by
                rw [List.map_take] at hu
                by_cases hjm : j < m
                · rwa [List.getElem?_take_of_lt hjm] at hu
                · rw [List.getElem?_eq_none (by simp; omega)] at hu; cases hu
              exact hown.cells (g := g) rfl j u hj
            · have hg : g < wr.heap.size := by
                by_cases hh : g < wr.heap.size
                · exact hh
                · rw [Array.getElem?_eq_none (by omega)] at hrow; cases hrow
              have hbk : (Addr.add ⟨g, 0, none⟩ j).block = g := by rw [Addr.add_lit]
              rw [hbk]
              show (wr.heap.push _)[g]? = _
              rw [Array.getElem?_push, if_neg (by omega)]
          clear hown hsum hl2 hok hs0 hr hwf hcs hct hrow
          by_cases hk50 : k = 50
          · subst hk50
            by_cases hlt : 50 < len
            all_goals
              go_wp2_with (first
                | (at_builtin; refine wpList_append_own _ rfl _ _ 22 rfl w.heap.size 3 i0 (.int .i64 0) 1 8 Try.underlying22 hi hz0 hz1 hz2 rfl (by decide) _ 1 [.int .i64 1] rfl ?b0 ⟨g, 0, none⟩ 49 cp ((l.take 49).map (.int .i64)) rfl ?b1 ?b2 ?b3 ?b4 ?b5 ?b6 ?_)
                | go_in)
              case b0 => exact World.ownsRow_lit _ _ _ hb.size (by unfold maxLen; omega) rfl
              case b1 => simp [HL.out.1]
              case b2 =>
                intro j u hj
                have h2 := HC.out 49 j u (by simpa [List.map_take] using hj)
                simpa [Addr.add_lit] using h2
              case b3 =>
                intro u hu
                have h3 : u ∈ l.map (Value.int .i64) := by first | exact List.mem_of_mem_take hu | (rw [List.map_take] at hu; exact List.mem_of_mem_take hu)
                obtain ⟨z, _, rfl⟩ := List.mem_map.1 h3
                rfl
              try (case b4 => unfold maxLen; omega)
              try (case b5 => omega)
              case b6 => have := hb.size; simp; omega
              intro v' w1 hown' hg _
              have HP := wts_last (m := 49) hb HL.out.2 (by rw [List.length_take, HL.out.1]; omega) (by omega) (by simpa [List.map_take] using hown') hg
              clear hown' hg hb
              obtain ⟨a', cap', rfl, HP⟩ := HP
              go_wp2_with fail
              go_ret
              exact HP
          · have hlt : ¬ k < len := by omega
            have hk49 : k ≤ 49 := by omega
            go_wp2_with (first
              | (at_builtin; refine wpList_append_own _ rfl _ _ 22 rfl w.heap.size 3 i0 (.int .i64 0) 1 8 Try.underlying22 hi hz0 hz1 hz2 rfl (by decide) _ 1 [.int .i64 1] rfl ?d0 ⟨g, 0, none⟩ k cp ((l.take k).map (.int .i64)) rfl ?d1 ?d2 ?d3 ?d4 ?d5 ?d6 ?_)
              | go_in)
            case d0 => exact World.ownsRow_lit _ _ _ hb.size (by unfold maxLen; omega) rfl
            case d1 => simp [HL.out.1]
            case d2 =>
              intro j u hj
              have h2 := HC.out k j u (by simpa [List.map_take] using hj)
              simpa [Addr.add_lit] using h2
            case d3 =>
              intro u hu
              have h3 : u ∈ l.map (Value.int .i64) := by first | exact List.mem_of_mem_take hu | (rw [List.map_take] at hu; exact List.mem_of_mem_take hu)
              obtain ⟨z, _, rfl⟩ := List.mem_map.1 h3
              rfl
            try (case d4 => unfold maxLen; omega)
            try (case d5 => omega)
            case d6 => have := hb.size; simp; omega
            intro v' w1 hown' hg _
            have HP := wts_last (m := k) hb HL.out.2 (by rw [List.length_take, HL.out.1]; omega) (by omega) (by simpa [List.map_take] using hown') hg
            clear hown' hg hb
            obtain ⟨a', cap', rfl, HP⟩ := HP
            go_wp2_with fail
            go_ret
            exact HP
      · obtain ⟨a', cap', rfl, hrow, _⟩ := own_row hown
        have HP : Hid (WtsPost w (.returned (.slice a' k cap')) wr) := by
          refine WtsPost.mk hrow ?_ hk5 (ok_of hok) (by omega) hb
          by_cases h0 : k = 0
          · subst h0
            rw [List.eq_nil_of_length_eq_zero hl2] at hs0
            exact absurd rfl hs0
          · omega
        have e0 : (l.sum == 0) = false := by simp [hs0]
        clear hown hb hok hr hwf hl2 hs0
        by_cases hlt : k < len
        all_goals
          go_wp2_with fail
          go_ret
          exact HP.out

end Go.Proofs.Ytipihacnkiijaaa.cents
