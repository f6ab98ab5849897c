/- The places, those of which most was rounded away first, of several alike the first ones. -/
import Derived.Test.YtipihacnkiijaaaKeys
namespace Go.Proofs.Ytipihacnkiijaaa.cents
open Go.RowKit

/-- A row that was made is all noughts. -/
theorem own_made {w1 : World} {n g base : Nat} (h : w1.ownsRow base 3 1 (.slice (some ⟨g, 0, none⟩) n n) n (madeCells #[Value.int .i64 0] n).toList) : Own w1 w1 g n (fun _ => 0) := by
  rcases h.2 with ⟨h1, _⟩ | ⟨g', cap, cur, h1, _, h2, _, _, h3, h4⟩
  · cases h1
  · simp only [Value.slice.injEq, Option.some.injEq, Addr.mk.injEq] at h1
    obtain ⟨⟨rfl, -⟩, -, rfl⟩ := h1
    refine ⟨rfl, rfl, rfl, rfl, fun _ _ => rfl, ?_⟩
    rw [h2]
    congr 2
    apply Array.ext'
    have e1 : cur.toList = (madeCells #[Value.int .i64 0] n).toList := by
      rw [← h4, List.take_of_length_le (by simp; omega)]
    rw [e1, toList_madeCells_one]
    apply List.ext_getElem?
    intro k
    by_cases hk : k < n
    · simp [hk]
    · rw [List.getElem?_eq_none (by simp; omega), List.getElem?_eq_none (by simp; omega)]

theorem Caps.own {w0 w : World} {g n T W S : Nat} {f : Nat → Int} {total all : Int} {a : Option Addr} {len cap : Nat} {zs : List Int} (hc : Caps w0 T W S total all a len cap zs) (ho : Own w0 w g n f) (hT : T ≠ g) (hW : W ≠ g) (hS : S ≠ g)
    (hA : ∀ b off, a = some ⟨b, off, none⟩ → 0 < len → b ≠ g) : Caps w T W S total all a len cap zs := by
  have cell : ∀ p : Addr, p.block ≠ g → w.cell? p = w0.cell? p := fun p hp => World.cell?_of_block (ho.other p.block hp)
  refine ⟨by rw [cell _ hT]; exact hc.c1, by rw [cell _ hW]; exact hc.c2, by rw [cell _ hS]; exact hc.c3, hc.row.1, ?_⟩
  rcases hc.row.2 with h | ⟨b, off, rfl, hcell⟩
  · exact .inl h
  · by_cases h0 : len = 0
    · exact .inl h0
    · refine .inr ⟨b, off, rfl, fun i hi => ?_⟩
      rw [cell _ (hA b off rfl (by omega))]
      exact hcell i hi

theorem Caps.below {w w' : World} {T W S : Nat} {total all : Int} {a : Option Addr} {len cap : Nat} {zs : List Int} (hc : Caps w T W S total all a len cap zs) (hb : Below w.heap.size w w') : Caps w' T W S total all a len cap zs :=
  ⟨by rw [hb.cell (block_lt hc.c1)]; exact hc.c1, by rw [hb.cell (block_lt hc.c2)]; exact hc.c2, by rw [hb.cell (block_lt hc.c3)]; exact hc.c3, hc.row.below hb⟩

/-- The places were given back, in a new block g, as f has them. -/
def MostPost (w : World) (n : Nat) (key : Int → Int) (e : Ending) (w' : World) : Prop :=
  ∃ g f, e = .returned (.slice (some ⟨g, 0, none⟩) n n) ∧ w.heap.size ≤ g ∧ g < w'.heap.size ∧ Below w.heap.size w w' ∧ (∀ i, i < n → w'.cell? ⟨g, i, none⟩ = some (.int .i64 (f i))) ∧ Mix idz f 0 n ∧ Srt key f 0 n
theorem MostPost.mk {w w' : World} {n g : Nat} {key : Int → Int} {f : Nat → Int} (h1 : w.heap.size ≤ g) (h2 : g < w'.heap.size) (h3 : Below w.heap.size w w') (h4 : ∀ i, i < n → w'.cell? ⟨g, i, none⟩ = some (.int .i64 (f i))) (h5 : Mix idz f 0 n) (h6 : Srt key f 0 n) : MostPost w n key (.returned (.slice (some ⟨g, 0, none⟩) n n)) w' := ⟨g, f, rfl, h1, h2, h3, h4, h5, h6⟩

set_option maxHeartbeats 2000000 in
theorem most_any {w : World} {T W S : Nat} {total all : Int} {a : Option Addr} {len cap : Nat} {zs : List Int} (hc : Caps w T W S total all a len cap zs) (hf : Fit total all len zs) :
    Calls Try.prog 22 #[.int .i64 len, lostV T W S] w fun e w' => MostPost w len (lost total all zs) e w' := by
  obtain ⟨i0, hi, hz0, hz1, hz2⟩ := info_parts info_int
  have HC : Hid (Caps w T W S total all a len cap zs) := hc
  have HF : Hid (Fit total all len zs) := hf
  have hl := hf.l0
  clear hc hf
  go_enter Try.func22, Try.ntmps22
  go_wp2_with (first
    | (at_make; refine wpList_make_full _ rfl _ _ 22 rfl (w.heap.size + 1) 3 i0 (.int .i64 0) 1 Try.underlying22 hi hz0 hz1 _ _ _ _ len rfl rfl ?c0 ?c1 ?c2 ?c3 ?c4 ?_))
  case c0 => rfl
  case c1 => rfl
  case c2 => rw [hz2]; omega
  case c3 => unfold maxLen; omega
  case c4 => simp
  intro w1 hown hgr
  have ho1 := own_made hown
  have hb1 : Below w.heap.size w w1 := (bel1 w _).trans (((Below.refl _ _).grown hgr (Nat.le_refl _) (fun k hk => by cases hk)).mono (by simp))
  have hB1 : w1.cell? ⟨w.heap.size, 0, none⟩ = some (lostV T W S) := by
    have e := World.cell?_of_block (w := w.alloc (.cells #[lostV T W S] 38)) (w' := w1) (a := ⟨w.heap.size, 0, none⟩) (hgr.block _ (by simp) (by simp))
    rw [e]; simp
  have hsz1 : w.heap.size + 1 < w1.heap.size := by
    by_cases hh : w.heap.size + 1 < w1.heap.size
    · exact hh
    · have := ho1.row; rw [Array.getElem?_eq_none (by omega)] at this; cases this
  have hc1 := HC.out.below hb1
  have hcmp : CmpOk w1 (w.heap.size + 1) len w.heap.size (lost total all zs) := by
    intro w' f x y ho x0 x1 y0 y1
    have l1 := block_lt HC.out.c1
    have l2 := block_lt HC.out.c2
    have l3 := block_lt HC.out.c3
    simp only at l1 l2 l3
    refine cmp_any (hc1.own ho (by omega) (by omega) (by omega) ?_) HF.out ?_ x y x0 x1 y0 y1
    · intro b off hab h0
      rcases HC.out.row.2 with h | ⟨b', off', hab', hcell⟩
      · omega
      · rw [hab] at hab'
        simp only [Option.some.injEq, Addr.mk.injEq] at hab'
        have := block_lt (hcell 0 h0)
        simp only at this
        omega
    · rw [World.cell?_of_block (w := w1) (a := ⟨w.heap.size, 0, none⟩) (ho.other _ (by simp))]; exact hB1
  have HCM : Hid (CmpOk w1 (w.heap.size + 1) len w.heap.size (lost total all zs)) := hcmp
  have HO1 : Hid (Own w1 w1 (w.heap.size + 1) len (fun _ => 0)) := ho1
  have HB1 : Hid (Below w.heap.size w w1) := hb1
  clear ho1 hb1 hB1 hc1 hcmp hown hgr HC HF hi hz0 hz1 hz2
  go_wp2_with fail
  go_loopw [11] (fun v wr => ∃ k : Nat, k ≤ len ∧ v = .int .i64 k ∧ Own w1 wr (w.heap.size + 1) len (fun x => if x < k then (x : Int) else 0)) (fun v _ => len - (intOf v).toNat)
  case atStart => exact ⟨0, Nat.zero_le _, rfl, HO1.out.congr fun x _ => by simp⟩
  case round =>
    obtain ⟨k, hk, rfl, ho⟩ := hrel
    by_cases hlt : k < len
    · have c1 := ho.cell (i := k) hlt
      have f1 := ho.frozen k
      have HS : Hid (Own w1 (wr.setCell ⟨w.heap.size + 1, k, none⟩ (.int .i64 k)) (w.heap.size + 1) len (fun x => if x < k + 1 then (x : Int) else 0)) := (ho.set k k).congr fun x _ => by
        unfold upd
        by_cases e : x = k
        · subst e; simp
        · rw [if_neg e]
          show (if x < k then (x : Int) else 0) = _
          by_cases e2 : x < k
          · rw [if_pos e2, if_pos (by omega)]
          · rw [if_neg e2, if_neg (by omega)]
      clear ho
      go_wp2_with fail
      go_roundw
      case rel => exact ⟨k + 1, by omega, by go_num, HS.out⟩
      case measure => simp [intOf]; omega
    · have HO2 : Hid (Own w1 wr (w.heap.size + 1) len idz) := ho.congr fun x hx => by rw [if_pos (by omega)]; rfl
      clear ho
      go_wp2_with fail
      refine (sortStable_any HCM.out hl _ _ HO2.out).mono ?_
      rintro e w2 ⟨rfl, f, ho2, hm, hs⟩
      have HP : Hid (MostPost w len (lost total all zs) (.returned (.slice (some ⟨w.heap.size + 1, 0, none⟩) len len)) w2) := by
        refine MostPost.mk (f := f) (by omega) (by rw [ho2.size]; exact hsz1) (HB1.out.trans ⟨ho2.os, ho2.tape, ho2.output, by rw [ho2.size]; exact Nat.le_refl _, fun k hk => ho2.other k (by omega)⟩) (fun i hi => ho2.cell hi) hm hs
      clear ho2 hm hs
      go_wp2_with fail
      go_ret
      exact HP.out

end Go.Proofs.Ytipihacnkiijaaa.cents
