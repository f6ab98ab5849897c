/- What (*Int).Text gives back, in base 10. -/
import Derived.Test.YtmpjmcfgikmgnaaDoorBigText
namespace Go.Proofs.YtmpjmcfgikmgnaaDoor.words
open Go.RowKit
set_option maxRecDepth 100000

def StrPost (w : World) (m : Nat) (e : Ending) (w' : World) : Prop := e = .returned (.string (strOf (decL m))) ∧ Below w.heap.size w w'

theorem bg_at {w w' : World} {z : Nat} {v : Value} (h : w.heap[z]? = some (.cells #[.bool false, v] 61 (0, 0))) (hb : Below w.heap.size w w') : w'.cell? ⟨z, 0, none⟩ = some (.bool false) ∧ w'.cell? ⟨z, 1, none⟩ = some v := by
  have := ob_cells (w := w') (z := z) (s := false) (v := v) (by rw [hb.block z (heap_lt h)]; exact h)
  exact ⟨this.1, this.2.1⟩

set_option maxHeartbeats 4000000 in
theorem text_any (z m : Nat) (w : World) (hg : Bg w z m) (h0 : 0 < m) (hl : (dig m).length ≤ 100) (hd : (decL m).length ≤ 100) :
    Calls Tryd.prog 60 #[.pointer (some ⟨z, 0, none⟩), .int .i64 10] w fun e w' => StrPost w m e w' := by
  obtain ⟨i0, hi, hz0, hz1, hz2⟩ := info_parts info_u8
  obtain ⟨a, n, c, hcz, hr⟩ := hg
  have hn0 : n ≠ 0 := by
    intro e
    have := hr.len
    rw [e] at this
    have := dig_nil (List.eq_nil_of_length_eq_zero this)
    omega
  have hnl : n ≤ 100 := by have := hr.len; omega
  have HR : Hid (Ru w a n c (dig m)) := hr
  have HZ : Hid (w.heap[z]? = some (.cells #[.bool false, .slice a n c] 61 (0, 0))) := hcz
  obtain ⟨c0, c1⟩ := bg_at hcz (Below.refl _ w)
  have hnb : ((n : Int) == 0) = false := beq_eq_false_iff_ne.2 (by omega)
  clear hr hcz
  go_enter Tryd.func60, Tryd.ntmps60
  go_wp2_with fail
  refine (twin_any a n c m w HR.out hnl).mono ?_
  rintro e w1 ⟨a1, n1, k1, rfl, hr1, hb1⟩
  have HR1 : Hid (Ru w1 a1 n1 k1 (dig m)) := hr1
  have HB1 : Hid (Below w.heap.size w w1) := hb1
  clear hr1 hb1 c0 c1
  go_wp2_with fail
  go_loopw [5, 6] (fun bv av wr => ∃ (V : Value) (M : Nat) (ds : List Int) (a : Option Addr) (n c : Nat), V = bv ∧ av = .slice a n c ∧ Ru wr a n c (dig M) ∧ wr.ownsRow w.heap.size 5 1 bv ds.length (ds.map (Value.int .u8)) ∧ Below w.heap.size w wr ∧ TextInv m M ds) (fun bv _ _ => 100 - lenOf bv)
  case atStart => exact ⟨_, m, [], a1, n1, k1, rfl, rfl, HR1.out, World.ownsRow_nil _ _ _ _, HB1.out, Nat.le_refl _, .inr ⟨h0, by simp⟩⟩
  case round =>
    obtain ⟨bv, M, ds, a2, n2, k2, hbv, rfl, hr2, hown, hb2, hti⟩ := hrel
    subst hbv
    by_cases hM : M = 0
    · subst hM
      have hn2 : n2 = 0 := by have := hr2.len; rw [dig_zero] at this; simpa using this.symm
      subst hn2
      obtain ⟨hdn, hde⟩ : ds ≠ [] ∧ decL m = ds.reverse := by
        rcases hti.2 with h | h
        · exact h.2
        · omega
      have hL0 : 0 < ds.length := List.length_pos_iff.2 hdn
      have hL1 : ds.length ≤ 100 := by rw [hde] at hd; simpa using hd
      obtain ⟨g, cap, hbv, hgb, hgl⟩ := hown.form hL0
      subst hbv
      obtain ⟨L, hLL⟩ : ∃ L, ds.length = L := ⟨_, rfl⟩
      have HROW : Hid (RB wr w.heap.size g cap L (fun k => ds.getD k 0)) := by
        have e : ds.map (Value.int .u8) = (List.range L).map fun k => Value.int .u8 (ds.getD k 0) := by
          apply List.ext_getElem (by simp [hLL])
          intro k h1 h2
          simp [List.getD, List.getElem?_eq_getElem (show k < ds.length by simpa using h1)]
        have goal : RB wr w.heap.size g cap L (fun k => ds.getD k 0) := by
          unfold RB
          rw [← e, ← hLL]
          exact hown
        exact goal
      rw [hLL] at hL0 hL1
      rw [hLL]
      obtain ⟨c0, c1⟩ := bg_at HZ.out hb2
      have HB : Hid (Below w.heap.size w wr) := hb2
      have HD : Hid (decL m = ds.reverse ∧ ds.length = L) := ⟨hde, hLL⟩
      clear hown hb2 hti hde hdn hLL hr2 hd hi hz0 hz1 hz2
      go_wp2_with fail
      go_loopw [8, 9] (fun iv jv wr => ∃ (i : Nat) (f : Nat → Int), i ≤ L ∧ iv = .int .i64 (i : Int) ∧ jv = .int .i64 ((L : Int) - 1 - (i : Int)) ∧ i ≤ (L - i) + 1 ∧ RB wr w.heap.size g cap L f ∧ Below w.heap.size w wr ∧ Turned L i (fun k => ds.getD k 0) f) (fun iv _ _ => L - (intOf iv).toNat)
      case atStart => exact ⟨0, _, Nat.zero_le _, rfl, by congr 1; omega, by omega, HROW.out, HB.out, fun k hk => by rw [if_neg (by omega)]⟩
      case round =>
        obtain ⟨i, f, hiL, rfl, rfl, hij, hrow, hb3, htu⟩ := hrel
        by_cases hlt : i < L - 1 - i
        · have ej : (L : Int) - 1 - (i : Int) = ((L - 1 - i : Nat) : Int) := by omega
          have r0 := hrow.cell (i := i) (by omega)
          have r1 := hrow.cell (i := L - 1 - i) (by omega)
          have f0 := hrow.free i
          have f1 := hrow.free (L - 1 - i)
          have HT : Hid (Turned L (i + 1) (fun k => ds.getD k 0) (updd (updd f i (f (L - 1 - i))) (L - 1 - i) (f i))) := turned_step htu hlt
          have HN : Hid (RB ((wr.setCell ⟨g, i, none⟩ (.int .u8 (f (L - 1 - i)))).setCell ⟨g, L - 1 - i, none⟩ (.int .u8 (f i))) w.heap.size g cap L (updd (updd f i (f (L - 1 - i))) (L - 1 - i) (f i))) := (hrow.set _ _).set _ _
          have HBN : Hid (Below w.heap.size w ((wr.setCell ⟨g, i, none⟩ (.int .u8 (f (L - 1 - i)))).setCell ⟨g, L - 1 - i, none⟩ (.int .u8 (f i)))) := below_set (below_set hb3 _ _ _ hgb) _ _ _ hgb
          have HJ : Hid (((L - 1 - i : Nat) : Int) - 1 = (L : Int) - 1 - ((i + 1 : Nat) : Int)) := (by omega : ((L - 1 - i : Nat) : Int) - 1 = (L : Int) - 1 - ((i + 1 : Nat) : Int))
          rw [ej]
          have hjL : L - 1 - i < L := by omega
          have hij2 : i < L - 1 - i := hlt
          have r2 := (hrow.set i (f (L - 1 - i))).cell (i := L - 1 - i) (by omega)
          have f2 := (hrow.set i (f (L - 1 - i))).free (L - 1 - i)
          clear hrow hb3 htu ej hlt
          obtain ⟨x, hx⟩ : ∃ x, f i = x := ⟨_, rfl⟩
          obtain ⟨y, hy⟩ : ∃ y, f (L - 1 - i) = y := ⟨_, rfl⟩
          rw [hx, hy] at HT HN HBN
          rw [hx] at r0
          rw [hy] at r1 r2 f2
          clear hx hy
          generalize updd f i y (L - 1 - i) = yy at r2
          generalize hjj : L - 1 - i = j at *
          go_wp2_with fail
          go_roundw
          case rel => exact ⟨i + 1, _, by omega, by go_num, by rw [HJ.out], by omega, HN.out, HBN.out, HT.out⟩
          case measure => simp [intOf]; omega
        · have hnl2 : ¬ (i : Int) < (L : Int) - 1 - (i : Int) := by omega
          have hcv := conv_row wr w.heap.size g cap L f hrow
          rw [turned_end htu hlt ds HD.out.2 fun _ => rfl, ← HD.out.1] at hcv
          have HB3 : Hid (Below w.heap.size w wr) := hb3
          clear hrow hb3 htu
          go_wp2_with fail
          go_ret
          exact ⟨rfl, HB3.out⟩
    · have hM0 : 0 < M := by omega
      have hn2 : n2 ≠ 0 := by
        intro e
        have := hr2.len
        rw [e] at this
        have := dig_nil (List.eq_nil_of_length_eq_zero this)
        omega
      have hl2 : n2 ≤ 100 := by have := hr2.len; have := dig_mono hti.1; omega
      have hds : ds.length < 100 := by have := text_len hti hM0; omega
      have HTI : Hid (TextInv m (M / 10) (ds ++ [48 + ((M % 10 : Nat) : Int)])) := text_more hti hM0
      have HRW : Hid (Ru wr a2 n2 k2 (dig M)) := hr2
      have HOW : Hid (wr.ownsRow w.heap.size 5 1 bv ds.length (ds.map (Value.int .u8))) := hown
      have HB2 : Hid (Below w.heap.size w wr) := hb2
      have hn2i : 0 < (n2 : Int) := by omega
      clear hr2 hown hb2 hti hM
      go_wp2_with fail
      refine (small_any a2 n2 k2 10 (dig M) wr HRW.out hl2 (by omega) (by omega)).mono ?_
      rintro e w3 ⟨a3, n3, k3, rfl, hr3, hb3, hfr⟩
      rw [nv_dig] at hr3
      rw [nv_dig]
      have hr10 : M % 10 < 10 := Nat.mod_lt _ (by decide)
      generalize hrr : M % 10 = r at *
      have HO3 : Hid (w3.ownsRow w.heap.size 5 1 bv ds.length (ds.map (Value.int .u8))) := own_below HOW.out hb3
      have HR3 : Hid (Ru w3 a3 n3 k3 (dig (M / 10)) ∧ ∀ b off, a3 = some ⟨b, off, none⟩ → some b ≠ bv.ownBlock) := ⟨hr3, fun b off e h => by
        have h1 := own_lt HOW.out h.symm
        have h2 := hfr b off e
        omega⟩
      have HB3 : Hid (Below w.heap.size w w3) := HB2.out.trans (hb3.mono HB2.out.size)
      have hri : (r : Int) < 10 := by omega
      have hrm : (48 + (r : Int)) % 256 = 48 + (r : Int) := by omega
      clear hr3 hb3 hfr HRW HOW HB2
      go_wp2_with (first
        | (at_builtin; refine wpList_append_lies _ rfl _ _ 91 rfl w.heap.size 5 i0 (.int .u8 0) 1 1 Tryd.underlying91 hi hz0 hz1 hz2 rfl (by decide) _ _ _ rfl (HO3.out.alloc _) ⟨w3.heap.size, 0, none⟩ 1 1 [.int .u8 (48 + (r : Int))] rfl rfl ?c1 ?c2 (by decide) ?c3 ?c4 ?c5 _ rfl ?_))
      case c1 =>
        intro j u hj
        match j, hj with
        | 0, hj => simp at hj; subst hj; simp [Addr.add]
      case c2 => intro u hu; simp at hu; subst hu; rfl
      case c3 => unfold maxLen; omega
      case c4 => omega
      case c5 => have := HB3.out.size; simp; omega
      intro g4 cap4 w4 hown4 hgr4 _ _
      have HO4 : Hid (w4.ownsRow w.heap.size 5 1 (.slice (some ⟨g4, 0, none⟩) (ds.length + 1) cap4) (ds ++ [48 + (r : Int)]).length ((ds ++ [48 + (r : Int)]).map (Value.int .u8))) := by
        have goal : w4.ownsRow w.heap.size 5 1 (.slice (some ⟨g4, 0, none⟩) (ds.length + 1) cap4) (ds ++ [48 + (r : Int)]).length ((ds ++ [48 + (r : Int)]).map (Value.int .u8)) := by
          simpa using hown4
        exact goal
      have HR4 : Hid (Ru w4 a3 n3 k3 (dig (M / 10))) := (HR3.out.1.below ((Below.refl _ w3).alloc (Nat.le_refl _) _)).grown hgr4 HR3.out.2
      have HB4 : Hid (Below w.heap.size w w4) := by
        have hba := HB3.out.alloc (HB3.out.size) (.cells #[.int .u8 (48 + (r : Int))] 5)
        exact hba.grown hgr4 hba.size (fun k hk => (own_lt HO3.out hk).1)
      have HLB : Hid (lenOf bv = ds.length) := own_len HO3.out
      clear hown4 hgr4 HO3 HR3 HB3
      go_wp2_with fail
      go_roundw
      case rel => exact ⟨_, M / 10, _, a3, n3, k3, rfl, rfl, HR4.out, HO4.out, HB4.out, HTI.out⟩
      case measure => rw [HLB.out]; simp [lenOf]; omega

end Go.Proofs.YtmpjmcfgikmgnaaDoor.words
