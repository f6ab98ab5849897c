/- Write by write: the walk. -/
import Derived.Test.YtiipnokmiknfoaaClSome
import Derived.Test.YtiipnokmiknfoaaClSameK
import Derived.Test.YtiipnokmiknfoaaClApp
import Derived.Test.YtiipnokmiknfoaaCkPick
import Derived.Test.YtiipnokmiknfoaaWqL
import Derived.Deep.RegionHeldLaw
namespace Go.Proofs.Ytiipnokmiknfoaa.cell
open Go.Proofs.Ytiipnokmiknfoaa.check (pick picked_any picked_nat pick_nonneg pick_lt pick_toNat)
open Go.RowKit
set_option maxRecDepth 100000
set_option linter.unusedVariables false
set_option linter.unusedSimpArgs false

/-- One write is put behind the others, in a region that draws its order. -/
theorem step_write {w : World} {ops : Array Oper} {o : Oper} {a : Act} {K : Act → World → Prop} {Q : Exit → Act → World → Prop} {E : Prop} (hgd : o.guard = none) (s x : Operand)
    (ho : o.op = .call { callee := .builtin .append, args := #[s, x], argTypes := #[28, 28] })
    (base G : Nat) (v : Value) (l : List Wr) (r : Wr) (hs : a.eval s = v) (hx : a.eval x = .slice (some ⟨G, 0, none⟩) 1 1) (hv : Lw w base v l) (hu : w.cell? ⟨G, 0, none⟩ = some (.int .i64 r.p) ∧ w.cell? ⟨G, 1, none⟩ = some (.int .u32 r.d)) (hn : l.length ≤ 1000000) (hbase : base ≤ w.heap.size)
    (h : ∀ v' w', Lw w' base v' (l ++ [r]) → w.grownBy w' v.ownBlock → K (a.put o.dst v') w') : if Region.wanted o (yielded ops a.tmps) = true then Oper.wp Try.prog o a w K Q else E := by
  have hw : Region.wanted o (yielded ops a.tmps) = true := by simp [Region.wanted, hgd]
  rw [if_pos hw]
  obtain ⟨i0, hi, hz0, hz1, hz2⟩ := info_parts info_wr
  obtain ⟨v', w', hr, h2, h3, _⟩ := run_append_own (P := Try.prog) w base 28 o.type 42 i0 (.agg #[.int .i64 0, .int .u32 0]) 2 16 Try.underlying28 hi hz0 hz1 hz2 rfl (by decide) v l.length (cellsW l) hv ⟨G, 0, none⟩ 1 1 (cellsW [r]) rfl (by
    intro j u hj
    match j, hj with
    | 0, hj => simp [cellsW] at hj; subst hj; simpa [Addr.add] using hu.1
    | 1, hj => simp [cellsW] at hj; subst hj; simpa [Addr.add] using hu.2
    | j + 2, hj => simp [cellsW] at hj) (oneW [r]) (by unfold maxLen; omega) (by omega) hbase
  unfold Oper.wp execOp
  simp only [ho, resolve, invoke, builtin, Sem.run_bind, Sem.run_pure, Result.andThen_ok, List.map_toArray, List.map_cons, List.map_nil, hs, hx, hr]
  refine h v' w' ?_ h3
  unfold Lw
  rw [List.length_append, cellsW_app]
  exact h2
theorem pair_cellW (w : World) (p d : Int) : (w.alloc (.cells #[.int .i64 p, .int .u32 d] 42)).cell? ⟨w.heap.size, 0, none⟩ = some (.int .i64 p) ∧ (w.alloc (.cells #[.int .i64 p, .int .u32 d] 42)).cell? ⟨w.heap.size, 1, none⟩ = some (.int .u32 d) :=
  ⟨(Blk.new w _ _).cell 0, (Blk.new w _ _).cell 1⟩

/-- What follows the making of the list: its place, the write that is picked, and what the calls answer. -/
structure TlC (w w4 : World) (n : Nat) (k0 : Int) (A : Option Addr) (ca C oC m cc j p : Nat) (d : Int) (T5 T6 : List Int) : Prop where
  m1 : 1 ≤ m ∧ m ≤ 101
  mc : m ≤ cc
  jm : j < m
  pn : p < n
  pk : ∀ W, Calls Try.prog 19 #[.int .i64 k0, .int .i64 (m : Int)] W fun e w' => e = .returned (.int .i64 (j : Int)) ∧ w' = W
  ap1 : Calls Try.prog 13 #[.slice A n ca, .slice (some ⟨C, oC, none⟩) m cc, .int .i64 (j : Int)] w4 fun e w' => ∃ D cd, e = .returned (.tuple #[.slice D n cd, .int .i64 0]) ∧ RowU w' D n T5 ∧ Below w4.heap.size w4 w'
  ap2 : ∀ W, Below w4.heap.size w4 W → Calls Try.prog 13 #[.slice A n ca, .slice (some ⟨C, oC, none⟩) m cc, .int .i64 ((j : Int) + 1)] W fun e w' => ∃ bE oE ce, e = .returned (.tuple #[.slice (some ⟨bE, oE, none⟩) n ce, .int .i64 0]) ∧ RowU w' (some ⟨bE, oE, none⟩) n T6 ∧ Below W.heap.size W w'
  ap3 : ∀ W, Below w4.heap.size w4 W → ∀ D cd, RowU W D n T5 → Calls Try.prog 13 #[.slice D n cd, .slice (some ⟨C, oC + j * 2, none⟩) 1 1, .int .i64 1] W fun e w' => ∃ F cf, e = .returned (.tuple #[.slice F n cf, .int .i64 0]) ∧ RowU w' F n T6 ∧ Below W.heap.size W w'
  cel : ∀ W, Below w4.heap.size w4 W → W.cell? ⟨C, oC + j * 2, none⟩ = some (.int .i64 (p : Int)) ∧ W.cell? ⟨C, oC + j * 2 + 1, none⟩ = some (.int .u32 d)
  got : T6.getD p 0 = d
  bel : Below w.heap.size w w4
def Tl (w w4 : World) (n : Nat) (xs : List Int) (k0 : Int) (A : Option Addr) (ca : Nat) (v4 : Value) : Prop :=
  ∃ (C oC m cc j p : Nat) (d : Int) (T5 T6 : List Int), v4 = .slice (some ⟨C, oC, none⟩) m cc ∧ TlC w w4 n k0 A ca C oC m cc j p d T5 T6
theorem tl_of {w w1 w4 : World} {n : Nat} {xs : List Int} {k0 : Int} {A : Option Addr} {ca : Nat} {v4 : Value} {L : List Wr} (hA : RowU w1 A n xs) (hB1 : Below w.heap.size w w1) (hxn : xs.length = n) (hn1 : 1 ≤ n) (hn2 : n ≤ 100)
    (hL : Lw w4 w1.heap.size v4 L) (hB : Below w1.heap.size w1 w4) (hm : L.length ≤ 101) (hm1 : 1 ≤ L.length) (hal : allN n L = true) (hk0 : (Lit.int .i64 k0).wf = true) : Tl w w4 n xs k0 A ca v4 := by
  obtain ⟨a, cc, rfl, hr, _, hcc, _⟩ := hL.row
  obtain ⟨C, oC, rfl, lC, cC⟩ := hr.at hm1
  obtain ⟨j, hj⟩ : ∃ j, (pick k0 L.length).toNat = j := ⟨_, rfl⟩
  have hjm : j < L.length := by rw [← hj]; exact pick_toNat k0 L.length (by omega)
  obtain ⟨p0, pn0⟩ := allN_at hal j hjm
  obtain ⟨p, hp⟩ : ∃ p : Nat, (L.getD j wr0).p = p := ⟨(L.getD j wr0).p.toNat, by omega⟩
  have hpn : p < n := by rw [hp] at pn0; omega
  have hA4 := hA.below hB
  have hst : wrt xs (L.take (j + 1)) = (wrt xs (L.take j)).set p (L.getD j wr0).d := by rw [wrt_step xs L j hjm, hp, Int.toNat_natCast]
  have l5 : (wrt xs (L.take j)).length = n := by rw [wrt_len, hxn]
  have l6 : (wrt xs (L.take (j + 1))).length = n := by rw [wrt_len, hxn]
  refine ⟨C, oC, L.length, cc, j, p, (L.getD j wr0).d, wrt xs (L.take j), wrt xs (L.take (j + 1)), rfl, ⟨hm1, hm⟩, hcc, hjm, hpn, ?_, ?_, ?_, ?_, ?_, ?_, ?_⟩
  · intro W
    have h := picked_nat k0 L.length W hk0 (by omega) (by omega)
    rw [hj] at h; exact h
  · refine (apply_yes A (some ⟨C, oC, none⟩) n L.length ca cc j xs L w4 hA4 hr hn1 (by omega) (by omega) hcc hal (by omega)).mono fun e w' hg => ?_
    obtain ⟨D, cd, he, h1, _, h2⟩ := hg
    rw [l5] at he h1
    exact ⟨D, cd, he, h1, h2⟩
  · intro W hW
    have h := apply_yes A (some ⟨C, oC, none⟩) n L.length ca cc (j + 1) xs L W (hA4.below hW) (hr.below hW) hn1 (by omega) (by omega) hcc hal (by omega)
    rw [show ((j + 1 : Nat) : Int) = (j : Int) + 1 by omega] at h
    refine h.mono fun e w' hg => ?_
    obtain ⟨D, cd, he, h1, _, h2⟩ := hg
    rw [l6] at he h1
    obtain ⟨bE, oE, rfl, _, _⟩ := h1.at (by omega)
    exact ⟨bE, oE, cd, he, h1, h2⟩
  · intro W hW D cd hD
    have hone : RowW W (some ⟨C, oC + j * 2, none⟩) 1 [L.getD j wr0] := by
      refine ⟨rfl, .inr ⟨C, oC + j * 2, rfl, fun i hi => ?_⟩⟩
      obtain rfl : i = 0 := by omega
      obtain ⟨b', o', e', l', c'⟩ := (hr.below hW).at hm1
      simp only [Option.some.injEq, Addr.mk.injEq, and_true] at e'
      obtain ⟨rfl, rfl⟩ := e'
      simpa using c' j hjm
    have hin : allN n [L.getD j wr0] = true := by simp only [allN, List.all_cons, List.all_nil, Bool.and_true]; exact inN_iff.2 ⟨p0, pn0⟩
    have h := apply_yes D (some ⟨C, oC + j * 2, none⟩) n 1 cd 1 1 (wrt xs (L.take j)) [L.getD j wr0] W hD hone hn1 (by omega) (by decide) (by decide) hin (by decide)
    refine h.mono fun e w' hg => ?_
    obtain ⟨F, cf, he, h1, _, h2⟩ := hg
    have e6 : wrt (wrt xs (L.take j)) ([L.getD j wr0].take 1) = wrt xs (L.take (j + 1)) := by rw [hst]; show (wrt xs (L.take j)).set _ _ = _; rw [hp, Int.toNat_natCast]
    rw [e6, l6] at he h1
    exact ⟨F, cf, he, h1, h2⟩
  · intro W hW
    obtain ⟨b', o', e', l', c'⟩ := (hr.below hW).at hm1
    simp only [Option.some.injEq, Addr.mk.injEq, and_true] at e'
    obtain ⟨rfl, rfl⟩ := e'
    have := c' j hjm
    rw [hp] at this; exact this
  · rw [hst, set_at, if_pos ⟨rfl, by rw [l5]; exact hpn⟩]
  · exact bel_step hB1 hB

set_option maxHeartbeats 1000000 in
theorem step_walk (a0 a1 : Option Addr) (len0 cap0 len1 cap1 : Nat) (k0 : Int) (z0 : List Int) (z1 : List Wr) (w : World) (h0 : RowU w a0 len0 z0) (h1 : RowW w a1 len1 z1) (hw1 : ∀ x ∈ z1, (Lit.int .i64 x.p).wf = true) (hk0 : (Lit.int .i64 k0).wf = true) :
    Calls Try.prog 6 #[.slice a0 len0 cap0, .slice a1 len1 cap1, .int .i64 k0] w fun e w' => e = .returned (.bool true) ∧ Below w.heap.size w w' := by
  have HS0 : Hid (Calls Try.prog 18 #[.slice a0 len0 cap0, .int .i64 100] w fun e w' => SomePost w 100 e w') := some_any a0 len0 cap0 100 z0 w h0 (by decide) (by decide)
  have H1 : Hid (RowW w a1 len1 z1) := h1
  have HW1 : Hid (∀ i, i < len1 → (Lit.int .i64 (z1.getD i wr0).p).wf = true) := fun i hi => hw1 _ (by
    have : i < z1.length := by rw [h1.1]; exact hi
    simp [List.getD, List.getElem?_eq_getElem this])
  have HK0 : Hid ((Lit.int .i64 k0).wf = true) := hk0
  clear h0 h1 hw1 hk0
  go_enter Try.func6, Try.ntmps6
  go_wp2_with fail
  refine HS0.out.mono ?_
  rintro e w1 ⟨v1, xs, rfl, hv1, hx1, hx2, hb1⟩
  obtain ⟨A, ca, rfl, rA, _, _⟩ := hv1.row
  obtain ⟨n, hn⟩ : ∃ n, xs.length = n := ⟨_, rfl⟩
  rw [hn] at rA hx1 hx2
  have HA : Hid (RowU w1 A n xs) := rA
  have HB1 : Hid (Below w.heap.size w w1) := hb1
  have HR1 : Hid (RowW w1 a1 len1 z1) := H1.out.below hb1
  have HN : Hid (xs.length = n) := hn
  have HPK : Hid (∀ p, (Lit.int .i64 p).wf = true → ∀ W, Calls Try.prog 19 #[.int .i64 p, .int .i64 (n : Int)] W fun e w' => e = .returned (.int .i64 (((pick p n).toNat : Nat) : Int)) ∧ w' = W) := fun p hp W => picked_nat p n W hp (by omega) (by omega)
  rw [hn]
  clear hv1 rA hb1 hn HS0 H1
  go_wp2_with fail
  go_loopw [8, 9] (fun v i wr => ∃ (k : Nat) (V : Value) (ls : List Wr), V = v ∧ k ≤ len1 ∧ k ≤ 100 ∧ i = .int .i64 (k : Int) ∧ ls.length = k ∧ allN n ls = true ∧ Lw wr w1.heap.size V ls ∧ Below w1.heap.size w1 wr) (fun _ i _ => len1 - (intOf i).toNat)
  case atStart => exact ⟨0, _, [], rfl, Nat.zero_le _, Nat.zero_le _, rfl, rfl, rfl, Lw.zero _ _, Below.refl _ _⟩
  case round =>
    obtain ⟨k, V, ls, hV, hk, hk2, rfl, hll, hal, hown, hb⟩ := hrel
    subst hV
    have HO : Hid (Lw wr w1.heap.size V ls) := hown
    have HB : Hid (Below w1.heap.size w1 wr) := hb
    have HLL : Hid (ls.length = k) := hll
    have HAL : Hid (allN n ls = true) := hal
    clear hown hb hll hal
    by_cases hgo : k < len1 ∧ k < 100
    · obtain ⟨hlt, hlt2⟩ := hgo
      obtain ⟨b, off, rfl, l1, hc⟩ := HR1.out.at (by omega)
      have f1 : wr.cell? ⟨b, off + k * 2, none⟩ = some (.int .i64 (z1.getD k wr0).p) := (HB.out.cell (p := ⟨b, off + k * 2, none⟩) l1).trans (hc k hlt).1
      have f2 : wr.cell? ⟨b, off + k * 2 + 1, none⟩ = some (.int .u32 (z1.getD k wr0).d) := (HB.out.cell (p := ⟨b, off + k * 2 + 1, none⟩) l1).trans (hc k hlt).2
      have HPP : Hid (∀ W, Calls Try.prog 19 #[.int .i64 (z1.getD k wr0).p, .int .i64 (n : Int)] W fun e w' => e = .returned (.int .i64 (((pick (z1.getD k wr0).p n).toNat : Nat) : Int)) ∧ w' = W) := HPK.out _ (HW1.out k hlt)
      have hpl : (pick (z1.getD k wr0).p n).toNat < n := pick_toNat _ n (by omega)
      have lb : b < wr.heap.size := World.block_lt_of_cell? wr _ f1
      have lb1 : b < w1.heap.size := l1
      clear hc l1
      generalize (z1.getD k wr0).p = p at *
      generalize (z1.getD k wr0).d = d at *
      generalize (pick p n).toNat = q at *
      have KS : Hid (wr.drew.cell? ⟨b, off + k * 2, none⟩ = some (.int .i64 p) ∧ wr.drew.cell? ⟨b, off + k * 2 + 1, none⟩ = some (.int .u32 d)) := ⟨f1, f2⟩
      have KA : Hid ((wr.alloc (.cells #[.int .i64 (q : Int), .int .u32 d] 42)).drew.cell? ⟨b, off + k * 2, none⟩ = some (.int .i64 p) ∧ (wr.alloc (.cells #[.int .i64 (q : Int), .int .u32 d] 42)).drew.cell? ⟨b, off + k * 2 + 1, none⟩ = some (.int .u32 d)) := by
        have e1 : (wr.alloc (.cells #[.int .i64 (q : Int), .int .u32 d] 42)).cell? ⟨b, off + k * 2, none⟩ = some (.int .i64 p) := by rw [World.cell?_alloc_lt wr _ _ lb]; exact f1
        have e2 : (wr.alloc (.cells #[.int .i64 (q : Int), .int .u32 d] 42)).cell? ⟨b, off + k * 2 + 1, none⟩ = some (.int .u32 d) := by rw [World.cell?_alloc_lt wr _ _ lb]; exact f2
        exact ⟨e1, e2⟩
      have HG : Hid ((wr.alloc (.cells #[.int .i64 (q : Int), .int .u32 d] 42)).drew.cell? ⟨wr.heap.size, 0, none⟩ = some (.int .i64 (q : Int)) ∧ (wr.alloc (.cells #[.int .i64 (q : Int), .int .u32 d] 42)).drew.cell? ⟨wr.heap.size, 1, none⟩ = some (.int .u32 d)) := pair_cellW wr (q : Int) d
      have HOA : Hid (Lw (wr.alloc (.cells #[.int .i64 (q : Int), .int .u32 d] 42)).drew w1.heap.size V ls) := Lw.alloc (w := wr) HO.out _
      have HSZ : Hid (w1.heap.size ≤ (wr.alloc (.cells #[.int .i64 (q : Int), .int .u32 d] 42)).drew.heap.size) := alloc_le (w := wr) HB.out.size _
      have HBA : Hid (Below w1.heap.size w1 (wr.alloc (.cells #[.int .i64 (q : Int), .int .u32 d] 42)).drew) := (HB.out.alloc HB.out.size _).drew
      have HLN : Hid (ls.length ≤ 1000000) := by have := HLL.out; show _ ≤ _; omega
      have HAN : Hid (allN n (ls ++ [⟨(q : Int), d⟩]) = true) := allN_snoc HAL.out ⟨by show (0 : Int) ≤ q; omega, by show (q : Int) < n; omega⟩
      go_wp2_with fail
      go_region_held_law (fun v => v.cell? ⟨b, off + k * 2, none⟩ = some (.int .i64 p) ∧ v.cell? ⟨b, off + k * 2 + 1, none⟩ = some (.int .u32 d))
        (first | with_reducible exact KS.out | with_reducible exact KA.out | with_reducible exact K4.out)
        (first
          | (refine step_write rfl _ _ rfl w1.heap.size wr.heap.size _ ls ⟨(q : Int), d⟩ rfl rfl HOA.out HG.out HLN.out HSZ.out ?_; intro v' w4 hL4 hg4
             have HL4 : Hid (Lw w4 w1.heap.size v' (ls ++ [⟨(q : Int), d⟩])) := hL4
             have hB4 : Below w1.heap.size w1 w4 := own_bel HOA.out hg4 HBA.out (Nat.le_refl _) HSZ.out
             have K4 : Hid (w4.cell? ⟨b, off + k * 2, none⟩ = some (.int .i64 p) ∧ w4.cell? ⟨b, off + k * 2 + 1, none⟩ = some (.int .u32 d)) := by
               have e1 := (hB4.cell (p := ⟨b, off + k * 2, none⟩) lb1).trans ((HB.out.cell (p := ⟨b, off + k * 2, none⟩) lb1).symm.trans f1)
               have e2 := (hB4.cell (p := ⟨b, off + k * 2 + 1, none⟩) lb1).trans ((HB.out.cell (p := ⟨b, off + k * 2 + 1, none⟩) lb1).symm.trans f2)
               exact ⟨e1, e2⟩
             have HB4 : Hid (Below w1.heap.size w1 w4) := hB4
             clear hL4 hg4 hB4)
          | (go_at_call 19; refine (HPP.out _).mono ?_; rintro e wx ⟨rfl, rfl⟩))
      go_wp2_with fail
      go_roundw
      case rel => exact ⟨k + 1, _, ls ++ [⟨(q : Int), d⟩], rfl, by omega, by omega, by go_num, by rw [List.length_append, HLL.out]; rfl, HAN.out, HL4.out, HB4.out⟩
      case measure => simp [intOf]; omega
    · have hex : ¬ k < len1 ∨ (k < len1 ∧ ¬ (k : Int) < 100) := by omega
      clear hgo
      have HG : Hid ((wr.alloc (.cells #[.int .i64 0, .int .u32 1] 42)).cell? ⟨wr.heap.size, 0, none⟩ = some (.int .i64 0) ∧ (wr.alloc (.cells #[.int .i64 0, .int .u32 1] 42)).cell? ⟨wr.heap.size, 1, none⟩ = some (.int .u32 1)) := pair_cellW wr 0 1
      have HOA : Hid (Lw (wr.alloc (.cells #[.int .i64 0, .int .u32 1] 42)) w1.heap.size V ls) := Lw.alloc (w := wr) HO.out _
      have HSZ : Hid (w1.heap.size ≤ (wr.alloc (.cells #[.int .i64 0, .int .u32 1] 42)).heap.size) := alloc_le (w := wr) HB.out.size _
      have HBA : Hid (Below w1.heap.size w1 (wr.alloc (.cells #[.int .i64 0, .int .u32 1] 42))) := HB.out.alloc HB.out.size _
      have HLN : Hid (ls.length ≤ 1000000) := by have := HLL.out; show _ ≤ _; omega
      have HAN : Hid (allN n (ls ++ [⟨0, 1⟩]) = true) := allN_snoc HAL.out ⟨by decide, by show (0 : Int) < n; omega⟩
      have HTL : Hid (∀ v4 w4, Lw w4 w1.heap.size v4 (ls ++ [⟨0, 1⟩]) → Below w1.heap.size w1 w4 → Tl w w4 n xs k0 A ca v4) := fun v4 w4 hL hB => tl_of HA.out HB1.out HN.out hx1 (by omega) hL hB (by rw [List.length_append, HLL.out]; show k + 1 ≤ 101; omega) (by rw [List.length_append]; simp) HAN.out HK0.out
      clear HR1 HW1 HPK HA HN HAL
      rcases hex with hex | ⟨hex, hex2⟩
      all_goals
        go_wp2_with (first
          | (at_builtin; refine wp_write rfl _ _ rfl w1.heap.size wr.heap.size _ ls ⟨0, 1⟩ rfl rfl HOA.out HG.out HLN.out HSZ.out ?_)
          | go_in)
        intro v4 w4 hL4 hg4
        obtain ⟨C, oC, m, cc, j, p, d, T5, T6, rfl, ht⟩ := HTL.out v4 w4 hL4 (own_bel HOA.out hg4 HBA.out (Nat.le_refl _) HSZ.out)
        have HT : Hid (TlC w w4 n k0 A ca C oC m cc j p d T5 T6) := ht
        clear ht hL4 hg4 HG HOA HSZ HBA HLN HAN HTL HLL HO HB
        have hjm := HT.out.jm
        have hpn := HT.out.pn
        have hm1 := HT.out.m1
        have hmc := HT.out.mc
        go_wp2_with fail
        refine (HT.out.pk _).mono ?_
        rintro e wx ⟨rfl, rfl⟩
        go_wp2_with fail
        refine HT.out.ap1.mono ?_
        rintro e w5 ⟨D, cd, rfl, hD, hb5⟩
        go_wp2_with fail
        refine (HT.out.ap2 w5 hb5).mono ?_
        rintro e w6 ⟨bE, oE, ce, rfl, hE, hb6⟩
        have HAP3 : Hid (Calls Try.prog 13 #[.slice D n cd, .slice (some ⟨C, oC + j * 2, none⟩) 1 1, .int .i64 1] w6 fun e w' => ∃ F cf, e = .returned (.tuple #[.slice F n cf, .int .i64 0]) ∧ RowU w' F n T6 ∧ Below w6.heap.size w6 w') := HT.out.ap3 w6 (hb5.trans (hb6.mono hb5.size)) D cd (hD.below hb6)
        have HE : Hid (RowU w6 (some ⟨bE, oE, none⟩) n T6) := hE
        have HB6 : Hid (Below wx.heap.size wx w6) := hb5.trans (hb6.mono hb5.size)
        clear hb5 hb6 hD hE
        go_wp2_with fail
        refine HAP3.out.mono ?_
        rintro e w7 ⟨F, cf, rfl, hF, hb7⟩
        have hb47 : Below wx.heap.size wx w7 := HB6.out.trans (hb7.mono HB6.out.size)
        have HSW : Hid (∀ q, Calls Try.prog 20 #[.slice F n cf, .slice (some ⟨bE, oE, none⟩) n ce] (w7.drewN q) fun e w' => e = .returned (.bool true) ∧ ∃ q', w' = w7.drewN q') := fun q =>
          (words_read F (some ⟨bE, oE, none⟩) n cf ce T6 (w7.drewN q) (hF.drew q) ((HE.out.below hb7).drew q) (by unfold maxLen; omega)).mono fun e w' ⟨he, r, hr⟩ => ⟨he, q + r, by rw [hr, World.drewN_drewN]⟩
        have g1 := (HT.out.cel w7 hb47).1
        have g2 := (HT.out.cel w7 hb47).2
        have g3 : w7.cell? ⟨bE, oE + p, none⟩ = some (.int .u32 d) := by
          obtain ⟨b', o', e', l', c'⟩ := (HE.out.below hb7).at (by omega)
          simp only [Option.some.injEq, Addr.mk.injEq, and_true] at e'
          obtain ⟨rfl, rfl⟩ := e'
          have h := c' p hpn
          rw [HT.out.got] at h; exact h
        have HB7 : Hid (Below w.heap.size w w7) := bel_step HT.out.bel hb47
        clear hb7 hb47 hF HE HB6 HAP3 HT
        have hwj : IntKind.i64.wrap (j : Int) = (j : Int) := by rw [IntKind.wrap_i64]; omega
        have hwp : IntKind.i64.wrap (p : Int) = (p : Int) := by rw [IntKind.wrap_i64]; omega
        have hnn : ((n : Int) == (n : Int)) = true := by simp
        have hdd : (d == d) = true := by simp
        go_wp2_with fail
        refine wl_lit (by kernel_rfl) (by kernel_rfl) ?_
        iterate 5 (refine wl_step (fun K hK => ?_); go_simp; refine hK _ ?_; clear hK K)
        refine wl_step (fun K hK => ?_)
        go_simp
        apply Exists.intro
        refine ⟨fun q => HSW.out q, hK _ ?_⟩
        clear hK K
        iterate 25 (refine wl_step (fun K hK => ?_); go_simp; refine hK _ ?_; clear hK K)
        refine wl_nil ?_
        intro _ hw'
        obtain ⟨nq, hw''⟩ := hw'
        subst hw''
        go_wp2_with fail
        go_ret
        exact ⟨rfl, bel_drew HB7.out _⟩

end Go.Proofs.Ytiipnokmiknfoaa.cell
