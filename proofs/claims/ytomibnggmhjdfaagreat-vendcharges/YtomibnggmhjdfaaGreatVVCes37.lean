import Derived.Test.YtomibnggmhjdfaaGreatVVCes18
import Derived.Test.YtomibnggmhjdfaaGreatVVCes35
import Derived.Test.YtomibnggmhjdfaaGreatVVCes36
set_option linter.unusedVariables false
set_option linter.unusedSimpArgs false
namespace Go.Proofs.YtomibnggmhjdfaaGreat
namespace vnd
open disk (RepIs AppIs RepPost Lr Recs Sli sl0)
open book (Ev ev0 EMay evL evOf EncIs DecIs Cm cm0 So so0 BookIs BookPost Sees ECame RowE FirstAt NoneAt Tells DecPost)
open acc (Ac Tm Bi SellIs GrantIs RekeyIs OweIs)
open cell (Wr RowU)
open token (Tok)
open Go.RowKit
set_option maxRecDepth 100000
theorem cell_one {w : World} {g o : Nat} {v u : Value} {T : TypeId} (hB : Blk w g #[v] T) (h : w.cell? ⟨g, o, none⟩ = some u) : o = 0 := by
 rw [hB.cell o] at h
 match o, h with
 | 0, _ => rfl
 | o + 1, h => simp at h
theorem rowC_one {w W : World} {g : Nat} {v v' : Value} {T T' : TypeId} {p : Option Addr} {n : Nat} {xs : List book.Cu} (h : book.RowC w p n xs) (hB : Blk w g #[v] T) (hU : Upd w W g #[v'] T') : book.RowC W p n xs := by
 refine ⟨h.1, ?_⟩
 rcases h.2 with h0 | ⟨b, off, rfl, lb, hc⟩
 ·exact .inl h0
 ·rcases Nat.eq_zero_or_pos n with h0 | h0
  ·exact .inl h0
  ·have hne : b ≠ g := fun e => by
    subst e
    have h1 := hc 0 0 h0 (by decide)
    have h2 := hc 0 1 h0 (by decide)
    have e1 := cell_one hB (u := .int .i64 (xs.getD 0 book.cu0).me) (by rw [h1]; rfl)
    have e2 := cell_one hB (u := .int .i64 (xs.getD 0 book.cu0).rv) (by rw [h2]; rfl)
    omega
   exact .inr ⟨b, off, rfl, by rw [hU.size]; exact lb, fun i j hi hj => by rw [hU.cell _ hne rfl]; exact hc i j hi hj⟩
theorem rowS_one {w W : World} {g : Nat} {v v' : Value} {T T' : TypeId} {p : Option Addr} {n : Nat} {l : List So} (h : book.RowS w p n l) (hB : Blk w g #[v] T) (hU : Upd w W g #[v'] T') : book.RowS W p n l := by
 refine ⟨h.1, ?_⟩
 rcases h.2 with h0 | ⟨b, off, rfl, lb, hc⟩
 ·exact .inl h0
 ·rcases Nat.eq_zero_or_pos n with h0 | h0
  ·exact .inl h0
  ·have hne : b ≠ g := fun e => by
    subst e
    have h1 := hc 0 0 h0 (by decide)
    have h2 := hc 0 1 h0 (by decide)
    have e1 := cell_one hB (u := .int .i64 (l.getD 0 so0).id) (by rw [h1]; rfl)
    have e2 := cell_one hB (u := .int .i64 (l.getD 0 so0).cl) (by rw [h2]; rfl)
    omega
   exact .inr ⟨b, off, rfl, by rw [hU.size]; exact lb, fun i j hi hj => by rw [hU.cell _ hne rfl]; exact hc i j hi hj⟩
theorem came_one {w W : World} {g : Nat} {v v' : Value} {T T' : TypeId} {p : Option Addr} {n cap : Nat} {l : List tar.Du} (h : tar.Came w p n cap l) (hB : Blk w g #[v] T) (hU : Upd w W g #[v'] T') : tar.Came W p n cap l :=
 acc.came_upd h hU fun hn x hx e => by
  obtain ⟨b, off, hp, lb, hc⟩ := h.row.at hn
  rw [hp] at hx
  cases hx
  have e2 : b = g := e
  subst e2
  have e1 := cell_one hB (hc 0 hn).1
  have e2 := cell_one hB (hc 0 hn).2
  omega
theorem sees_one {w W : World} {g : Nat} {v v' : Value} {T T' : TypeId} {p : Option Addr} {n : Nat} {xs : List book.Cu} {bk : List Cm} (h : Sees w p n xs bk) (hB : Blk w g #[v] T) (hU : Upd w W g #[v'] T') : Sees W p n xs bk :=
 ⟨rowC_one h.row hB hU, h.len, h.num, fun i hi => came_one (h.ds i hi) hB hU, fun i hi => rowS_one (h.so i hi) hB hU⟩
end vnd
namespace book
open Go.RowKit
set_option maxRecDepth 100000
theorem cellsE_app (l m : List Ev) : cellsE (l ++ m) = cellsE l ++ cellsE m := by
 induction l with
 | nil => rfl
 | cons e l ih => rw [List.cons_append, cellsE, cellsE, ih, List.append_assoc]
def Le (w : World) (base : Nat) (v : Value) (l : List Ev) : Prop := w.ownsRow base 71 13 v l.length (cellsE l)
theorem Le.zero (w : World) (base : Nat) : Le w base (.slice none 0 0) [] := World.ownsRow_nil _ _ _ _
theorem Le.alloc {w : World} {base : Nat} {v : Value} {l : List Ev} (h : Le w base v l) (o : Obj) : Le (w.alloc o) base v l := World.ownsRow.alloc h o
theorem Le.next {w w' : World} {base : Nat} {v : Value} {l : List Ev} (h : Le w base v l) (hb : Below w.heap.size w w') : Le w' base v l := by
 refine ⟨h.1, ?_⟩
 rcases h.2 with hn | ⟨g, cap, cur, hv, hg, hc, rest⟩
 ·exact .inl hn
 ·exact .inr ⟨g, cap, cur, hv, hg, Blk.next hc hb, rest⟩
theorem Le.came {w : World} {base : Nat} {v : Value} {l : List Ev} (h : Le w base v l) (hl : l.length ≤ 100000) (hw : ∀ x ∈ l, wf13 x) : ∃ a cap, v = .slice a l.length cap ∧ ECame w a l.length cap l := by
 rcases h.2 with ⟨hv, hn⟩ | ⟨g, cap, cur, hv, _, hc, h1, _⟩
 ·exact ⟨none, 0, by rw [hn]; exact hv, ⟨⟨rfl, .inl hn⟩, fun _ => rfl, by omega, by omega, hw⟩⟩
 ·subst hv
  refine ⟨_, cap, rfl, ⟨⟨rfl, .inr ⟨g, 0, rfl, Blk.lt hc, fun i j hi hj => ?_⟩⟩, (fun h => by cases h), h1, by omega, hw⟩⟩
  have e1 := World.ownsRow.cellAt h (i * 13 + j) (by omega)
  rw [Nat.zero_add, e1]
  exact cellsE_at l i j hi hj
theorem wp_ev {w : World} {ops : Array Oper} {rest : List Oper} {o : Oper} {a : Act} {Q : Exit → Act → World → Prop} (hgd : o.guard = none) (s x : Operand)
  (ho : o.op = .call { callee := .builtin .append, args := #[s, x], argTypes := #[51, 51] })
  (base G : Nat) (v : Value) (l : List Ev) (r : Ev) (hs : a.eval s = v) (hx : a.eval x = .slice (some ⟨G, 0, none⟩) 1 1) (hv : Le w base v l) (hu : Blk w G r.cl.toArray 71) (hn : l.length ≤ 1000000) (hbase : base ≤ w.heap.size)
  (h : ∀ v' w', Le w' base v' (l ++ [r]) → w.grownBy w' v.ownBlock → wpList Tryz.prog ops Q rest (a.put o.dst v') w') : wpList Tryz.prog ops Q (o :: rest) a w := by
 obtain ⟨i0, hi, hz0, hz1, hz2⟩ := info_parts evI
 refine wpList_append_own w hgd s x 51 ho base 71 i0 (.agg ev0.cl.toArray) 13 104 Tryz.underlying51 hi hz0 hz1 hz2 rfl (by decide) v l.length (cellsE l) hs hv ⟨G, 0, none⟩ 1 1 (cellsE [r]) hx (by rw [cellsE_len]; rfl) ?_ (oneE [r]) (by unfold maxLen; omega) (by omega) hbase ?_
 ·intro j u hj
  rw [Addr.add_lit, Nat.zero_add, hu.cell j]
  rw [cellsE, cellsE, List.append_nil] at hj
  simpa using hj
 intro v' w' h1 h2 _
 refine h v' w' ?_ h2
 unfold Le
 rw [List.length_append, cellsE_app]
 exact h1
end book
namespace disk
open Go.RowKit cell
set_option maxRecDepth 100000
set_option maxHeartbeats 4000000 in
theorem appended (a : Option Addr) (n cap : Nat) (c : List Int) (a2 : Option Addr) (m cap2 : Nat) (r : List Int) (w : World) (h : RowU w a n c) (hw : ∀ x ∈ c, 0 ≤ x ∧ x < 4294967296) (h2 : RowU w a2 m r) :
  Calls Tryz.prog 43 #[.slice a n cap, .slice a2 m cap2] w fun e w' => AppPost w c r e w' := by
 have hcl := h.1
 have hrl := h2.1
 by_cases hmay : 1 ≤ m ∧ m ≤ 64
 ·have HM : Hid (∀ W, Calls Tryz.prog 25 #[.int .i64 (m : Int), .int .i64 1, .int .i64 64] W fun e w' => e = .returned (.bool true) ∧ w' = W) := fun W => in_yes _ _ _ W (by omega) (by omega)
  have HRP : Hid (Calls Tryz.prog 32 #[.slice a n cap] w fun e w' => RepPost w c e w') := replayed a n cap c w h hw
  obtain ⟨b, o, rfl, lb, hc⟩ := h2.at (by omega)
  have HCL : Hid (∀ W, Below w.heap.size w W → ∀ j, j < m → W.cell? ⟨b, o + j, none⟩ = some (.int .u32 (r.getD j 0))) := fun W hB j hj => (hB.cell (p := ⟨b, o + j, none⟩) lb).trans (hc j hj)
  have HMY : Hid (RMay r) := ⟨by omega, by omega⟩
  have HN : Hid (c.length = n ∧ r.length = m) := ⟨hcl, hrl⟩
  obtain ⟨hm1, hm2⟩ := hmay
  clear h hw hc lb hcl hrl h2
  go_enter Tryz.func43, Tryz.ntmps43
  go_wp2_with fail
  refine (HM.out _).mono ?_
  rintro e w1 ⟨rfl, hq⟩
  subst w1
  clear HM
  go_wp2_with fail
  refine HRP.out.mono ?_
  rintro e w1 ⟨V0, sl, out, x, f, rfl, -, -, hri, hb1⟩
  have HB1 : Hid (Below w.heap.size w w1) := hb1
  clear hb1 HRP
  by_cases hf : f = 0
  ·obtain ⟨hmy, hl0, hx⟩ : May c ∧ lenAt c (repD c).2 = 0 ∧ x = ((repD c).2 : Int) := by
    rcases hri with ⟨_, _, _, e⟩ | ⟨_, _, _, _, e⟩ | ⟨q1, q2, _, q4, _⟩
    ·rw [hf] at e; exact absurd e (by decide)
    ·rw [hf] at e; exact absurd e (by decide)
    ·exact ⟨q1, q2, q4⟩
   have HPB : Hid ((repD c).2 ≤ n) := by show _ ≤ _; rw [← HN.out.1]; exact rep_bound c
   have HFU : Hid (n ≤ (repD c).2 + m → AppIs c r [] 16) := fun hh => .inr (.inr (.inr (.inl ⟨HMY.out, hmy, hl0, by rw [HN.out.1, HN.out.2]; exact hh, rfl, rfl⟩)))
   have HOK : Hid ((repD c).2 + m < n → AppIs c r (appW c (repD c).2 r) 0) := fun hh => .inr (.inr (.inr (.inr ⟨HMY.out, hmy, hl0, by rw [HN.out.1, HN.out.2]; exact hh, rfl, rfl⟩)))
   have hn2 : n ≤ 2048 := by have := hmy.2; rw [HN.out.1] at this; exact this
   subst hf
   subst hx
   clear hri hmy hl0 HMY
   generalize (repD c).2 = p at *
   have hpn := HPB.out
   clear HPB
   by_cases hfu : (n : Int) ≤ (p : Int) + (m : Int)
   ·have HA : Hid (AppIs c r [] 16) := HFU.out (by omega)
    clear HFU HOK
    go_wp2_with fail
    go_ret2
    exact ⟨.slice none 0 0, [], 16, rfl, Lw.zero _ _, HA.out, HB1.out⟩
   ·have HA : Hid (AppIs c r (appW c p r) 0) := HOK.out (by omega)
    clear HFU HOK
    go_wp2_with fail
    go_loopw [10, 11] (fun v10 v11 wr => ∃ (k : Nat) (V : Value), k ≤ m ∧ V = v10 ∧ v11 = .int .i64 (k : Int) ∧ Lw wr w.heap.size V (putW p r k) ∧ Below w.heap.size w wr) (fun _ v11 _ => m - (intOf v11).toNat)
    case atStart => exact ⟨0, _, Nat.zero_le _, rfl, rfl, Lw.zero _ _, HB1.out⟩
    case round =>
     obtain ⟨k, V, hk, hV, rfl, hlw, hbl⟩ := hrel
     subst hV
     have HLW : Hid (Lw wr w.heap.size V (putW p r k)) := hlw
     have HBL : Hid (Below w.heap.size w wr) := hbl
     have hs6 : (putW p r k).length ≤ 1000000 := by rw [put_len]; omega
     have HUA : Hid (∀ o, Lw (wr.alloc o) w.heap.size V (putW p r k)) := fun o => hlw.alloc o
     have HBA : Hid (∀ o, Below w.heap.size w (wr.alloc o)) := fun o => hbl.alloc hbl.size o
     have HSA : Hid (∀ o, w.heap.size ≤ (wr.alloc o).heap.size) := fun o => (hbl.alloc hbl.size o).size
     clear hlw hbl HB1
     by_cases hkm : k < m
     ·have k2 := HCL.out wr HBL.out k hkm
      have HPN : Hid (putW p r k ++ [⟨(p : Int) + (k : Int) + 1, r.getD k 0⟩] = putW p r (k + 1)) := put_next p k r
      generalize r.getD k 0 = u at *
      go_wp2_with (first | (refine wp_write rfl _ _ rfl w.heap.size wr.heap.size V (putW p r k) ⟨(p : Int) + (k : Int) + 1, u⟩ rfl rfl (HUA.out _) ⟨(Blk.new wr _ _).cell 0, (Blk.new wr _ _).cell 1⟩ hs6 (HSA.out _) ?_; intro v3 w3 h3 hg3; have HB3 : Hid (Below w.heap.size w w3) := own_bel (HUA.out _) hg3 (HBA.out _) (Nat.le_refl _) (HSA.out _); have H3 : Hid (Lw w3 w.heap.size v3 (putW p r (k + 1))) := (by rw [← HPN.out]; exact h3); clear h3 hg3) | fail)
      go_roundw
      case rel => exact ⟨k + 1, v3, by omega, rfl, by go_num, H3.out, HB3.out⟩
      case measure => simp [intOf]; omega
     ·obtain rfl : k = m := by omega
      by_cases hz : (p : Int) + (k : Int) + 1 < (n : Int)
      ·have HQ : Hid (putW p r k ++ [⟨(p : Int) + (k : Int) + 1, 0⟩] ++ [⟨(p : Int), (k : Int)⟩] = appW c p r) := by
        have q := app_yes (c := c) (p := p) (r := r) (by rw [HN.out.1, HN.out.2]; omega)
        rw [HN.out.2] at q
        exact q
       have hs7 : (putW p r k ++ [(⟨(p : Int) + (k : Int) + 1, 0⟩ : Wr)]).length ≤ 1000000 := by rw [List.length_append, put_len]; simp; omega
       go_wp2_with (first | (refine wp_write rfl _ _ rfl w.heap.size wr.heap.size V (putW p r k) ⟨(p : Int) + (k : Int) + 1, 0⟩ rfl rfl (HUA.out _) ⟨(Blk.new wr _ _).cell 0, (Blk.new wr _ _).cell 1⟩ hs6 (HSA.out _) ?_; intro v3 w3 h3 hg3; have hb3 := own_bel (HUA.out _) hg3 (HBA.out _) (Nat.le_refl _) (HSA.out _); have HU3 : Hid (∀ o, Lw (w3.alloc o) w.heap.size v3 (putW p r k ++ [(⟨(p : Int) + (k : Int) + 1, 0⟩ : Wr)])) := (fun o => h3.alloc o); have HB3 : Hid (∀ o, Below w.heap.size w (w3.alloc o)) := (fun o => hb3.alloc hb3.size o); have HS3 : Hid (∀ o, w.heap.size ≤ (w3.alloc o).heap.size) := (fun o => (hb3.alloc hb3.size o).size); clear h3 hg3 hb3 HUA HBA HSA HLW HBL) | (refine wp_write rfl _ _ rfl w.heap.size w3.heap.size v3 (putW p r k ++ [(⟨(p : Int) + (k : Int) + 1, 0⟩ : Wr)]) ⟨(p : Int), (k : Int)⟩ rfl rfl (HU3.out _) ⟨(Blk.new w3 _ _).cell 0, (Blk.new w3 _ _).cell 1⟩ hs7 (HS3.out _) ?_; intro v4 w4 h4 hg4; have HB4 : Hid (Below w.heap.size w w4) := own_bel (HU3.out _) hg4 (HB3.out _) (Nat.le_refl _) (HS3.out _); have H4 : Hid (Lw w4 w.heap.size v4 (appW c p r)) := (by rw [← HQ.out]; exact h4); clear h4 hg4) | fail)
       go_ret2
       exact ⟨v4, _, 0, rfl, H4.out, HA.out, HB4.out⟩
      ·have HQ : Hid (putW p r k ++ [⟨(p : Int), (k : Int)⟩] = appW c p r) := by
        have q := app_no (c := c) (p := p) (r := r) (by rw [HN.out.1, HN.out.2]; omega)
        rw [HN.out.2] at q
        exact q
       go_wp2_with (first | (refine wp_write rfl _ _ rfl w.heap.size wr.heap.size V (putW p r k) ⟨(p : Int), (k : Int)⟩ rfl rfl (HUA.out _) ⟨(Blk.new wr _ _).cell 0, (Blk.new wr _ _).cell 1⟩ hs6 (HSA.out _) ?_; intro v4 w4 h4 hg4; have HB4 : Hid (Below w.heap.size w w4) := own_bel (HUA.out _) hg4 (HBA.out _) (Nat.le_refl _) (HSA.out _); have H4 : Hid (Lw w4 w.heap.size v4 (appW c p r)) := (by rw [← HQ.out]; exact h4); clear h4 hg4) | fail)
       go_ret2
       exact ⟨v4, _, 0, rfl, H4.out, HA.out, HB4.out⟩
  ·have HA : Hid (AppIs c r [] f) := by
    rcases hri with ⟨q1, _, _, rfl⟩ | ⟨q1, q2, _, _, rfl⟩ | ⟨_, _, _, _, e⟩
    ·exact .inr (.inl ⟨HMY.out, q1, rfl, rfl⟩)
    ·exact .inr (.inr (.inl ⟨HMY.out, q1, q2, rfl, rfl⟩))
    ·exact absurd e hf
   have hne : (f != 0) = true := by simpa using hf
   clear hri hf
   go_wp2_with fail
   go_ret2
   exact ⟨.slice none 0 0, [], f, rfl, Lw.zero _ _, HA.out, HB1.out⟩
 ·have HM : Hid (∀ W, Calls Tryz.prog 25 #[.int .i64 (m : Int), .int .i64 1, .int .i64 64] W fun e w' => e = .returned (.bool false) ∧ w' = W) := fun W => in_no _ _ _ W (by omega)
  have HA : Hid (AppIs c r [] 1) := .inl ⟨fun h => hmay ⟨by rw [← hrl]; exact h.1, by rw [← hrl]; exact h.2⟩, rfl, rfl⟩
  clear h hw h2 hcl hrl hmay
  go_enter Tryz.func43, Tryz.ntmps43
  go_wp2_with fail
  refine (HM.out _).mono ?_
  rintro e w1 ⟨rfl, hq⟩
  subst w1
  go_wp2_with fail
  go_ret2
  exact ⟨.slice none 0 0, [], 1, rfl, Lw.zero _ _, HA.out, Below.refl _ _⟩
end disk
namespace vnd
open disk (RepIs AppIs RepPost AppPost Lr Recs Sli sl0)
open book (Ev ev0 EMay evL evOf EncIs DecIs Cm cm0 So so0 BookIs BookPost Sees ECame RowE FirstAt NoneAt Tells EncPost DecPost)
open acc (Ac Tm Bi SellIs GrantIs RekeyIs OweIs)
open cell (Wr RowU RowW Lw Ws)
open token (Tok)
open Go.RowKit
set_option maxRecDepth 100000
def WrPost (w : World) (R : List Wr → Int → Prop) (e : Ending) (w' : World) : Prop := ∃ V ls f, e = .returned (.tuple #[V, .int .i64 f]) ∧ R ls f ∧ Lw w' w.heap.size V ls ∧ Below w.heap.size w w'
theorem lw_low {w : World} {base base' : Nat} {v : Value} {l : List Wr} (h : Lw w base v l) (hb : base' ≤ base) : Lw w base' v l := by
 refine ⟨h.1, ?_⟩
 rcases h.2 with hn | ⟨g, cap, cur, hv, hg, rest⟩
 ·exact .inl hn
 ·exact .inr ⟨g, cap, cur, hv, Nat.le_trans hb hg, rest⟩
theorem found_first {xs : List book.Cu} {bk : List Cm} {me x : Int} (hl : xs.length = bk.length) (hn : ∀ i, i < xs.length → book.Nums (xs.getD i book.cu0) (bk.getD i cm0).a) (h : book.FoundIs xs me x) : (x = -1 ∧ NoneAt bk me) ∨ (∃ k : Nat, x = (k : Int) ∧ FirstAt bk me k ∧ k < xs.length) := by
 rcases h with ⟨k, h1, h2, h3, h4⟩ | ⟨h1, h2⟩
 ·refine .inr ⟨k, h4, ⟨by rw [← hl]; exact h1, by rw [← (hn k h1).1]; exact h2, fun j hj => by rw [← (hn j (by omega)).1]; exact h3 j hj⟩, h1⟩
 ·exact .inl ⟨h2, fun j hj => by rw [← (hn j (by rw [hl]; exact hj)).1]; exact h1 j (by rw [hl]; exact hj)⟩
theorem keep_few {c : List Int} {v : Ev} {ls : List Wr} {f : Int} (h : KeepIs c v ls f) : ls.length ≤ 66 := by
 obtain ⟨l, e, _, ⟨_, rfl, _⟩ | ⟨_, ws, g, _, ⟨_, rfl, _⟩ | ⟨_, q⟩⟩⟩ := h
 ·simp
 ·simp
 ·exact disk.app_few q
theorem cha_few {t : Tm} {c : List Int} {me a b : Int} {ls : List Wr} {f : Int} (h : ChaIs t c me a b ls f) : ls.length ≤ 66 := by
 obtain ⟨bk, g, _, ⟨_, rfl, _⟩ | ⟨_, _, rfl, _⟩ | ⟨_, k, b, x, _, _, ⟨_, rfl, _⟩ | ⟨_, q⟩⟩⟩ := h
 ·simp
 ·simp
 ·simp
 ·exact keep_few q
theorem wr_got {w w' : World} {R : List Wr → Int → Prop} {e : Ending} (h : WrPost w R e w') (hf : ∀ ls f, R ls f → ls.length ≤ 66) : WrGot w R e w' := by
 obtain ⟨V, ls, f, rfl, hr, hl, hb⟩ := h
 have hlt := World.ownsRow.lt hl
 have q := hf _ _ hr
 obtain ⟨a, cap, rfl, hrow, _, hle, _⟩ := hl.row
 exact ⟨a, _, cap, ls, f, rfl, hr, hrow, fun x hx => (hlt x.block (by rw [hx]; rfl)).1, hle, by omega, hb⟩
end vnd
namespace cell
open Go.RowKit
set_option maxRecDepth 100000
set_option maxHeartbeats 400000 in
theorem words_any (a : Option Addr) (len cap : Nat) (zs : List Int) (w : World) (hr : RowU w a len zs) (hn : a = none → cap = 0) (hl : len * 4 ≤ 140737488351232) :
  Calls Tryz.prog 6 #[.slice a len cap] w fun e w' => GaveU w zs e w' := by
 obtain ⟨i0, hi, hz0, hz1, hz2⟩ := info_parts info_u32
 obtain ⟨hz, hr⟩ := hr
 cases a with
 | none =>
  have hc := hn rfl
  have h0 : len = 0 := by rcases hr with h | ⟨b, off, h, _⟩; exact h; cases h
  subst hc h0
  obtain rfl : zs = [] := List.eq_nil_of_length_eq_zero hz
  have happ : ∀ w : World, (Builtin.append_ #[25, 25] 25 #[.slice none 0 0, .slice none 0 0]).run Tryz.prog w = .ok (.slice none 0 0) w := fun w => by kernel_rfl
  go_enter Tryz.func6, Tryz.ntmps6
  go_wp2
  go_ret
  exact GaveU.mk (Ws.zero _ _) (Below.refl _ _)
 | some x =>
  go_enter Tryz.func6, Tryz.ntmps6
  go_wp2_with (first
   | (at_builtin; refine wpList_append_own _ rfl _ _ 25 rfl w.heap.size 64 i0 (.int .u32 0) 1 4 Tryz.underlying25 hi hz0 hz1 hz2 rfl (by decide) _ _ _ rfl (World.ownsRow_nil _ _ _ _) x len cap (zs.map (.int .u32)) rfl ?c0 ?c1 ?c2 ?c3 ?c4 ?c5 ?_)
   | go_in)
  case c0 => simp [hz]
  case c5 => exact Nat.le_refl _
  case c1 =>
   intro j u hu
   rcases hr with h | ⟨b, off, h, hc⟩
   ·rw [List.getElem?_eq_none (by simp; omega)] at hu; cases hu
   ·obtain rfl := Option.some.inj h
    by_cases hj : j < zs.length
    ·simp [List.getElem?_eq_getElem hj] at hu
     subst hu
     have := hc j (by omega)
     simpa [Addr.add_lit, List.getD, List.getElem?_eq_getElem hj] using this
    ·rw [List.getElem?_eq_none (by simp; omega)] at hu; cases hu
  case c2 => intro u hu; obtain ⟨z, _, rfl⟩ := List.mem_map.1 hu; rfl
  case c3 => unfold maxLen; omega
  case c4 => omega
  intro v' w' hown hg _
  have HW : Hid (Ws w' w.heap.size v' zs) := by show w'.ownsRow _ _ _ _ _ _; rw [hz]; simpa using hown
  have HG : Hid (Below w.heap.size w w') := (Below.refl _ _).grown hg (Nat.le_refl _) (fun k hk => by simp [Value.ownBlock] at hk)
  clear hown hg
  go_wp2
  go_ret
  exact GaveU.mk HW.out HG.out
end cell
namespace tar
open Go.RowKit
set_option maxRecDepth 100000
theorem stepT : PairT Tryz.prog 136 22 := ⟨by kernel_rfl, Tryz.underlying22⟩
set_option maxHeartbeats 400000 in
theorem steps_any (a : Option Addr) (len cap : Nat) (zs : List Du) (w : World) (h : Came w a len cap zs) :
  Calls Tryz.prog 18 #[.slice a len cap] w fun e w' => GaveD 136 w zs e w' := by
 obtain ⟨hr, hn, -, hl, -⟩ := h
 cases a with
 | none =>
  have hc := hn rfl
  have h0 : len = 0 := by rcases hr.2 with h | ⟨b, off, h, _⟩; exact h; cases h
  subst hc h0
  obtain rfl : zs = [] := List.eq_nil_of_length_eq_zero hr.1
  have happ : ∀ w : World, (Builtin.append_ #[22, 22] 22 #[.slice none 0 0, .slice none 0 0]).run Tryz.prog w = .ok (.slice none 0 0) w := fun w => by kernel_rfl
  go_enter Tryz.func18, Tryz.ntmps18
  go_wp2
  go_ret
  exact GaveD.mk (Ld.zero _ _ _) (Below.refl _ _)
 | some x =>
  go_enter Tryz.func18, Tryz.ntmps18
  go_wp2_with (first
   | (at_builtin; refine wp_pairs stepT rfl _ _ rfl w.heap.size x len cap zs rfl rfl hr hl (Nat.le_refl _) ?_)
   | go_in)
  intro v' w' hown hg
  have HW : Hid (Ld 136 w' w.heap.size v' zs) := hown
  have HG : Hid (Below w.heap.size w w') := (Below.refl _ _).grown hg (Nat.le_refl _) (fun k hk => by cases hk)
  clear hown hg
  go_wp2
  go_ret
  exact GaveD.mk HW.out HG.out
end tar
namespace disk
open Go.RowKit cell
set_option maxRecDepth 100000
def JR (w : World) (c : List Int) (k : Nat) (W : World) : Prop := ∃ V sl, Box w w.heap.size V sl (itD c k).1 W
set_option maxHeartbeats 4000000 in
theorem kreplay : KReplay := by
 intro w a n cap c h hnil hcap hby hw
 have H0 : JR w c 0 (w.alloc (.cells #[.slice none 0 0] 79)) := ⟨.slice none 0 0, [], Blk.new _ _ _, Lr.zero _ _ _, Recs.nil _ _, (fun i hi => by cases hi), (Below.refl _ _).alloc (Nat.le_refl _) _⟩
 have HE : Hid (Calls Tryz.prog 65 #[.slice a n cap, .func (.func 71) #[] #[.pointer (some ⟨w.heap.size, 0, none⟩)]] (w.alloc (.cells #[.slice none 0 0] 79)) fun e w' => EPost (JR w c) c e w') := by
  refine each_any 71 #[.pointer (some ⟨w.heap.size, 0, none⟩)] (JR w c) a n cap c _ (fun k W hj => ?_) H0 hcap hw (fun _ _ => by kernel_rfl) ?_
  ·obtain ⟨V, sl, hb⟩ := hj
   exact h.below hb.bel
  ·intro k p m b o W hj hp hit hr h1 h2 h3
   obtain ⟨V, sl, hb⟩ := hj
   have hs : sl.length ≤ 1000000 := by have := hb.recs.1; have := it_count c k; omega
   refine (put_record w w.heap.size V sl _ (recAt c p) b o m W hb hr h1 h2 hs).mono ?_
   rintro e w' ⟨rfl, V', sl', hb'⟩
   refine ⟨rfl, V', sl', ?_⟩
   rw [hit]
   exact hb'
 clear H0 h hnil hcap hby hw
 go_enter Tryz.func49, Tryz.ntmps49
 go_wp2_with fail
 refine HE.out.mono ?_
 rintro e w1 ⟨x, f, k, rfl, ⟨V, sl, hb⟩, hi⟩
 have HB : Hid (Box w w.heap.size V sl (itD c k).1 w1) := hb
 have HI : Hid ((¬ May c ∧ x = 0 ∧ f = 1) ∨ (May c ∧ lenAt c (repD c).2 < 0 ∧ x = 0 ∧ f = 3) ∨ (May c ∧ lenAt c (repD c).2 = 0 ∧ repD c = itD c k ∧ x = ((repD c).2 : Int) ∧ f = 0)) := hi
 clear hb hi HE
 by_cases hf : f = 0
 ·have HR : Hid (RepIs c (itD c k).1 x 0) := by
   rcases HI.out with ⟨_, _, e⟩ | ⟨_, _, _, e⟩ | ⟨q1, q2, q3, q4, _⟩
   ·rw [hf] at e; exact absurd e (by decide)
   ·rw [hf] at e; exact absurd e (by decide)
   ·exact .inr (.inr ⟨q1, q2, by rw [q3], q4, rfl⟩)
  have q0 : w1.cell? ⟨w.heap.size, 0, none⟩ = some V := HB.out.blk.cell 0
  obtain ⟨va, vc, hV, hrd⟩ := HB.out.reads
  have HRD : Hid (ReadsF w1 w.heap.size va (itD c k).1.length (itD c k).1) := hrd
  have HBL : Hid (Below w.heap.size w w1) := HB.out.bel
  subst hf
  subst hV
  clear hrd HB HI
  generalize (itD c k).1 = zs at *
  have HFW : Hid (zs.length ≤ 100000) := Nat.le_trans (rep_few HR.out).1 (by decide)
  generalize hzl : zs.length = zl at *
  clear hzl
  go_wp2_with fail
  go_ret3
  exact ⟨va, _, vc, zs, x, 0, rfl, HRD.out, HFW.out, HR.out, HBL.out⟩
 ·have HR : Hid (RepIs c [] 0 f) := by
   rcases HI.out with ⟨q1, _, e⟩ | ⟨q1, q2, _, e⟩ | ⟨_, _, _, _, e⟩
   ·exact .inl ⟨q1, rfl, rfl, e⟩
   ·exact .inr (.inl ⟨q1, q2, rfl, rfl, e⟩)
   ·exact absurd e hf
  have HBL : Hid (Below w.heap.size w w1) := HB.out.bel
  have hne : (f != 0) = true := by simpa using hf
  clear HB HI hf
  go_wp2_with fail
  go_ret3
  exact ⟨none, 0, 0, [], 0, f, rfl, ⟨rfl, .inl rfl⟩, Nat.zero_le _, HR.out, HBL.out⟩
end disk
namespace vnd
open disk (RepIs AppIs)
open book (Ev ev0 EMay evL evOf EncIs DecIs Cm cm0 So so0 BookIs Sees ECame FirstAt NoneAt)
open acc (Ac Tm Bi TCame ACame)
open cell (Wr RowU)
open Go.RowKit
set_option maxRecDepth 100000
theorem enc_yes {v : Ev} {ws : List Int} {g : Int} (h : EncIs v ws g) (hv : EMay v) : (∀ x ∈ ws, 0 ≤ x ∧ x < 4294967296) ∧ g = 0 := by
 rcases h with ⟨_, rfl, rfl⟩ | ⟨n, _⟩
 ·exact ⟨book.may_word hv, rfl⟩
 ·exact absurd hv n
set_option maxHeartbeats 2000000 in
theorem pkeep (p2 : Option Addr) (m2 c2 : Nat) (a : Option Addr) (n cap : Nat) (c : List Int) (l : List Ev) (v : Ev) (w : World) (h : Dk w a n cap c) (hk : KeptIs c l 0) (hl : l.length ≤ 120) (hv : EMay v) : Calls Tryz.prog 24 #[.agg #[.slice p2 m2 c2, .slice a n cap, .int .i64 (l.length : Int)], .agg #[.int .i64 v.kd, .int .i64 v.me, .int .i64 v.mo, .int .i64 v.id, .int .i64 v.te, .int .i64 v.de, .int .i64 v.fe, .int .i64 v.pr, .int .i64 v.ch, .int .i64 v.un, .int .i64 v.tg, .int .i64 v.ow, .int .i64 v.bp]] w fun e w' => WrGot w (KeepIs c v) e w' := by
 have HC : Hid (∀ W, Below w.heap.size w W → Dk W a n cap c) := fun W hW => h.below hW
 have HKI : Hid (KeptIs c l 0) := hk
 have HV : Hid (EMay v) := hv
 clear h hk hv
 obtain ⟨W0, HWW, H0s, H0v, H0B, hs0⟩ := sh2 w #[.slice p2 m2 c2, .slice a n cap, .int .i64 (l.length : Int)] 47 #[.int .i64 v.kd, .int .i64 v.me, .int .i64 v.mo, .int .i64 v.id, .int .i64 v.te, .int .i64 v.de, .int .i64 v.fe, .int .i64 v.pr, .int .i64 v.ch, .int .i64 v.un, .int .i64 v.tg, .int .i64 v.ow, .int .i64 v.bp] 71
 go_enter Tryz.func24, Tryz.ntmps24
 go_upto_region 1 with fail
 rw [HWW.out]
 clear HWW
 by_cases h1 : l.length = 120
 ·have d1 : ((l.length : Int) == 120) = true := by simp; omega
  have HF : Hid (KeepIs c v [] 16) := ⟨l, 0, HKI.out, .inl ⟨by omega, rfl, rfl⟩⟩
  clear h1
  have qs2 : W0.cell? ⟨w.heap.size, 2, none⟩ = some (.int .i64 (l.length : Int)) := H0s.out.cell 2
  go_wp2_with (first
   | (refine zqw rfl rfl rfl H0s zqu47 ?_)
   | (refine zqw rfl rfl rfl H0v zqu71 ?_)
   | fail)
  go_ret2
  exact ⟨none, 0, 0, [], 16, rfl, HF.out, ⟨rfl, .inl rfl⟩, (fun x hx => by cases hx), Nat.le_refl _, Nat.zero_le _, H0B.out⟩
 ·have d1 : ((l.length : Int) == 120) = false := by simp; omega
  have hl2 : Hid (l.length < 120) := (by omega : l.length < 120)
  clear h1 hl
  have HEN : Hid (Calls Tryz.prog 40 #[.agg #[.int .i64 v.kd, .int .i64 v.me, .int .i64 v.mo, .int .i64 v.id, .int .i64 v.te, .int .i64 v.de, .int .i64 v.fe, .int .i64 v.pr, .int .i64 v.ch, .int .i64 v.un, .int .i64 v.tg, .int .i64 v.ow, .int .i64 v.bp]] W0 fun e w' => book.EncGot W0 v e w') := book.kenc W0 v (book.wf_may HV.out)
  have qs2 : W0.cell? ⟨w.heap.size, 2, none⟩ = some (.int .i64 (l.length : Int)) := H0s.out.cell 2
  go_wp2_with (first
   | (refine zqw rfl rfl rfl H0s zqu47 ?_)
   | (refine zqw rfl rfl rfl H0v zqu71 ?_)
   | fail)
  refine HEN.out.mono ?_
  rintro e w1 ⟨ra, rn, rc, ws, g, rfl, hen, hrw, hrn, hrc, hr13, hb1⟩
  have H1s := shN H0s hb1
  have H1v := shN H0v hb1
  have H1B := shB H0B hb1
  have hsw1 : W0.heap.size ≤ w1.heap.size := hb1.size
  clear hb1 H0s H0v H0B
  clear qs2
  obtain ⟨hws, rfl⟩ := enc_yes hen HV.out
  have HEI : Hid (EncIs v ws 0) := hen
  clear hen HEN
  have HAP : Hid (Calls Tryz.prog 41 #[.slice a n cap, .slice ra rn rc] w1 fun e w' => disk.AppGot w1 c ws e w') := (fun d : Dk w1 a n cap c => disk.kappend w1 a n cap c ra rn rc ws d.row d.nil d.room d.bytes d.wd hrw hrn hrc (by omega) hws) (HC.out _ H1B.out)
  clear hrw hrn hrc hws
  have qs1 : w1.cell? ⟨w.heap.size, 1, none⟩ = some (.slice a n cap) := H1s.out.cell 1
  go_wp2_with (first
   | (refine zqw rfl rfl rfl H1s zqu47 ?_)
   | (refine zqw rfl rfl rfl H1v zqu71 ?_)
   | fail)
  refine HAP.out.mono ?_
  rintro e w2 ⟨p3, m3, c3, ls, f3, rfl, hrow, hnew, hle, hsm, hai, hb2⟩
  have H2s := shN H1s hb2
  have H2v := shN H1v hb2
  have H2B := shB H1B hb2
  have hsw2 : w1.heap.size ≤ w2.heap.size := hb2.size
  clear hb2 H1s H1v H1B
  clear qs1
  have HF : Hid (KeepIs c v ls f3) := ⟨l, 0, HKI.out, .inr ⟨hl2.out, ws, 0, HEI.out, .inr ⟨rfl, hai⟩⟩⟩
  have HRW : Hid (cell.RowW w2 p3 m3 ls) := hrow
  have HNW : Hid (∀ x, p3 = some x → w.heap.size ≤ x.block) := fun x hx => Nat.le_trans (by omega) (hnew x hx)
  clear hrow hnew hai HAP HEI HKI HC hl2
  go_wp2_with fail
  go_ret2
  exact ⟨p3, m3, c3, ls, f3, rfl, HF.out, HRW.out, HNW.out, hle, hsm, H2B.out⟩
end vnd
end Go.Proofs.YtomibnggmhjdfaaGreat
