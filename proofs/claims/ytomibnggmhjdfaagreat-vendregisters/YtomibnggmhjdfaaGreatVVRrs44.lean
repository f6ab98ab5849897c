import Derived.Test.YtomibnggmhjdfaaGreatVVRrs42
import Derived.Test.YtomibnggmhjdfaaGreatVVRrs43
set_option linter.unusedVariables false
set_option linter.unusedSimpArgs false
namespace Go.Proofs.YtomibnggmhjdfaaGreat
namespace book
open Go.RowKit
set_option maxRecDepth 100000
def findV (B : Nat) : Value := .func (.func 61) #[] #[.pointer (some ⟨B, 0, none⟩)]
theorem asked_any (B : Nat) (me xm xr xn xo xb xf : Int) (dp : Option Addr) (dn dc : Nat) (sp : Option Addr) (sn sc : Nat) (W : World) (hc : W.cell? ⟨B, 0, none⟩ = some (.int .i64 me)) (hB : B < W.heap.size) :
  Calls Tryz.prog 61 #[.agg #[.int .i64 xm, .int .i64 xr, .int .i64 xn, .int .i64 xo, .int .i64 xb, .int .i64 xf, .slice dp dn dc, .slice sp sn sc], .pointer (some ⟨B, 0, none⟩)] W fun e w' => e = .returned (.bool (xm == me)) ∧ Below W.heap.size W w' := by
 have hc2 : (W.alloc (.cells #[.int .i64 xm, .int .i64 xr, .int .i64 xn, .int .i64 xo, .int .i64 xb, .int .i64 xf, .slice dp dn dc, .slice sp sn sc] 62)).cell? ⟨B, 0, none⟩ = some (.int .i64 me) := by rw [World.cell?_alloc_lt W _ _ hB]; exact hc
 have HB : Hid (Below W.heap.size W (W.alloc (.cells #[.int .i64 xm, .int .i64 xr, .int .i64 xn, .int .i64 xo, .int .i64 xb, .int .i64 xf, .slice dp dn dc, .slice sp sn sc] 62))) := (Below.refl _ _).alloc (Nat.le_refl _) _
 clear hc hB
 go_enter Tryz.func61, Tryz.ntmps61
 go_wp2_with fail
 go_ret
 exact ⟨rfl, HB.out⟩
set_option maxHeartbeats 2000000 in
theorem index_cust (B n cap : Nat) (me : Int) (a : Option Addr) (l : List Cu) (w : World) (hc : w.cell? ⟨B, 0, none⟩ = some (.int .i64 me)) (hr : RowC w a n l) (hn : n ≤ 2000000) :
  Calls Tryz.prog 60 #[.slice a n cap, findV B] w fun e w' => ∃ x, e = .returned (.int .i64 x) ∧ FoundIs l me x ∧ Below w.heap.size w w' := by
 have hB := World.block_lt_of_cell? w _ hc
 have HC : Hid (∀ wr, Below w.heap.size w wr → ∀ (xm xr xn xo xb xf : Int) (dp : Option Addr) (dn dc : Nat) (sp : Option Addr) (sn sc : Nat), Calls Tryz.prog 61 #[.agg #[.int .i64 xm, .int .i64 xr, .int .i64 xn, .int .i64 xo, .int .i64 xb, .int .i64 xf, .slice dp dn dc, .slice sp sn sc], .pointer (some ⟨B, 0, none⟩)] wr fun e w' => e = .returned (.bool (xm == me)) ∧ Below wr.heap.size wr w') := fun wr hb xm xr xn xo xb xf dp dn dc sp sn sc =>
  asked_any B me xm xr xn xo xb xf dp dn dc sp sn sc wr ((hb.cell (p := ⟨B, 0, none⟩) hB).trans hc) (Nat.lt_of_lt_of_le hB hb.size)
 have HR : Hid (RowC w a n l) := hr
 have HL : Hid (l.length = n) := hr.1
 clear hc hB hr
 unfold findV
 go_enter Tryz.func60, Tryz.ntmps60
 go_wp2_with fail
 go_loopw [8] (fun i wr => ∃ k : Nat, k ≤ n ∧ i = .int .i64 (k : Int) ∧ (∀ j, j < k → (l.getD j cu0).me ≠ me) ∧ Below w.heap.size w wr) (fun i _ => n - (intOf i).toNat)
 case atStart => exact ⟨0, Nat.zero_le _, rfl, (fun j hj => absurd hj (Nat.not_lt_zero _)), Below.refl _ _⟩
 case round =>
  obtain ⟨k, hk, rfl, hal, hb⟩ := hrel
  have HA : Hid (∀ j, j < k → (l.getD j cu0).me ≠ me) := hal
  have HB : Hid (Below w.heap.size w wr) := hb
  clear hal hb
  by_cases hlt : k < n
  ·obtain ⟨b2, o2, rfl, l2, hc2⟩ := HR.out.2.resolve_left (by omega)
   have hce : ∀ j, j < 8 → wr.cell? ⟨b2, o2 + k * 8 + j, none⟩ = (l.getD k cu0).cs[j]? := fun j hj => (HB.out.cell (p := ⟨b2, o2 + k * 8 + j, none⟩) l2).trans (hc2 k j hlt hj)
   have HME : Hid (∀ z, z = (l.getD k cu0).me → (z = me → FoundIs l me (k : Int)) ∧ (z ≠ me → ∀ j, j < k + 1 → (l.getD j cu0).me ≠ me)) := fun z hz => ⟨fun e => .inl ⟨k, by rw [HL.out]; exact hlt, by rw [← hz]; exact e, HA.out, rfl⟩, fun e j hj => by
    by_cases q : j = k
    ·subst q; rw [← hz]; exact e
    ·exact HA.out j (by omega)⟩
   clear hc2 l2
   obtain ⟨⟨xm, xr, xn, xo, xb, xf, dp, dn, dc, sp, sn, sc⟩, hx⟩ : ∃ x, x = l.getD k cu0 := ⟨_, rfl⟩
   have HMX := HME.out xm (by rw [← hx])
   have HY : Hid (xm = me → FoundIs l me (k : Int)) := HMX.1
   have HNO : Hid (xm ≠ me → ∀ j, j < k + 1 → (l.getD j cu0).me ≠ me) := HMX.2
   rw [← hx] at hce
   clear hx HME HMX
   have c0 : wr.cell? ⟨b2, o2 + k * 8, none⟩ = some (.int .i64 xm) := hce 0 (by decide)
   have c1 : wr.cell? ⟨b2, o2 + k * 8 + 1, none⟩ = some (.int .i64 xr) := hce 1 (by decide)
   have c2 : wr.cell? ⟨b2, o2 + k * 8 + 2, none⟩ = some (.int .i64 xn) := hce 2 (by decide)
   have c3 : wr.cell? ⟨b2, o2 + k * 8 + 3, none⟩ = some (.int .i64 xo) := hce 3 (by decide)
   have c4 : wr.cell? ⟨b2, o2 + k * 8 + 4, none⟩ = some (.int .i64 xb) := hce 4 (by decide)
   have c5 : wr.cell? ⟨b2, o2 + k * 8 + 5, none⟩ = some (.int .i64 xf) := hce 5 (by decide)
   have c6 : wr.cell? ⟨b2, o2 + k * 8 + 6, none⟩ = some (.slice dp dn dc) := hce 6 (by decide)
   have c7 : wr.cell? ⟨b2, o2 + k * 8 + 7, none⟩ = some (.slice sp sn sc) := hce 7 (by decide)
   clear hce
   have hcall := HC.out wr HB.out xm xr xn xo xb xf dp dn dc sp sn sc
   clear HC
   by_cases he : xm = me
   ·have HF : Hid (FoundIs l me (k : Int)) := HY.out he
    rw [show (xm == me) = true by simpa using he] at hcall
    have HCL : Hid (Calls Tryz.prog 61 #[.agg #[.int .i64 xm, .int .i64 xr, .int .i64 xn, .int .i64 xo, .int .i64 xb, .int .i64 xf, .slice dp dn dc, .slice sp sn sc], .pointer (some ⟨B, 0, none⟩)] wr fun e w' => e = .returned (.bool true) ∧ Below wr.heap.size wr w') := hcall
    clear hcall he
    go_wp2_with fail
    refine HCL.out.mono ?_
    rintro e w' ⟨rfl, hb'⟩
    have HB' : Hid (Below w.heap.size w w') := bel_step HB.out hb'
    clear hb' c0 c1 c2 c3 c4 c5 c6 c7
    go_wp2_with fail
    go_ret
    exact ⟨(k : Int), rfl, HF.out, HB'.out⟩
   ·have HF : Hid (∀ j, j < k + 1 → (l.getD j cu0).me ≠ me) := HNO.out he
    rw [show (xm == me) = false by simpa using he] at hcall
    have HCL : Hid (Calls Tryz.prog 61 #[.agg #[.int .i64 xm, .int .i64 xr, .int .i64 xn, .int .i64 xo, .int .i64 xb, .int .i64 xf, .slice dp dn dc, .slice sp sn sc], .pointer (some ⟨B, 0, none⟩)] wr fun e w' => e = .returned (.bool false) ∧ Below wr.heap.size wr w') := hcall
    clear hcall he
    go_wp2_with fail
    refine HCL.out.mono ?_
    rintro e w' ⟨rfl, hb'⟩
    have HB' : Hid (Below w.heap.size w w') := bel_step HB.out hb'
    clear hb' c0 c1 c2 c3 c4 c5 c6 c7
    go_wp2_with fail
    go_roundw
    case rel => exact ⟨k + 1, by omega, by go_num, HF.out, HB'.out⟩
    case measure => simp [intOf]; omega
  ·obtain rfl : k = n := by omega
   have HFA : Hid (FoundIs l me (-1)) := .inr ⟨fun j hj => HA.out j (by rw [← HL.out]; exact hj), rfl⟩
   go_wp2_with fail
   go_ret
   exact ⟨-1, rfl, HFA.out, HB.out⟩
set_option maxHeartbeats 2000000 in
theorem pfind (w : World) (p : Option Addr) (n cap : Nat) (l : List Cu) (me : Int) (hr : RowC w p n l) (hn : n ≤ 2000000) : Calls Tryz.prog 39 #[.agg #[.slice p n cap], .int .i64 me] w fun e w' => FindPost w l me e w' := by
 have hmf : ∀ (fn : Fn) (first cap : Array Value) (w : World), (Instr.makeFunc fn first cap).run Tryz.prog w = .ok (.func fn first cap) w := fun _ _ _ _ => rfl
 obtain ⟨W1, HWW, HK1, HM1, HB1, -⟩ := sh2 w #[.slice p n cap] 29 #[.int .i64 me] 3
 have HR : Hid (RowC w p n l) := hr
 have HN : Hid (n ≤ 2000000) := hn
 clear hr hn
 go_enter Tryz.func39, Tryz.ntmps39
 go_upto_region 1 with fail
 rw [HWW.out]
 clear HWW
 have c0 : W1.cell? ⟨w.heap.size, 0, none⟩ = some (.slice p n cap) := HK1.out.cell 0
 have hI := index_cust (w.heap.size + 1) n cap me p l W1 (HM1.out.cell 0) (HR.out.below HB1.out) HN.out
 unfold findV at hI
 have HI : Hid (Calls Tryz.prog 60 #[.slice p n cap, .func (.func 61) #[] #[.pointer (some ⟨w.heap.size + 1, 0, none⟩)]] W1 fun e w' => ∃ x, e = .returned (.int .i64 x) ∧ FoundIs l me x ∧ Below W1.heap.size W1 w') := hI
 clear hI HK1 HM1 HR HN
 go_wp2_with fail
 refine HI.out.mono ?_
 rintro e w' ⟨x, rfl, hx, hb⟩
 have HB' : Hid (Below w.heap.size w w') := bel_step HB1.out hb
 clear hb HI HB1 c0
 by_cases hneg : x < 0
 ·have HF : Hid (FindIs l me 0 18) := by
   rcases hx with ⟨k, _, _, _, e⟩ | ⟨h, _⟩
   ·omega
   ·exact .inr ⟨h, rfl, rfl⟩
  clear hx
  go_wp2_with fail
  go_ret2
  exact ⟨0, 18, rfl, HF.out, HB'.out⟩
 ·have HF : Hid (FindIs l me x 0) := by
   rcases hx with ⟨k, h1, h2, h3, e⟩ | ⟨h, e⟩
   ·exact .inl ⟨k, h1, h2, h3, e, rfl⟩
   ·omega
  clear hx
  go_wp2_with fail
  go_ret2
  exact ⟨x, 0, rfl, HF.out, HB'.out⟩
end book
namespace vnd
open disk (RepIs AppIs)
open book (Ev ev0 EMay evL evOf EncIs DecIs Cm cm0 So so0 BookIs Sees ECame FirstAt NoneAt)
open acc (Ac Tm Bi TCame ACame)
open cell (Wr RowU)
open Go.RowKit
set_option maxRecDepth 100000
def CusP (w : World) (bk : List Cm) (me : Int) (e : Ending) (w' : World) : Prop := Below w.heap.size w w' ∧ ((e = .returned (.tuple #[.agg #[.int .i64 0, .int .i64 0, .int .i64 0, .int .i64 0, .int .i64 0, .int .i64 0, .slice none 0 0, .slice none 0 0], .int .i64 18]) ∧ NoneAt bk me) ∨
 ∃ k dp dn dc sp sn sc, e = .returned (.tuple #[.agg #[.int .i64 (bk.getD k cm0).a.me, .int .i64 (bk.getD k cm0).a.rv, .int .i64 (bk.getD k cm0).a.nx, .int .i64 (bk.getD k cm0).a.mo, .int .i64 (bk.getD k cm0).a.bo, .int .i64 (bk.getD k cm0).a.fr, .slice dp dn dc, .slice sp sn sc], .int .i64 0]) ∧ FirstAt bk me k ∧ k < bk.length ∧ tar.Came w dp dn dc (bk.getD k cm0).a.ds ∧ book.RowS w sp sn (bk.getD k cm0).so)
theorem find_first {xs : List book.Cu} {bk : List Cm} {me x f : Int} (hl : xs.length = bk.length) (hn : ∀ i, i < xs.length → book.Nums (xs.getD i book.cu0) (bk.getD i cm0).a) (h : book.FindIs xs me x f) : (f = 18 ∧ NoneAt bk me) ∨ (∃ k : Nat, x = (k : Int) ∧ f = 0 ∧ FirstAt bk me k ∧ k < xs.length) := by
 rcases h with ⟨k, h1, h2, h3, h4, h5⟩ | ⟨h1, h2, h3⟩
 ·refine .inr ⟨k, h4, h5, ⟨by rw [← hl]; exact h1, by rw [← (hn k h1).1]; exact h2, fun j hj => by rw [← (hn j (by omega)).1]; exact h3 j hj⟩, h1⟩
 ·exact .inl ⟨h3, fun j hj => by rw [← (hn j (by rw [hl]; exact hj)).1]; exact h1 j (by rw [hl]; exact hj)⟩
set_option maxHeartbeats 2000000 in
theorem pcust (p2 : Option Addr) (m2 c2 : Nat) (xs : List book.Cu) (bk : List Cm) (a : Option Addr) (n cap : Nat) (q me : Int) (w : World) (h : Sees w p2 m2 xs bk) (hm : m2 ≤ 120) : Calls Tryz.prog 23 #[.agg #[.slice p2 m2 c2, .slice a n cap, .int .i64 q], .int .i64 me] w fun e w' => CusP w bk me e w' := by
 have HSE : Hid (Sees w p2 m2 xs bk) := h
 clear h
 obtain ⟨W0, HWW, H0s, H0r, H0B, hs0⟩ := sh2 w #[.slice p2 m2 c2, .slice a n cap, .int .i64 q] 47 #[.int .i64 0, .int .i64 0, .int .i64 0, .int .i64 0, .int .i64 0, .int .i64 0, .slice none 0 0, .slice none 0 0] 62
 go_enter Tryz.func23, Tryz.ntmps23
 go_upto_region 1 with fail
 rw [HWW.out]
 clear HWW
 have HFI : Hid (Calls Tryz.prog 39 #[.agg #[.slice p2 m2 c2], .int .i64 me] W0 fun e w' => book.FindPost W0 xs me e w') := book.pfind W0 p2 m2 c2 xs me (HSE.out.below H0B.out).row (by omega)
 have qs0 : W0.cell? ⟨w.heap.size, 0, none⟩ = some (.slice p2 m2 c2) := H0s.out.cell 0
 go_wp2_with (first
  | (refine zqw rfl rfl rfl H0s zqu47 ?_)
  | (refine zqw rfl rfl rfl H0r zqu62 ?_)
  | fail)
 refine HFI.out.mono ?_
 rintro e w1 ⟨x, f, rfl, hfi, hb1⟩
 have H1s := shN H0s hb1
 have H1r := shN H0r hb1
 have H1B := shB H0B hb1
 have hsw1 : W0.heap.size ≤ w1.heap.size := hb1.size
 clear hb1 H0s H0r H0B
 clear qs0
 have hff := find_first HSE.out.len HSE.out.num hfi
 clear hfi HFI
 rcases hff with ⟨rfl, hnone⟩ | ⟨k, rfl, rfl, hfirst, hkx⟩
 ·have HNO : Hid (NoneAt bk me) := hnone
  clear hnone
  go_wp2_with (first
   | (refine zql rfl rfl rfl rfl zqu62 (by simp [Value.oneCell']) H1r rfl ?_)
   | (refine zqw rfl rfl rfl H1s zqu47 ?_)
   | (refine zqw rfl rfl rfl H1r zqu62 ?_)
   | fail)
  intro W2 hU
  have H2s := shK hU H1s (by omega)
  have H2r : Hid (Blk W2 (w.heap.size + 1) #[.int .i64 0, .int .i64 0, .int .i64 0, .int .i64 0, .int .i64 0, .int .i64 0, .slice none 0 0, .slice none 0 0] 62) := hU.blk
  have H2B := shV hU H1B (by omega)
  have hsW2 : W2.heap.size = w1.heap.size := hU.size
  clear hU H1s H1r H1B
  have Rr0 : Hid (W2.cell? ⟨w.heap.size + 1, 0, none⟩ = some (.int .i64 0)) := H2r.out.cell 0
  have Rr1 : Hid (W2.cell? ⟨w.heap.size + 1, 1, none⟩ = some (.int .i64 0)) := H2r.out.cell 1
  have Rr2 : Hid (W2.cell? ⟨w.heap.size + 1, 2, none⟩ = some (.int .i64 0)) := H2r.out.cell 2
  have Rr3 : Hid (W2.cell? ⟨w.heap.size + 1, 3, none⟩ = some (.int .i64 0)) := H2r.out.cell 3
  have Rr4 : Hid (W2.cell? ⟨w.heap.size + 1, 4, none⟩ = some (.int .i64 0)) := H2r.out.cell 4
  have Rr5 : Hid (W2.cell? ⟨w.heap.size + 1, 5, none⟩ = some (.int .i64 0)) := H2r.out.cell 5
  have Rr6 : Hid (W2.cell? ⟨w.heap.size + 1, 6, none⟩ = some (.slice none 0 0)) := H2r.out.cell 6
  have Rr7 : Hid (W2.cell? ⟨w.heap.size + 1, 7, none⟩ = some (.slice none 0 0)) := H2r.out.cell 7
  go_wp2_with fail
  exact bodyPost_ret (v := .tuple #[.agg #[.int .i64 0, .int .i64 0, .int .i64 0, .int .i64 0, .int .i64 0, .int .i64 0, .slice none 0 0, .slice none 0 0], .int .i64 18]) (by simp [results, Tryz.results23, Rr0.out, Rr1.out, Rr2.out, Rr3.out, Rr4.out, Rr5.out, Rr6.out, Rr7.out, go_sem]) rfl ⟨H2B.out, .inl ⟨rfl, HNO.out⟩⟩
 ·have HFT : Hid (FirstAt bk me k) := hfirst
  have HSW : Hid (Sees w1 p2 m2 xs bk) := HSE.out.below H1B.out
  have HKB : Hid (k < bk.length) := by rw [← HSE.out.len]; exact hkx
  have HDS : Hid (tar.Came w (xs.getD k book.cu0).dp (xs.getD k book.cu0).dn (xs.getD k book.cu0).dc (bk.getD k cm0).a.ds ∧ book.RowS w (xs.getD k book.cu0).sp (xs.getD k book.cu0).sn (bk.getD k cm0).so) := ⟨HSE.out.ds k hkx, HSE.out.so k hkx⟩
  obtain ⟨cb, co, hpp, hcl, hcc⟩ : ∃ b off, p2 = some ⟨b, off, none⟩ ∧ b < w1.heap.size ∧ ∀ i j, i < m2 → j < 8 → w1.cell? ⟨b, off + i * 8 + j, none⟩ = (xs.getD i book.cu0).cs[j]? := by
   rcases HSW.out.row.2 with h | h
   ·have := HSW.out.row.1; omega
   ·exact h
  subst hpp
  have hkm : k < m2 := by have := HSW.out.row.1; omega
  have hnm := HSW.out.num k hkx
  have hds := HSW.out.ds k hkx
  have y0 : w1.cell? ⟨cb, co + k * 8, none⟩ = some (.int .i64 (bk.getD k cm0).a.me) := (hcc k 0 hkm (by decide)).trans (by rw [← hnm.1]; rfl)
  have y1 : w1.cell? ⟨cb, co + k * 8 + 1, none⟩ = some (.int .i64 (bk.getD k cm0).a.rv) := (hcc k 1 hkm (by decide)).trans (by rw [← hnm.2.1]; rfl)
  have y2 : w1.cell? ⟨cb, co + k * 8 + 2, none⟩ = some (.int .i64 (bk.getD k cm0).a.nx) := (hcc k 2 hkm (by decide)).trans (by rw [← hnm.2.2.1]; rfl)
  have y3 : w1.cell? ⟨cb, co + k * 8 + 3, none⟩ = some (.int .i64 (bk.getD k cm0).a.mo) := (hcc k 3 hkm (by decide)).trans (by rw [← hnm.2.2.2.1]; rfl)
  have y4 : w1.cell? ⟨cb, co + k * 8 + 4, none⟩ = some (.int .i64 (bk.getD k cm0).a.bo) := (hcc k 4 hkm (by decide)).trans (by rw [← hnm.2.2.2.2.1]; rfl)
  have y5 : w1.cell? ⟨cb, co + k * 8 + 5, none⟩ = some (.int .i64 (bk.getD k cm0).a.fr) := (hcc k 5 hkm (by decide)).trans (by rw [← hnm.2.2.2.2.2]; rfl)
  have y6 : w1.cell? ⟨cb, co + k * 8 + 6, none⟩ = some (.slice (xs.getD k book.cu0).dp (xs.getD k book.cu0).dn (xs.getD k book.cu0).dc) := hcc k 6 hkm (by decide)
  have y7 : w1.cell? ⟨cb, co + k * 8 + 7, none⟩ = some (.slice (xs.getD k book.cu0).sp (xs.getD k book.cu0).sn (xs.getD k book.cu0).sc) := hcc k 7 hkm (by decide)
  clear hcc hnm
  generalize (xs.getD k book.cu0).dp = dp at *
  generalize (xs.getD k book.cu0).dn = dn at *
  generalize (xs.getD k book.cu0).dc = dc at *
  generalize hy : (bk.getD k cm0).a = y at *
  have HY : Hid ((bk.getD k cm0).a = y) := hy
  clear hy
  generalize (xs.getD k book.cu0).sp = sp at *
  generalize (xs.getD k book.cu0).sn = sn at *
  generalize (xs.getD k book.cu0).sc = sc at *
  clear hds hfirst hkx HSW HSE
  have qs0 : w1.cell? ⟨w.heap.size, 0, none⟩ = some (.slice (some ⟨cb, co, none⟩) m2 c2) := H1s.out.cell 0
  go_wp2_with (first
   | (refine zql rfl rfl rfl rfl zqu62 (by simp [Value.oneCell']) H1r rfl ?_)
   | (refine zqw rfl rfl rfl H1s zqu47 ?_)
   | (refine zqw rfl rfl rfl H1r zqu62 ?_)
   | fail)
  intro W2 hU
  have H2s := shK hU H1s (by omega)
  have H2r : Hid (Blk W2 (w.heap.size + 1) #[.int .i64 y.me, .int .i64 y.rv, .int .i64 y.nx, .int .i64 y.mo, .int .i64 y.bo, .int .i64 y.fr, .slice dp dn dc, .slice sp sn sc] 62) := hU.blk
  have H2B := shV hU H1B (by omega)
  have hsW2 : W2.heap.size = w1.heap.size := hU.size
  clear hU H1s H1r H1B
  clear qs0
  obtain ⟨Rr0, Rr1, Rr2, Rr3, Rr4, Rr5, Rr6, Rr7⟩ := shc8 H2r
  go_wp2_with fail
  exact bodyPost_ret (v := .tuple #[.agg #[.int .i64 y.me, .int .i64 y.rv, .int .i64 y.nx, .int .i64 y.mo, .int .i64 y.bo, .int .i64 y.fr, .slice dp dn dc, .slice sp sn sc], .int .i64 0]) (by simp [results, Tryz.results23, Rr0.out, Rr1.out, Rr2.out, Rr3.out, Rr4.out, Rr5.out, Rr6.out, Rr7.out, go_sem]) rfl ⟨H2B.out, .inr ⟨k, dp, dn, dc, sp, sn, sc, by rw [HY.out], HFT.out, HKB.out, by rw [HY.out]; exact HDS.out.1, HDS.out.2⟩⟩
set_option maxHeartbeats 2000000 in
theorem preg (t : Tm) (pt : Option Addr) (lt ct : Nat) (a : Option Addr) (n cap : Nat) (c : List Int) (me : Int) (w : World) (ht : TCame w t pt lt ct) (h : Dk w a n cap c) : Calls Tryz.prog 12 #[.agg #[.slice pt lt ct, .int .i64 t.ff, .int .i64 t.fb, .int .i64 t.db, .int .i64 t.al], .slice a n cap, .int .i64 me] w fun e w' => WrGot w (RegIs t c me) e w' := by
 have HC : Hid (∀ W, Below w.heap.size w W → Dk W a n cap c) := fun W hW => h.below hW
 have HT : Hid (∀ W, Below w.heap.size w W → TCame W t pt lt ct) := fun W hW => ht.below hW
 clear h ht
 obtain ⟨W0, HWW, H0t, H0B, hs0⟩ := sh1 w #[.slice pt lt ct, .int .i64 t.ff, .int .i64 t.fb, .int .i64 t.db, .int .i64 t.al] 24
 go_enter Tryz.func12, Tryz.ntmps12
 go_upto_region 1 with fail
 rw [HWW.out]
 clear HWW
 have HOP : Hid (Calls Tryz.prog 17 #[.agg #[.slice pt lt ct, .int .i64 t.ff, .int .i64 t.fb, .int .i64 t.db, .int .i64 t.al], .slice a n cap] W0 fun e w' => OpnP W0 t a n cap c e w') := popen t pt lt ct a n cap c W0 (HT.out _ H0B.out) (HC.out _ H0B.out)
 go_wp2_with (first
  | (refine zqw rfl rfl rfl H0t zqu24 ?_)
  | fail)
 refine HOP.out.mono ?_
 rintro e w1 (⟨f, rfl, h0, hli, hb1⟩ | ⟨p2, m2, c2, xs, bk, l, rfl, hli, hkp, hse, hm2, hb1⟩)
 ·have d0 : (f != 0) = true := by simpa using h0
  have H1t := shN H0t hb1
  have H1B := shB H0B hb1
  have hsw1 : W0.heap.size ≤ w1.heap.size := hb1.size
  clear hb1 H0t H0B
  have HLI : Hid (f ≠ 0 ∧ LoadIs t c [] f) := ⟨h0, hli⟩
  clear h0 hli HOP
  obtain ⟨W2, HWW, H2s, HBB, hsW2⟩ := sh1 w1 #[.slice none 0 0, .slice none 0 0, .int .i64 0] 47
  have H2t := shN H1t HBB.out
  have H2B := shB H1B HBB.out
  go_upto_region 2 with fail
  clear H1t H1B
  rw [HWW.out]
  clear HWW HBB
  have HV : Hid (RegIs t c me [] f) := ⟨[], f, HLI.out.2, .inl ⟨HLI.out.1, rfl, rfl⟩⟩
  clear HLI
  go_wp2_with fail
  go_ret2
  exact ⟨none, 0, 0, [], f, rfl, HV.out, ⟨rfl, .inl rfl⟩, (fun x hx => by cases hx), Nat.le_refl _, Nat.zero_le _, H2B.out⟩
 ·have HLI : Hid (LoadIs t c bk 0) := hli
  have HKI : Hid (KeptIs c l 0) := hkp
  have HSE : Hid (Sees w1 p2 m2 xs bk) := hse
  have H1t := shN H0t hb1
  have H1B := shB H0B hb1
  have hsw1 : W0.heap.size ≤ w1.heap.size := hb1.size
  clear hb1 H0t H0B
  have HL2 : Hid (l.length ≤ 120) := load_len hli hkp
  clear hli hkp hse HOP
  have H2X : Hid (Below w1.heap.size w1 w1) := Below.refl _ _
  obtain ⟨W2, HWW, H3s, H3X, hsW2⟩ := sh1 w1 #[.slice p2 m2 c2, .slice a n cap, .int .i64 (l.length : Int)] 47
  have H3t := shN H1t H3X.out
  have H3B := shB H1B H3X.out
  go_upto_region 2 with fail
  clear H1t H2X H1B
  rw [HWW.out]
  clear HWW
  have HSW : Hid (Sees W2 p2 m2 xs bk) := HSE.out.below H3X.out
  clear HSE
  by_cases h1 : me < 0
  ·have d1 : decide (me < 0) = true := decide_eq_true h1
   have HV : Hid (RegIs t c me [] 2) := ⟨bk, 0, HLI.out, .inr (.inl ⟨rfl, by omega, rfl, rfl⟩)⟩
   clear h1
   go_wp2_with fail
   go_ret2
   exact ⟨none, 0, 0, [], 2, rfl, HV.out, ⟨rfl, .inl rfl⟩, (fun x hx => by cases hx), Nat.le_refl _, Nat.zero_le _, H3B.out⟩
  ·have d1 : decide (me < 0) = false := decide_eq_false h1
   by_cases h2 : 50 ≤ me
   ·have d2 : decide (50 ≤ me) = true := decide_eq_true h2
    have HV : Hid (RegIs t c me [] 2) := ⟨bk, 0, HLI.out, .inr (.inl ⟨rfl, by omega, rfl, rfl⟩)⟩
    clear h1 h2
    go_wp2_with fail
    go_ret2
    exact ⟨none, 0, 0, [], 2, rfl, HV.out, ⟨rfl, .inl rfl⟩, (fun x hx => by cases hx), Nat.le_refl _, Nat.zero_le _, H3B.out⟩
   ·have d2 : decide (50 ≤ me) = false := decide_eq_false h2
    have HME : Hid (0 ≤ me ∧ me ≤ 49) := (by omega : 0 ≤ me ∧ me ≤ 49)
    clear h1 h2
    have HCU : Hid (Calls Tryz.prog 23 #[.agg #[.slice p2 m2 c2, .slice a n cap, .int .i64 (l.length : Int)], .int .i64 me] W2 fun e w' => CusP W2 bk me e w') := pcust p2 m2 c2 xs bk a n cap _ me W2 HSW.out hm2
    go_wp2_with (first
     | (refine zqw rfl rfl rfl H3t zqu24 ?_)
     | (refine zqw rfl rfl rfl H3s zqu47 ?_)
     | fail)
    refine HCU.out.mono ?_
    rintro e w3 ⟨hb3, ⟨rfl, hno⟩ | ⟨k, dp, dn, dc, sp, sn, sc, rfl, hft, hkb, hcm, hso⟩⟩
    ·have HNO : Hid (NoneAt bk me) := hno
     clear hno HCU HSW
     have H4t := shN H3t hb3
     have H4s := shN H3s hb3
     have H4B := shB H3B hb3
     have hsw3 : W2.heap.size ≤ w3.heap.size := hb3.size
     clear hb3 H3t H3s H3B
     obtain ⟨W4, HWW, H5q, HBB, hsW4⟩ := sh1 w3 #[.int .i64 0, .int .i64 0, .int .i64 0, .int .i64 0, .int .i64 0, .int .i64 0, .slice none 0 0, .slice none 0 0] 62
     have H5t := shN H4t HBB.out
     have H5s := shN H4s HBB.out
     have H5B := shB H4B HBB.out
     go_upto_region 7 with fail
     clear H4t H4s H4B
     rw [HWW.out]
     clear HWW HBB
     have HEV : Hid (EMay (regE me)) := ⟨HME.out, .inl ⟨rfl, rfl, rfl, rfl, rfl, rfl, rfl, rfl, rfl, rfl, rfl, rfl⟩⟩
     have HKE : Hid (Calls Tryz.prog 24 #[.agg #[.slice p2 m2 c2, .slice a n cap, .int .i64 (l.length : Int)], .agg #[.int .i64 1, .int .i64 me, .int .i64 0, .int .i64 0, .int .i64 0, .int .i64 0, .int .i64 0, .int .i64 0, .int .i64 0, .int .i64 0, .int .i64 0, .int .i64 0, .int .i64 0]] W4 fun e w' => WrGot W4 (KeepIs c (regE me)) e w') := pkeep p2 m2 c2 a n cap c l (regE me) W4 (HC.out _ H5B.out) HKI.out HL2.out HEV.out
     go_wp2_with (first
      | (refine zqw rfl rfl rfl H5t zqu24 ?_)
      | (refine zqw rfl rfl rfl H5s zqu47 ?_)
      | (refine zqw rfl rfl rfl H5q zqu62 ?_)
      | fail)
     refine HKE.out.mono ?_
     rintro e w5 ⟨p3, m3, c3, ls, f3, rfl, hke, hrow, hnew, hle, hsm, hb5⟩
     have H6t := shN H5t hb5
     have H6s := shN H5s hb5
     have H6q := shN H5q hb5
     have H6B := shB H5B hb5
     have hsw5 : W4.heap.size ≤ w5.heap.size := hb5.size
     clear hb5 H5t H5s H5q H5B
     have HV : Hid (RegIs t c me ls f3) := ⟨bk, 0, HLI.out, .inr (.inr (.inr ⟨rfl, HME.out, HNO.out, hke⟩))⟩
     have HRW : Hid (cell.RowW w5 p3 m3 ls) := hrow
     have HNW : Hid (∀ x, p3 = some x → w.heap.size ≤ x.block) := fun x hx => Nat.le_trans (by omega) (hnew x hx)
     clear hke hrow hnew HKE
     go_wp2_with fail
     go_ret2
     exact ⟨p3, m3, c3, ls, f3, rfl, HV.out, HRW.out, HNW.out, hle, hsm, H6B.out⟩
    ·have HFT : Hid (FirstAt bk me k) := hft
     have HWF : Hid (acc.wf6 (bk.getD k cm0).a) := load_wf HLI.out _ (book.getD_in hkb)
     have HCM : Hid (tar.Came W2 dp dn dc (bk.getD k cm0).a.ds) := hcm
     have HSO : Hid (book.RowS W2 sp sn (bk.getD k cm0).so) := hso
     have HK3 : Hid (Below W2.heap.size W2 w3) := hb3
     clear hft hkb hcm hso HCU HSW
     generalize hy : (bk.getD k cm0).a = y at *
     have HY : Hid ((bk.getD k cm0).a = y) := hy
     clear hy
     have H4t := shN H3t hb3
     have H4s := shN H3s hb3
     have H4B := shB H3B hb3
     have hsw3 : W2.heap.size ≤ w3.heap.size := hb3.size
     clear hb3 H3t H3s H3B
     have H5t : Hid (Blk (w3.alloc (.cells #[.int .i64 y.me, .int .i64 y.rv, .int .i64 y.nx, .int .i64 y.mo, .int .i64 y.bo, .int .i64 y.fr, .slice dp dn dc, .slice sp sn sc] 62)) (w.heap.size) #[.slice pt lt ct, .int .i64 t.ff, .int .i64 t.fb, .int .i64 t.db, .int .i64 t.al] 24) := H4t.out.alloc _
     have H5s : Hid (Blk (w3.alloc (.cells #[.int .i64 y.me, .int .i64 y.rv, .int .i64 y.nx, .int .i64 y.mo, .int .i64 y.bo, .int .i64 y.fr, .slice dp dn dc, .slice sp sn sc] 62)) (w1.heap.size) #[.slice p2 m2 c2, .slice a n cap, .int .i64 (l.length : Int)] 47) := H4s.out.alloc _
     have H5Y : Hid (Below W2.heap.size W2 (w3.alloc (.cells #[.int .i64 y.me, .int .i64 y.rv, .int .i64 y.nx, .int .i64 y.mo, .int .i64 y.bo, .int .i64 y.fr, .slice dp dn dc, .slice sp sn sc] 62))) := HK3.out.alloc HK3.out.size _
     have H5q : Hid (Blk (w3.alloc (.cells #[.int .i64 y.me, .int .i64 y.rv, .int .i64 y.nx, .int .i64 y.mo, .int .i64 y.bo, .int .i64 y.fr, .slice dp dn dc, .slice sp sn sc] 62)) (w3.heap.size) #[.int .i64 y.me, .int .i64 y.rv, .int .i64 y.nx, .int .i64 y.mo, .int .i64 y.bo, .int .i64 y.fr, .slice dp dn dc, .slice sp sn sc] 62) := Blk.new w3 _ _
     have H5B : Hid (Below w.heap.size w (w3.alloc (.cells #[.int .i64 y.me, .int .i64 y.rv, .int .i64 y.nx, .int .i64 y.mo, .int .i64 y.bo, .int .i64 y.fr, .slice dp dn dc, .slice sp sn sc] 62))) := H4B.out.alloc H4B.out.size _
     have hsW4 : w3.heap.size < (w3.alloc (.cells #[.int .i64 y.me, .int .i64 y.rv, .int .i64 y.nx, .int .i64 y.mo, .int .i64 y.bo, .int .i64 y.fr, .slice dp dn dc, .slice sp sn sc] 62)).heap.size := (Blk.new w3 #[.int .i64 y.me, .int .i64 y.rv, .int .i64 y.nx, .int .i64 y.mo, .int .i64 y.bo, .int .i64 y.fr, .slice dp dn dc, .slice sp sn sc] 62).lt
     go_upto_region 7 with fail
     clear H4t H4s HK3 H4B
     generalize (w3.alloc (.cells #[.int .i64 y.me, .int .i64 y.rv, .int .i64 y.nx, .int .i64 y.mo, .int .i64 y.bo, .int .i64 y.fr, .slice dp dn dc, .slice sp sn sc] 62)) = W4 at *
     have HV : Hid (RegIs t c me [] 21) := ⟨bk, 0, HLI.out, .inr (.inr (.inl ⟨rfl, HME.out, HFT.out.some, rfl, rfl⟩))⟩
     go_wp2_with fail
     go_ret2
     exact ⟨none, 0, 0, [], 21, rfl, HV.out, ⟨rfl, .inl rfl⟩, (fun x hx => by cases hx), Nat.le_refl _, Nat.zero_le _, H5B.out⟩
theorem kreg : KvReg := fun W t pt lt ct a n cap c me ht hd _ => preg t pt lt ct a n cap c me W ht hd
end vnd
namespace acc
open Go.ChangeShapes Go.WideShapes Go.ChangeAt Go.RowKit Go.Deep
set_option maxRecDepth 100000
theorem open_terms {H : Type} {enc : TypeId × Value → H} {W : World} {r : Reach} {b0 b1 : Nat} {held : Bool} {v : Value} {d : DataW H} {ps : List MemPlace}
  (hval : Value.okWide Tryz.prog W r b0 24 v) (h : DataW.Trod enc Tryz.prog W b1 (fun _ => true) held 24 v d ps) (hs : ∀ n ∈ d.weights Tryz.prog 24, n ≤ reachBytes) :
  ∃ (x : Tm) (p : Option Addr) (len cap : Nat), v = x.v p len cap ∧ TCame W x p len cap := by
 have hu := Tryz.underlying24
 have hc : Tryz.prog.cellsOf 24 = 5 := by kernel_rfl
 have ci : Tryz.prog.cellsOf 3 = 1 := by kernel_rfl
 have csl : Tryz.prog.cellsOf 22 = 1 := by kernel_rfl
 obtain ⟨cs, rfl, hsz⟩ := okWide_struct hu hval
 rw [hc] at hsz
 obtain ⟨c0, c1, c2, c3, c4, rfl⟩ : ∃ c0 c1 c2 c3 c4, cs = #[c0, c1, c2, c3, c4] := by
  cases cs with
  | mk l => match l, hsz with
   | [c0, c1, c2, c3, c4], _ => exact ⟨c0, c1, c2, c3, c4, rfl⟩
 obtain ⟨fuel, hf⟩ := h
 obtain ⟨xs, n, hx, hd, _, hlen, hg⟩ := DataW.trod_struct hu hf
 match xs, hlen with
 | [y0, y1, y2, y3, y4], _ =>
  have g0 := hg 0 _ rfl
  have g1 := hg 1 _ rfl
  have g2 := hg 2 _ rfl
  have g3 := hg 3 _ rfl
  have g4 := hg 4 _ rfl
  simp [Value.cells, ci, csl] at g0 g1 g2 g3 g4
  obtain ⟨x1, e1, -, w1⟩ := DataW.trod_int Tryz.underlying3 g1
  obtain ⟨x2, e2, -, w2⟩ := DataW.trod_int Tryz.underlying3 g2
  obtain ⟨x3, e3, -, w3⟩ := DataW.trod_int Tryz.underlying3 g3
  obtain ⟨x4, e4, -, w4⟩ := DataW.trod_int Tryz.underlying3 g4
  simp at e1 e2 e3 e4
  subst e1 e2 e3 e4
  rcases Deep.open_slice_pairs Tryz.underlying22 Tryz.underlying136 (by kernel_rfl) rfl rfl (by kernel_rfl) (by kernel_rfl) g0 with ⟨hcs, _⟩ | ⟨x, l, c, mm, fu, V0, V1, D0, D1, P0, P1, hcs, _, hl, hm, hmm, hy, hall⟩
  ·simp at hcs
   subst hcs
   exact ⟨⟨[], x1, x2, x3, x4⟩, none, 0, 0, rfl, ⟨tar.RowD.nil _ _, (fun _ => rfl), Nat.le_refl _, by omega, (fun x hx => by cases hx)⟩, ⟨w1, w2, w3, w4⟩⟩
  ·simp at hcs
   subst hcs
   simp only [if_true] at hmm
   subst hmm
   have hr := tar.rowD_of (len := l) (w := W) (a := x) (m := mm) (by omega) (fun j hj => by
    obtain ⟨k0, k1, t0, t1⟩ := hall j hj
    obtain ⟨z0, hv0, _, hw0⟩ := DataW.trod_int Tryz.underlying3 t0
    obtain ⟨z1, hv1, _, hw1⟩ := DataW.trod_int Tryz.underlying3 t1
    simp only [List.cons.injEq, and_true] at hv0 hv1
    rw [hv0] at k0
    rw [hv1] at k1
    exact ⟨z0, z1, k0, k1, hw0, hw1⟩)
   obtain ⟨zs, r1, r2⟩ := hr
   subst hy
   obtain ⟨hd1, _⟩ := Prod.mk.inj hd
   subst hd1
   have h1 := hs ((l + (mm - l)) * Tryz.prog.bytesOf 136) (by simp [DataW.weights, hu, DataW.weightsEach, Tryz.underlying22])
   rw [show Tryz.prog.bytesOf 136 = 16 from by kernel_rfl] at h1
   simp only [reachBytes] at h1
   exact ⟨⟨zs, x1, x2, x3, x4⟩, some x, l, mm, rfl, ⟨r1, (fun h => by cases h), hl, by omega, r2⟩, ⟨w1, w2, w3, w4⟩⟩
end acc
namespace cell
open Go.RowKit
theorem word_of {z : Int} (h : (Lit.int .u32 z).wf = true) : 0 ≤ z ∧ z < 4294967296 := by
 simp only [Lit.wf, Bool.and_eq_true, decide_eq_true_eq] at h
 rw [show IntKind.u32.min = 0 from by decide, show IntKind.u32.max = 4294967295 from by decide] at h
 omega
end cell
end Go.Proofs.YtomibnggmhjdfaaGreat
