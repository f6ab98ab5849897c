/- book.Find. -/
import Derived.Test.YtfhlokjpdkmdjaaKbF
import Derived.Test.YtfhlokjpdkmdjaaBlk
import Derived.WalkKit
import Derived.Deep.DeepCutAuto
namespace Go.Proofs.Ytfhlokjpdkmdjaa.book
open Go.RowKit
set_option maxRecDepth 100000
set_option linter.unusedVariables false
set_option linter.unusedSimpArgs false

def findV (B : Nat) : Value := .func (.func 42) #[] #[.pointer (some ⟨B, 0, none⟩)]
theorem asked_any (B : Nat) (me xm xr xn xo xb xf : Int) (dp : Option Addr) (dn dc : Nat) (sp : Option Addr) (sn sc : Nat) (W : World) (hc : W.cell? ⟨B, 0, none⟩ = some (.int .i64 me)) (hB : B < W.heap.size) :
    Calls Try.prog 42 #[.agg #[.int .i64 xm, .int .i64 xr, .int .i64 xn, .int .i64 xo, .int .i64 xb, .int .i64 xf, .slice dp dn dc, .slice sp sn sc], .pointer (some ⟨B, 0, none⟩)] W fun e w' => e = .returned (.bool (xm == me)) ∧ Below W.heap.size W w' := by
  have hc2 : (W.alloc (.cells #[.int .i64 xm, .int .i64 xr, .int .i64 xn, .int .i64 xo, .int .i64 xb, .int .i64 xf, .slice dp dn dc, .slice sp sn sc] 58)).cell? ⟨B, 0, none⟩ = some (.int .i64 me) := by rw [World.cell?_alloc_lt W _ _ hB]; exact hc
  have HB : Hid (Below W.heap.size W (W.alloc (.cells #[.int .i64 xm, .int .i64 xr, .int .i64 xn, .int .i64 xo, .int .i64 xb, .int .i64 xf, .slice dp dn dc, .slice sp sn sc] 58))) := (Below.refl _ _).alloc (Nat.le_refl _) _
  clear hc hB
  go_enter Try.func42, Try.ntmps42
  go_wp2_with fail
  go_ret
  exact ⟨rfl, HB.out⟩
set_option maxHeartbeats 2000000 in
theorem index_cust (B n cap : Nat) (me : Int) (a : Option Addr) (l : List Cu) (w : World) (hc : w.cell? ⟨B, 0, none⟩ = some (.int .i64 me)) (hr : RowC w a n l) (hn : n ≤ 2000000) :
    Calls Try.prog 41 #[.slice a n cap, findV B] w fun e w' => ∃ x, e = .returned (.int .i64 x) ∧ FoundIs l me x ∧ Below w.heap.size w w' := by
  have hB := World.block_lt_of_cell? w _ hc
  have HC : Hid (∀ wr, Below w.heap.size w wr → ∀ (xm xr xn xo xb xf : Int) (dp : Option Addr) (dn dc : Nat) (sp : Option Addr) (sn sc : Nat), Calls Try.prog 42 #[.agg #[.int .i64 xm, .int .i64 xr, .int .i64 xn, .int .i64 xo, .int .i64 xb, .int .i64 xf, .slice dp dn dc, .slice sp sn sc], .pointer (some ⟨B, 0, none⟩)] wr fun e w' => e = .returned (.bool (xm == me)) ∧ Below wr.heap.size wr w') := fun wr hb xm xr xn xo xb xf dp dn dc sp sn sc =>
    asked_any B me xm xr xn xo xb xf dp dn dc sp sn sc wr ((hb.cell (p := ⟨B, 0, none⟩) hB).trans hc) (Nat.lt_of_lt_of_le hB hb.size)
  have HR : Hid (RowC w a n l) := hr
  have HL : Hid (l.length = n) := hr.1
  clear hc hB hr
  unfold findV
  go_enter Try.func41, Try.ntmps41
  go_wp2_with fail
  go_loopw [8] (fun i wr => ∃ k : Nat, k ≤ n ∧ i = .int .i64 (k : Int) ∧ (∀ j, j < k → (l.getD j cu0).me ≠ me) ∧ Below w.heap.size w wr) (fun i _ => n - (intOf i).toNat)
  case atStart => exact ⟨0, Nat.zero_le _, rfl, (fun j hj => absurd hj (Nat.not_lt_zero _)), Below.refl _ _⟩
  case round =>
    obtain ⟨k, hk, rfl, hal, hb⟩ := hrel
    have HA : Hid (∀ j, j < k → (l.getD j cu0).me ≠ me) := hal
    have HB : Hid (Below w.heap.size w wr) := hb
    clear hal hb
    by_cases hlt : k < n
    · obtain ⟨b2, o2, rfl, l2, hc2⟩ := HR.out.2.resolve_left (by omega)
      have hce : ∀ j, j < 8 → wr.cell? ⟨b2, o2 + k * 8 + j, none⟩ = (l.getD k cu0).cs[j]? := fun j hj => (HB.out.cell (p := ⟨b2, o2 + k * 8 + j, none⟩) l2).trans (hc2 k j hlt hj)
      have HME : Hid (∀ z, z = (l.getD k cu0).me → (z = me → FoundIs l me (k : Int)) ∧ (z ≠ me → ∀ j, j < k + 1 → (l.getD j cu0).me ≠ me)) := fun z hz => ⟨fun e => .inl ⟨k, by rw [HL.out]; exact hlt, by rw [← hz]; exact e, HA.out, rfl⟩, fun e j hj => by
        by_cases q : j = k
        · subst q; rw [← hz]; exact e
        · exact HA.out j (by omega)⟩
      clear hc2 l2
      obtain ⟨⟨xm, xr, xn, xo, xb, xf, dp, dn, dc, sp, sn, sc⟩, hx⟩ : ∃ x, x = l.getD k cu0 := ⟨_, rfl⟩
      have HMX := HME.out xm (by rw [← hx])
      have HY : Hid (xm = me → FoundIs l me (k : Int)) := HMX.1
      have HNO : Hid (xm ≠ me → ∀ j, j < k + 1 → (l.getD j cu0).me ≠ me) := HMX.2
      rw [← hx] at hce
      clear hx HME HMX
      have c0 : wr.cell? ⟨b2, o2 + k * 8, none⟩ = some (.int .i64 xm) := hce 0 (by decide)
      have c1 : wr.cell? ⟨b2, o2 + k * 8 + 1, none⟩ = some (.int .i64 xr) := hce 1 (by decide)
      have c2 : wr.cell? ⟨b2, o2 + k * 8 + 2, none⟩ = some (.int .i64 xn) := hce 2 (by decide)
      have c3 : wr.cell? ⟨b2, o2 + k * 8 + 3, none⟩ = some (.int .i64 xo) := hce 3 (by decide)
      have c4 : wr.cell? ⟨b2, o2 + k * 8 + 4, none⟩ = some (.int .i64 xb) := hce 4 (by decide)
      have c5 : wr.cell? ⟨b2, o2 + k * 8 + 5, none⟩ = some (.int .i64 xf) := hce 5 (by decide)
      have c6 : wr.cell? ⟨b2, o2 + k * 8 + 6, none⟩ = some (.slice dp dn dc) := hce 6 (by decide)
      have c7 : wr.cell? ⟨b2, o2 + k * 8 + 7, none⟩ = some (.slice sp sn sc) := hce 7 (by decide)
      clear hce
      have hcall := HC.out wr HB.out xm xr xn xo xb xf dp dn dc sp sn sc
      clear HC
      by_cases he : xm = me
      · have HF : Hid (FoundIs l me (k : Int)) := HY.out he
        rw [show (xm == me) = true by simpa using he] at hcall
        have HCL : Hid (Calls Try.prog 42 #[.agg #[.int .i64 xm, .int .i64 xr, .int .i64 xn, .int .i64 xo, .int .i64 xb, .int .i64 xf, .slice dp dn dc, .slice sp sn sc], .pointer (some ⟨B, 0, none⟩)] wr fun e w' => e = .returned (.bool true) ∧ Below wr.heap.size wr w') := hcall
        clear hcall he
        go_wp2_with fail
        refine HCL.out.mono ?_
        rintro e w' ⟨rfl, hb'⟩
        have HB' : Hid (Below w.heap.size w w') := bel_step HB.out hb'
        clear hb' c0 c1 c2 c3 c4 c5 c6 c7
        go_wp2_with fail
        go_ret
        exact ⟨(k : Int), rfl, HF.out, HB'.out⟩
      · have HF : Hid (∀ j, j < k + 1 → (l.getD j cu0).me ≠ me) := HNO.out he
        rw [show (xm == me) = false by simpa using he] at hcall
        have HCL : Hid (Calls Try.prog 42 #[.agg #[.int .i64 xm, .int .i64 xr, .int .i64 xn, .int .i64 xo, .int .i64 xb, .int .i64 xf, .slice dp dn dc, .slice sp sn sc], .pointer (some ⟨B, 0, none⟩)] wr fun e w' => e = .returned (.bool false) ∧ Below wr.heap.size wr w') := hcall
        clear hcall he
        go_wp2_with fail
        refine HCL.out.mono ?_
        rintro e w' ⟨rfl, hb'⟩
        have HB' : Hid (Below w.heap.size w w') := bel_step HB.out hb'
        clear hb' c0 c1 c2 c3 c4 c5 c6 c7
        go_wp2_with fail
        go_roundw
        case rel => exact ⟨k + 1, by omega, by go_num, HF.out, HB'.out⟩
        case measure => simp [intOf]; omega
    · obtain rfl : k = n := by omega
      have HFA : Hid (FoundIs l me (-1)) := .inr ⟨fun j hj => HA.out j (by rw [← HL.out]; exact hj), rfl⟩
      go_wp2_with fail
      go_ret
      exact ⟨-1, rfl, HFA.out, HB.out⟩
set_option maxHeartbeats 2000000 in
theorem kfind : KFind := by
  intro w p n cap l me hr hnil hle hn hwf
  have hmf : ∀ (fn : Fn) (first cap : Array Value) (w : World), (Instr.makeFunc fn first cap).run Try.prog w = .ok (.func fn first cap) w := fun _ _ _ _ => rfl
  have HB1 : Hid (Below w.heap.size w ((w.alloc (.cells #[.slice p n cap] 45)).alloc (.cells #[.int .i64 me] 3))) := ((Below.refl _ _).alloc (Nat.le_refl _) _).alloc (by simp) _
  have HK1 : Hid (Blk ((w.alloc (.cells #[.slice p n cap] 45)).alloc (.cells #[.int .i64 me] 3)) w.heap.size #[.slice p n cap] 45) := (Blk.new _ _ _).alloc _
  have HM1 : Hid (Blk ((w.alloc (.cells #[.slice p n cap] 45)).alloc (.cells #[.int .i64 me] 3)) (w.heap.size + 1) #[.int .i64 me] 3) := Blk.new1 _ _ _ _
  have HR : Hid (RowC w p n l) := hr
  have HN : Hid (n ≤ 2000000) := hn
  clear hr hn hwf hle hnil
  go_enter Try.func21, Try.ntmps21
  go_upto_region 1 with fail
  generalize ((w.alloc (.cells #[.slice p n cap] 45)).alloc (.cells #[.int .i64 me] 3)) = W1 at *
  have c0 : W1.cell? ⟨w.heap.size, 0, none⟩ = some (.slice p n cap) := HK1.out.cell 0
  have hI := index_cust (w.heap.size + 1) n cap me p l W1 (HM1.out.cell 0) (HR.out.below HB1.out) HN.out
  unfold findV at hI
  have HI : Hid (Calls Try.prog 41 #[.slice p n cap, .func (.func 42) #[] #[.pointer (some ⟨w.heap.size + 1, 0, none⟩)]] W1 fun e w' => ∃ x, e = .returned (.int .i64 x) ∧ FoundIs l me x ∧ Below W1.heap.size W1 w') := hI
  clear hI HK1 HM1 HR HN
  go_wp2_with fail
  refine HI.out.mono ?_
  rintro e w' ⟨x, rfl, hx, hb⟩
  have HB' : Hid (Below w.heap.size w w') := bel_step HB1.out hb
  clear hb HI HB1 c0
  by_cases hneg : x < 0
  · have HF : Hid (FindIs l me 0 18) := by
      rcases hx with ⟨k, _, _, _, e⟩ | ⟨h, _⟩
      · omega
      · exact .inr ⟨h, rfl, rfl⟩
    clear hx
    go_wp2_with fail
    go_ret2
    exact ⟨0, 18, rfl, HF.out, HB'.out⟩
  · have HF : Hid (FindIs l me x 0) := by
      rcases hx with ⟨k, h1, h2, h3, e⟩ | ⟨h, e⟩
      · exact .inl ⟨k, h1, h2, h3, e, rfl⟩
      · omega
    clear hx
    go_wp2_with fail
    go_ret2
    exact ⟨x, 0, rfl, HF.out, HB'.out⟩

end Go.Proofs.Ytfhlokjpdkmdjaa.book
