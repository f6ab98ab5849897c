/- order.number, order.guess. -/
import Derived.Test.YtlianhienbhbgaaDoorOdH
import Derived.Test.YtlianhienbhbgaaDoorOdK
import Derived.Test.YtlianhienbhbgaaDoorOdO
namespace Go.Proofs.YtlianhienbhbgaaDoor.odr
open Go.RowKit
set_option maxRecDepth 100000
set_option linter.unusedVariables false
set_option linter.unusedSimpArgs false

theorem var_below {P : Program} {n : String} {cs : Array Value} {w w' : World} (h : w.var? P n = some cs) (hb : Below w.heap.size w w') : w'.var? P n = some cs := by
  unfold World.var? at h ⊢
  cases hg : P.globalNamed n with
  | none => simp [hg] at h
  | some g =>
    simp only [hg, Option.bind_some] at h ⊢
    have hlt : g < w.heap.size := by
      rcases Nat.lt_or_ge g w.heap.size with h' | h'
      · exact h'
      · simp [Array.getElem?_eq_none h'] at h
    rw [hb.block g hlt]
    exact h
/-- The library's two errors are there. -/
structure Errs (w : World) : Prop where
  s : ∃ tp p, w.var? Tryd.prog "strconv.ErrSyntax" = some #[.iface tp p]
  r : ∃ tp p, w.var? Tryd.prog "strconv.ErrRange" = some #[.iface tp p]
theorem Errs.below {w w' : World} (h : Errs w) (hb : Below w.heap.size w w') : Errs w' := by
  obtain ⟨⟨a, x, hx⟩, ⟨b, y, hy⟩⟩ := h
  exact ⟨⟨a, x, var_below hx hb⟩, ⟨b, y, var_below hy hb⟩⟩
theorem atoi_any (s : ByteArray) (w : World) (hs : s.size ≤ 1000) (he : Errs w) :
    Calls Tryd.prog 39 #[.string s] w fun e w' => ∃ x, e = .returned (.tuple #[.int .i64 (atoiV s.data.toList), x]) ∧ Below w.heap.size w w' := by
  unfold atoiV
  cases h : Lib.atoiAll s.data.toList with
  | ok v =>
    refine (Tryd.strconv_Atoi_ok s (by omega) v h w).mono ?_
    rintro e w' ⟨rfl, hw⟩
    refine ⟨_, rfl, ?_⟩
    rcases hw with rfl | ⟨t, rfl⟩
    · exact Below.refl _ _
    · exact Lib.bytesWorld_below _ _ _
  | range =>
    obtain ⟨tp, p, hv⟩ := he.r
    refine (Tryd.strconv_Atoi_range_var s (by omega) h tp p w hv).mono ?_
    rintro e w' ⟨N, rfl, _, _, hb⟩
    exact ⟨_, rfl, hb⟩
  | _ =>
    obtain ⟨tp, p, hv⟩ := he.s
    refine (Tryd.strconv_Atoi_syntax_var s (by omega) h tp p w hv).mono ?_
    rintro e w' ⟨N, rfl, _, _, hb⟩
    exact ⟨_, rfl, hb⟩
/-- All that reading looks at. -/
structure RTab (w : World) : Prop where
  o : OTab w
  p : Tab w
  xl : ∃ m, w.cell? ⟨1, 0, none⟩ = some (.int .i64 m)
  e : Errs w
theorem RTab.below {w w' : World} (h : RTab w) (hb : Below w.heap.size w w') : RTab w' := by
  obtain ⟨m, hm⟩ := h.xl
  exact ⟨h.o.below hb, tab_below h.p hb, ⟨m, by rw [hb.cell (p := ⟨_, 0, none⟩) (World.block_lt_of_cell? w _ hm)]; exact hm⟩, h.e.below hb⟩
theorem pcut (s : ByteArray) (w : World) (hs : s.size ≤ 1000) (hr : RTab w) :
    Calls Tryd.prog 30 #[.string s, .string ⟨#[32]⟩] w fun e w' => e = .returned (.tuple #[.string (ba (cutB s.data.toList).1), .string (ba (cutB s.data.toList).2.1), .bool (cutB s.data.toList).2.2]) ∧ Below w.heap.size w w' := by
  obtain ⟨m, hm⟩ := hr.xl
  refine (Tryd.strings_Cut s ⟨#[32]⟩ m w (by omega) hm).mono ?_
  rintro e w' ⟨rfl, n, rfl⟩
  exact ⟨rfl, bel_drew (Below.refl _ _) n⟩
theorem ba_list (l : List UInt8) : (ba l).data.toList = l := by simp [ba]
theorem ba_size (l : List UInt8) : (ba l).size = l.length := by show l.toArray.size = _; simp

set_option maxHeartbeats 1000000 in
theorem pnumber (l : List UInt8) (w : World) (hs : l.length ≤ 1000) (hr : RTab w) :
    Calls Tryd.prog 29 #[.string (ba l)] w fun e w' => e = .returned (.tuple #[.int .i64 (numB l).1, .string (ba (numB l).2)]) ∧ Below w.heap.size w w' := by
  have HC : Hid (Calls Tryd.prog 30 #[.string (ba l), .string ⟨#[32]⟩] w fun e w' => e = .returned (.tuple #[.string (ba (cutB l).1), .string (ba (cutB l).2.1), .bool (cutB l).2.2]) ∧ Below w.heap.size w w') := by
    have h := pcut (ba l) w (by rw [ba_size]; omega) hr
    rw [ba_list] at h
    exact h
  have hsz := (cut_size l).1
  have HA : Hid (∀ W, Below w.heap.size w W → Calls Tryd.prog 39 #[.string (ba (cutB l).1)] W fun e w' => ∃ x, e = .returned (.tuple #[.int .i64 (atoiV (cutB l).1), x]) ∧ Below W.heap.size W w') := fun W hW => by
    have h := atoi_any (ba (cutB l).1) W (by rw [ba_size]; omega) (hr.below hW).e
    rw [ba_list] at h
    exact h
  unfold numB
  clear hr hs hsz
  generalize (cutB l).2.2 = f at *
  generalize (cutB l).2.1 = r at *
  generalize atoiV (cutB l).1 = n at *
  generalize ba (cutB l).1 = D at *
  generalize ba l = S at *
  generalize ba r = T at *
  go_enter Tryd.func29, Tryd.ntmps29
  go_wp2_with fail
  refine HC.out.mono ?_
  rintro e W1 ⟨rfl, hb1⟩
  have HB1 : Hid (Below w.heap.size w W1) := hb1
  clear hb1 HC
  go_wp2_with fail
  refine (HA.out _ HB1.out).mono ?_
  rintro e W2 ⟨x, rfl, hb2⟩
  have HB2 : Hid (Below w.heap.size w W2) := bel_step HB1.out hb2
  clear hb2 HA HB1
  go_wp2_with fail
  go_ret2
  exact ⟨rfl, HB2.out⟩

theorem step_true (l : List UInt8) : stepN true l = numB l := rfl
theorem step_false (l : List UInt8) : stepN false l = (0, l) := rfl
theorem step_size (h : Bool) (l : List UInt8) : (stepN h l).2.length ≤ l.length := by
  cases h
  · exact Nat.le_refl _
  · exact (cut_size l).2
theorem kindL_range (l : List UInt8) : 0 ≤ kindL l ∧ kindL l ≤ 7 := by unfold kindL; repeat' split <;> (try omega)
theorem pprefix (l : List UInt8) (w : World) : Calls Tryd.prog 28 #[.string (ba l), .string ⟨#[99, 117, 116, 32]⟩] w fun e w' => e = .returned (.tuple #[.string (ba (Lib.trimPrefix l [99, 117, 116, 32])), .bool (Lib.hasPrefix l [99, 117, 116, 32])]) ∧ w' = w := by
  have h := Tryd.strings_CutPrefix (ba l) ⟨#[99, 117, 116, 32]⟩ w
  rw [ba_list] at h
  exact h
theorem trim_size (l p : List UInt8) : (Lib.trimPrefix l p).length ≤ l.length := by unfold Lib.trimPrefix; split <;> simp

def zx (h : Bool) (l : List UInt8) : ByteArray := if h = true then ba l else ⟨#[]⟩
def lnN (l0 l1 l2 l3 l4 : List UInt8) : Nat → List UInt8
  | 0 => l0
  | 1 => l1
  | 2 => l2
  | 3 => l3
  | _ => l4
def nnN (n0 n1 n2 n3 : Int) : Nat → Array Value
  | 0 => #[.int .i64 0, .int .i64 0, .int .i64 0, .int .i64 0]
  | 1 => #[.int .i64 n0, .int .i64 0, .int .i64 0, .int .i64 0]
  | 2 => #[.int .i64 n0, .int .i64 n1, .int .i64 0, .int .i64 0]
  | 3 => #[.int .i64 n0, .int .i64 n1, .int .i64 n2, .int .i64 0]
  | _ => #[.int .i64 n0, .int .i64 n1, .int .i64 n2, .int .i64 n3]
set_option maxHeartbeats 8000000 in
theorem pguess (l : List UInt8) (w : World) (hs : l.length ≤ 120) (hr : RTab w) :
    Calls Tryd.prog 20 #[.string (ba l)] w fun e w' => e = .returned (guess l).v ∧ Below w.heap.size w w' := by
  have HNU : Hid (∀ (l : List UInt8) W, l.length ≤ 120 → Below w.heap.size w W → Calls Tryd.prog 29 #[.string (ba l)] W fun e w' => e = .returned (.tuple #[.int .i64 (numB l).1, .string (ba (numB l).2)]) ∧ Below W.heap.size W w') := fun l W h hW => pnumber l W (by omega) (hr.below hW)
  have HCU : Hid (∀ (l : List UInt8) W, l.length ≤ 120 → Below w.heap.size w W → Calls Tryd.prog 30 #[.string (ba l), .string ⟨#[32]⟩] W fun e w' => e = .returned (.tuple #[.string (ba (cutB l).1), .string (ba (cutB l).2.1), .bool (cutB l).2.2]) ∧ Below W.heap.size W w') := fun l W h hW => by
    have h := pcut (ba l) W (by rw [ba_size]; omega) (hr.below hW)
    rw [ba_list] at h
    exact h
  have HKI : Hid (∀ (l : List UInt8) W, Below w.heap.size w W → Calls Tryd.prog 31 #[.string (ba l)] W fun e w' => e = .returned (.int .i64 (kindL l)) ∧ w' = W) := fun l W hW => by
    have h := pkind (ba l) W (hr.below hW).o
    rw [ba_list] at h
    exact h
  have HFM : Hid (∀ W (k : Int), 0 ≤ k → k ≤ 7 → Below w.heap.size w W → W.rangeAt 0 (k.toNat * 6) [.string (ba (wd k)), .bool (hM k), .bool (hA k), .bool (hB k), .bool (hC k), .bool (hT k)]) := fun W k h0 h7 hW => by
    have h := form_at (hr.below hW).o h0 h7
    unfold fcells at h
    rw [Nat.mul_comm] at h
    exact h
  have HPX : Hid (∀ W, Calls Tryd.prog 28 #[.string (ba l), .string ⟨#[99, 117, 116, 32]⟩] W fun e w' => e = .returned (.tuple #[.string (ba (Lib.trimPrefix l [99, 117, 116, 32])), .bool (Lib.hasPrefix l [99, 117, 116, 32])]) ∧ w' = W) := pprefix l
  have HZ0 : Hid (Blk ((w.alloc (.cells #[.int .i64 0, .int .i64 0, .int .i64 0, .int .i64 0, .int .i64 0, .string ⟨#[]⟩, .int .i64 0] 23)).alloc (.cells #[.int .i64 0, .int .i64 0, .int .i64 0, .int .i64 0, .int .i64 0, .string ⟨#[]⟩, .int .i64 (-1)] 23)) w.heap.size #[.int .i64 0, .int .i64 0, .int .i64 0, .int .i64 0, .int .i64 0, .string ⟨#[]⟩, .int .i64 0] 23) := (Blk.new _ _ _).alloc _
  have HX0 : Hid (Blk ((w.alloc (.cells #[.int .i64 0, .int .i64 0, .int .i64 0, .int .i64 0, .int .i64 0, .string ⟨#[]⟩, .int .i64 0] 23)).alloc (.cells #[.int .i64 0, .int .i64 0, .int .i64 0, .int .i64 0, .int .i64 0, .string ⟨#[]⟩, .int .i64 (-1)] 23)) (w.heap.size + 1) #[.int .i64 0, .int .i64 0, .int .i64 0, .int .i64 0, .int .i64 0, .string ⟨#[]⟩, .int .i64 (-1)] 23) := Blk.new1 _ _ _ _
  have HB0 : Hid (Below w.heap.size w ((w.alloc (.cells #[.int .i64 0, .int .i64 0, .int .i64 0, .int .i64 0, .int .i64 0, .string ⟨#[]⟩, .int .i64 0] 23)).alloc (.cells #[.int .i64 0, .int .i64 0, .int .i64 0, .int .i64 0, .int .i64 0, .string ⟨#[]⟩, .int .i64 (-1)] 23))) := ((Below.refl _ _).alloc (Nat.le_refl _) _).alloc (by simp) _
  have hs0 : w.heap.size + 2 ≤ (((w.alloc (.cells #[.int .i64 0, .int .i64 0, .int .i64 0, .int .i64 0, .int .i64 0, .string ⟨#[]⟩, .int .i64 0] 23)).alloc (.cells #[.int .i64 0, .int .i64 0, .int .i64 0, .int .i64 0, .int .i64 0, .string ⟨#[]⟩, .int .i64 (-1)] 23))).heap.size := by simp
  clear hr
  have htz := trim_size l [99, 117, 116, 32]
  obtain ⟨R, hR⟩ : ∃ R, guess l = R := ⟨_, rfl⟩
  rw [hR]
  have HG1 : Lib.hasPrefix l [99, 117, 116, 32] = false → R = gBody (-1) l := fun h => by rw [← hR]; unfold guess gHead; rw [h]; rfl
  have HG2 : Lib.hasPrefix l [99, 117, 116, 32] = true → R = gBody (numB (Lib.trimPrefix l [99, 117, 116, 32])).1 (numB (Lib.trimPrefix l [99, 117, 116, 32])).2 := fun h => by rw [← hR]; unfold guess gHead; rw [h]; rfl
  clear hR
  go_enter Tryd.func20, Tryd.ntmps20
  go_wp2_with fail
  refine (HPX.out _).mono ?_
  rintro e W1 ⟨rfl, rfl⟩
  clear HPX
  generalize ((w.alloc (.cells #[.int .i64 0, .int .i64 0, .int .i64 0, .int .i64 0, .int .i64 0, .string ⟨#[]⟩, .int .i64 0] 23)).alloc (.cells #[.int .i64 0, .int .i64 0, .int .i64 0, .int .i64 0, .int .i64 0, .string ⟨#[]⟩, .int .i64 (-1)] 23)) = W0 at *
  generalize Lib.trimPrefix l [99, 117, 116, 32] = r0 at *
  cases hpre : Lib.hasPrefix l [99, 117, 116, 32] with
  | false =>
    have hG := HG1 hpre
    clear HG1 HG2
    have hS : l.length ≤ 120 := hs
    have HZ : Hid (Blk W0 w.heap.size #[.int .i64 0, .int .i64 0, .int .i64 0, .int .i64 0, .int .i64 0, .string ⟨#[]⟩, .int .i64 0] 23) := HZ0.out
    have HX : Hid (Blk W0 (w.heap.size + 1) #[.int .i64 0, .int .i64 0, .int .i64 0, .int .i64 0, .int .i64 0, .string ⟨#[]⟩, .int .i64 (-1)] 23) := HX0.out
    have HB : Hid (Below w.heap.size w W0) := HB0.out
    have hsz := hs0
    clear HZ0 HX0 HB0 hs0 hpre htz hs
    go_upto_region 5 with fail
    have HCW := HCU.out l W0 hS HB.out
    have hcs := cut_size l
    obtain ⟨wo, hwo⟩ : ∃ x, (cutB l).1 = x := ⟨_, rfl⟩
    obtain ⟨l0, hl0⟩ : ∃ x, (cutB l).2.1 = x := ⟨_, rfl⟩
    obtain ⟨k, hk⟩ : ∃ x, kindL wo = x := ⟨_, rfl⟩
    have HGB : gBody (-1) l = ⟨k, (stepN (hM k) l0).1, (stepN (hA k) (stepN (hM k) l0).2).1, (stepN (hB k) (stepN (hA k) (stepN (hM k) l0).2).2).1, (stepN (hC k) (stepN (hB k) (stepN (hA k) (stepN (hM k) l0).2).2).2).1, if hT k = true then ⟨(stepN (hC k) (stepN (hB k) (stepN (hA k) (stepN (hM k) l0).2).2).2).2.toArray⟩ else ByteArray.empty, (-1)⟩ := by
      unfold gBody; rw [hwo, hl0, hk]
    have hkr := kindL_range wo
    rw [hwo, hl0] at HCW
    rw [hl0] at hcs
    rw [hk] at hkr
    have HKW : Hid (∀ W, Below w.heap.size w W → Calls Tryd.prog 31 #[.string (ba wo)] W fun e w' => e = .returned (.int .i64 k) ∧ w' = W) := fun W hW => by have h := HKI.out wo W hW; rw [hk] at h; exact h
    have HFW : Hid (∀ W, Below w.heap.size w W → W.rangeAt 0 (k.toNat * 6) [.string (ba (wd k)), .bool (hM k), .bool (hA k), .bool (hB k), .bool (hC k), .bool (hT k)]) := fun W hW => HFM.out W k hkr.1 hkr.2 hW
    rw [HGB] at hG
    clear HGB hwo hl0 hk HKI HFM HCU
    obtain ⟨hk0, hk7⟩ := hkr
    obtain ⟨hcs1, hcs2⟩ := hcs
    generalize ba (wd k) = fs at *
    generalize hM k = hm at *
    generalize hA k = ha at *
    generalize hB k = hb at *
    generalize hC k = hc at *
    generalize hT k = ht at *
    have z1 := step_size hm l0
    obtain ⟨n0, hn0⟩ : ∃ x, (stepN hm l0).1 = x := ⟨_, rfl⟩
    obtain ⟨l1, hl1⟩ : ∃ x, (stepN hm l0).2 = x := ⟨_, rfl⟩
    rw [hl1] at z1
    have z2 := step_size ha l1
    obtain ⟨n1, hn1⟩ : ∃ x, (stepN ha l1).1 = x := ⟨_, rfl⟩
    obtain ⟨l2, hl2⟩ : ∃ x, (stepN ha l1).2 = x := ⟨_, rfl⟩
    rw [hl2] at z2
    have z3 := step_size hb l2
    obtain ⟨n2, hn2⟩ : ∃ x, (stepN hb l2).1 = x := ⟨_, rfl⟩
    obtain ⟨l3, hl3⟩ : ∃ x, (stepN hb l2).2 = x := ⟨_, rfl⟩
    rw [hl3] at z3
    obtain ⟨n3, hn3⟩ : ∃ x, (stepN hc l3).1 = x := ⟨_, rfl⟩
    obtain ⟨l4, hl4⟩ : ∃ x, (stepN hc l3).2 = x := ⟨_, rfl⟩
    rw [hl1, hl2, hl3, hl4, hn0, hn1, hn2, hn3] at hG
    have HS0 : Hid ((hm = true → ∀ W, Below w.heap.size w W → Calls Tryd.prog 29 #[.string (ba l0)] W fun e w' => e = .returned (.tuple #[.int .i64 n0, .string (ba l1)]) ∧ Below W.heap.size W w') ∧ (hm = false → n0 = 0 ∧ l1 = l0)) := ⟨fun e W hW => by
      subst e
      have h := HNU.out l0 W (by omega) hW
      rw [← step_true, hn0, hl1] at h
      exact h, fun e => by subst e; exact ⟨hn0.symm, hl1.symm⟩⟩
    have HS1 : Hid ((ha = true → ∀ W, Below w.heap.size w W → Calls Tryd.prog 29 #[.string (ba l1)] W fun e w' => e = .returned (.tuple #[.int .i64 n1, .string (ba l2)]) ∧ Below W.heap.size W w') ∧ (ha = false → n1 = 0 ∧ l2 = l1)) := ⟨fun e W hW => by
      subst e
      have h := HNU.out l1 W (by omega) hW
      rw [← step_true, hn1, hl2] at h
      exact h, fun e => by subst e; exact ⟨hn1.symm, hl2.symm⟩⟩
    have HS2 : Hid ((hb = true → ∀ W, Below w.heap.size w W → Calls Tryd.prog 29 #[.string (ba l2)] W fun e w' => e = .returned (.tuple #[.int .i64 n2, .string (ba l3)]) ∧ Below W.heap.size W w') ∧ (hb = false → n2 = 0 ∧ l3 = l2)) := ⟨fun e W hW => by
      subst e
      have h := HNU.out l2 W (by omega) hW
      rw [← step_true, hn2, hl3] at h
      exact h, fun e => by subst e; exact ⟨hn2.symm, hl3.symm⟩⟩
    have HS3 : Hid ((hc = true → ∀ W, Below w.heap.size w W → Calls Tryd.prog 29 #[.string (ba l3)] W fun e w' => e = .returned (.tuple #[.int .i64 n3, .string (ba l4)]) ∧ Below W.heap.size W w') ∧ (hc = false → n3 = 0 ∧ l4 = l3)) := ⟨fun e W hW => by
      subst e
      have h := HNU.out l3 W (by omega) hW
      rw [← step_true, hn3, hl4] at h
      exact h, fun e => by subst e; exact ⟨hn3.symm, hl4.symm⟩⟩
    have HRE : Hid (R = ⟨k, n0, n1, n2, n3, zx ht l4, (-1)⟩) := hG
    have HWN : Hid (∀ W, Calls Tryd.prog 24 #[.agg #[.int .i64 k, .int .i64 0, .int .i64 0, .int .i64 0, .int .i64 0, .string (zx ht l4), .int .i64 (-1)], .agg #[.int .i64 n0, .int .i64 n1, .int .i64 n2, .int .i64 n3]] W fun e w' => e = .returned (⟨k, n0, n1, n2, n3, zx ht l4, (-1)⟩ : Ac).v ∧ Below W.heap.size W w') := fun W => pwithNumbers ⟨k, 0, 0, 0, 0, zx ht l4, (-1)⟩ n0 n1 n2 n3 W
    have HNN : Hid (∀ W, Calls Tryd.prog 23 #[.agg #[.int .i64 k, .int .i64 0, .int .i64 0, .int .i64 0, .int .i64 0, .string ⟨#[]⟩, .int .i64 (-1)]] W fun e w' => e = .returned (.agg #[.int .i64 0, .int .i64 0, .int .i64 0, .int .i64 0]) ∧ Below W.heap.size W w') := fun W => pnumbers ⟨k, 0, 0, 0, 0, ⟨#[]⟩, (-1)⟩ W
    clear hG hn0 hn1 hn2 hn3 hl1 hl2 hl3 hl4 z1 z2 z3 HNU hcs1 hcs2 hS
    unfold Ac.v Ac.cells at HWN
    simp only at HWN
    have HCWh : Hid (Calls Tryd.prog 30 #[.string (ba l), .string ⟨#[32]⟩] W0 fun e w' => e = .returned (.tuple #[.string (ba wo), .string (ba l0), .bool (cutB l).2.2]) ∧ Below (W0).heap.size W0 w') := HCW
    clear HCW
    go_wp2_with fail
    refine HCWh.out.mono ?_
    rintro e W2 ⟨rfl, hb2⟩
    have HZ2 : Hid (Blk W2 w.heap.size #[.int .i64 0, .int .i64 0, .int .i64 0, .int .i64 0, .int .i64 0, .string ⟨#[]⟩, .int .i64 0] 23) := HZ.out.next hb2
    have HX2 : Hid (Blk W2 (w.heap.size + 1) #[.int .i64 0, .int .i64 0, .int .i64 0, .int .i64 0, .int .i64 0, .string ⟨#[]⟩, .int .i64 (-1)] 23) := HX.out.next hb2
    have HB2 : Hid (Below w.heap.size w W2) := bel_step HB.out hb2
    have hs2 : w.heap.size + 2 ≤ W2.heap.size := Nat.le_trans hsz hb2.size
    clear HZ HX HB hsz hb2 HCWh
    go_wp2_with fail
    refine (HKW.out _ HB2.out).mono ?_
    rintro e W3 ⟨rfl, rfl⟩
    have x0 : W3.cell? ⟨w.heap.size + 1, 0, none⟩ = some (.int .i64 0) := HX2.out.cell 0
    have f0 : W3.frozen? ⟨w.heap.size + 1, 0, none⟩ = false := HX2.out.free 0
    have HX3 : Hid (Blk (W3.setCell ⟨w.heap.size + 1, 0, none⟩ (.int .i64 k)) (w.heap.size + 1) #[.int .i64 k, .int .i64 0, .int .i64 0, .int .i64 0, .int .i64 0, .string ⟨#[]⟩, .int .i64 (-1)] 23) := HX2.out.set 0 _
    have HZ3 : Hid (Blk (W3.setCell ⟨w.heap.size + 1, 0, none⟩ (.int .i64 k)) w.heap.size #[.int .i64 0, .int .i64 0, .int .i64 0, .int .i64 0, .int .i64 0, .string ⟨#[]⟩, .int .i64 0] 23) := HZ2.out.other _ _ (by omega)
    have HB3 : Hid (Below w.heap.size w (W3.setCell ⟨w.heap.size + 1, 0, none⟩ (.int .i64 k))) := bel_set HB2.out _ _ _ (by omega)
    have hs3 : w.heap.size + 2 ≤ (W3.setCell ⟨w.heap.size + 1, 0, none⟩ (.int .i64 k)).heap.size := by simp [World.setCell]; omega
    clear HX2 HZ2 HB2 hs2 HKW
    go_upto_region 7 with fail
    clear x0 f0
    generalize W3.setCell ⟨w.heap.size + 1, 0, none⟩ (.int .i64 k) = W4 at *
    have x0 : W4.cell? ⟨w.heap.size + 1, 0, none⟩ = some (.int .i64 k) := HX3.out.cell 0
    have HFR := HFW.out W4 HB3.out
    have HFRh : Hid (W4.rangeAt 0 (k.toNat * 6) [.string fs, .bool hm, .bool ha, .bool hb, .bool hc, .bool ht]) := HFR
    have HF5 : Hid (Blk (W4.alloc (.cells #[.string fs, .bool hm, .bool ha, .bool hb, .bool hc, .bool ht] 34)) W4.heap.size #[.string fs, .bool hm, .bool ha, .bool hb, .bool hc, .bool ht] 34) := Blk.new _ _ _
    have HX5 : Hid (Blk (W4.alloc (.cells #[.string fs, .bool hm, .bool ha, .bool hb, .bool hc, .bool ht] 34)) (w.heap.size + 1) #[.int .i64 k, .int .i64 0, .int .i64 0, .int .i64 0, .int .i64 0, .string ⟨#[]⟩, .int .i64 (-1)] 23) := HX3.out.alloc _
    have HZ5 : Hid (Blk (W4.alloc (.cells #[.string fs, .bool hm, .bool ha, .bool hb, .bool hc, .bool ht] 34)) w.heap.size #[.int .i64 0, .int .i64 0, .int .i64 0, .int .i64 0, .int .i64 0, .string ⟨#[]⟩, .int .i64 0] 23) := HZ3.out.alloc _
    have HB5 : Hid (Below w.heap.size w (W4.alloc (.cells #[.string fs, .bool hm, .bool ha, .bool hb, .bool hc, .bool ht] 34))) := HB3.out.alloc HB3.out.size _
    have hs5 : W4.heap.size < (W4.alloc (.cells #[.string fs, .bool hm, .bool ha, .bool hb, .bool hc, .bool ht] 34)).heap.size := by simp
    clear HFR HFW HX3 HZ3 HB3
    go_upto_region 8 with (first | (refine wpList_load_mid rfl 34 _ rfl 0 (k.toNat * 6) rfl [.string fs, .bool hm, .bool ha, .bool hb, .bool hc, .bool ht] _ HFRh.out Tryd.underlying34 rfl (by kernel_rfl) ?_) | fail)
    clear x0 HFRh
    generalize W4.alloc (.cells #[.string fs, .bool hm, .bool ha, .bool hb, .bool hc, .bool ht] 34) = W5 at *
    generalize W4.heap.size = g at *
    go_wp2_with (first | (refine wp_whole rfl 23 _ rfl (w.heap.size + 1) rfl 23 _ _ HX5.out Tryd.underlying23 rfl (by kernel_rfl) ?_) | fail)
    refine (HNN.out _).mono ?_
    rintro e W6 ⟨rfl, hb6⟩
    have HF7 : Hid (Blk (W6.alloc (.cells #[.int .i64 0, .int .i64 0, .int .i64 0, .int .i64 0] 51)) g #[.string fs, .bool hm, .bool ha, .bool hb, .bool hc, .bool ht] 34) := (HF5.out.next hb6).alloc _
    have HX7 : Hid (Blk (W6.alloc (.cells #[.int .i64 0, .int .i64 0, .int .i64 0, .int .i64 0] 51)) (w.heap.size + 1) #[.int .i64 k, .int .i64 0, .int .i64 0, .int .i64 0, .int .i64 0, .string ⟨#[]⟩, .int .i64 (-1)] 23) := (HX5.out.next hb6).alloc _
    have HZ7 : Hid (Blk (W6.alloc (.cells #[.int .i64 0, .int .i64 0, .int .i64 0, .int .i64 0] 51)) w.heap.size #[.int .i64 0, .int .i64 0, .int .i64 0, .int .i64 0, .int .i64 0, .string ⟨#[]⟩, .int .i64 0] 23) := (HZ5.out.next hb6).alloc _
    have HA7 : Hid (Blk (W6.alloc (.cells #[.int .i64 0, .int .i64 0, .int .i64 0, .int .i64 0] 51)) W6.heap.size #[.int .i64 0, .int .i64 0, .int .i64 0, .int .i64 0] 51) := Blk.new _ _ _
    have HB7 : Hid (Below w.heap.size w (W6.alloc (.cells #[.int .i64 0, .int .i64 0, .int .i64 0, .int .i64 0] 51))) := (bel_step HB5.out hb6).alloc (bel_step HB5.out hb6).size _
    have hs7 : g < W6.heap.size := Nat.lt_of_lt_of_le hs5 hb6.size
    have hs8 : W6.heap.size < (W6.alloc (.cells #[.int .i64 0, .int .i64 0, .int .i64 0, .int .i64 0] 51)).heap.size := by simp
    clear HF5 HX5 HZ5 HB5 hs5 hb6 HNN
    go_upto_region 9 with fail
    generalize W6.alloc (.cells #[.int .i64 0, .int .i64 0, .int .i64 0, .int .i64 0] 51) = W7 at *
    generalize W6.heap.size = ga at *
    have q1 : W7.cell? ⟨g, 1, none⟩ = some (.bool hm) := HF7.out.cell 1
    have q2 : W7.cell? ⟨g, 2, none⟩ = some (.bool ha) := HF7.out.cell 2
    have q3 : W7.cell? ⟨g, 3, none⟩ = some (.bool hb) := HF7.out.cell 3
    have q4 : W7.cell? ⟨g, 4, none⟩ = some (.bool hc) := HF7.out.cell 4
    go_wp2_with fail
    clear q1 q2 q3 q4
    go_loopw [0, 42] (fun v0 v42 wr => ∃ (i : Nat), i ≤ 4 ∧ v42 = .int .i64 (i : Int) ∧ v0 = .string (ba (lnN l0 l1 l2 l3 l4 i)) ∧ Blk wr ga (nnN n0 n1 n2 n3 i) 51 ∧ Blk wr g #[.string fs, .bool hm, .bool ha, .bool hb, .bool hc, .bool ht] 34 ∧ Blk wr (w.heap.size + 1) #[.int .i64 k, .int .i64 0, .int .i64 0, .int .i64 0, .int .i64 0, .string ⟨#[]⟩, .int .i64 (-1)] 23 ∧ Blk wr w.heap.size #[.int .i64 0, .int .i64 0, .int .i64 0, .int .i64 0, .int .i64 0, .string ⟨#[]⟩, .int .i64 0] 23 ∧ Below w.heap.size w wr ∧ ga < wr.heap.size) (fun _ v _ => 4 - (intOf v).toNat)
    case atStart => exact ⟨0, by decide, rfl, rfl, HA7.out, HF7.out, HX7.out, HZ7.out, HB7.out, hs8⟩
    case round =>
      obtain ⟨i, hi, rfl, rfl, hab, hfb, hxb, hzb, hbl, hgs⟩ := hrel
      have HAi : Hid (Blk wr ga (nnN n0 n1 n2 n3 i) 51) := hab
      have HF : Hid (Blk wr g #[.string fs, .bool hm, .bool ha, .bool hb, .bool hc, .bool ht] 34) := hfb
      have HXi : Hid (Blk wr (w.heap.size + 1) #[.int .i64 k, .int .i64 0, .int .i64 0, .int .i64 0, .int .i64 0, .string ⟨#[]⟩, .int .i64 (-1)] 23) := hxb
      have HZi : Hid (Blk wr w.heap.size #[.int .i64 0, .int .i64 0, .int .i64 0, .int .i64 0, .int .i64 0, .string ⟨#[]⟩, .int .i64 0] 23) := hzb
      have HBi : Hid (Below w.heap.size w wr) := hbl
      clear hab hfb hxb hzb hbl HA7 HF7 HX7 HZ7 HB7 hs8
      have hi5 : i = 0 ∨ i = 1 ∨ i = 2 ∨ i = 3 ∨ i = 4 := by omega
      rcases hi5 with rfl | rfl | rfl | rfl | rfl
      · have x0 : ∀ W : World, (Instr.index 32 (.agg #[.bool hm, .bool ha, .bool hb, .bool hc]) (.int .i64 0)).run Tryd.prog W = .ok (.bool hm) W := fun W => by kernel_rfl
        cases hm with
        | true =>
          have HST := HS0.out.1 rfl wr HBi.out
          have HSTh : Hid (Calls Tryd.prog 29 #[.string (ba l0)] wr fun e w' => e = .returned (.tuple #[.int .i64 n0, .string (ba l1)]) ∧ Below wr.heap.size wr w') := HST
          clear HST
          have hln : Value.string (ba (lnN l0 l1 l2 l3 l4 0)) = .string (ba l0) := rfl
          rw [hln]
          clear hln
          go_wp2_with fail
          refine HSTh.out.mono ?_
          rintro e W8 ⟨rfl, hb8⟩
          have HA8 : Hid (Blk W8 ga (nnN n0 n1 n2 n3 0) 51) := HAi.out.next hb8
          have cz : W8.cell? ⟨ga, 0, none⟩ = some (.int .i64 0) := HA8.out.cell 0
          have fz : W8.frozen? ⟨ga, 0, none⟩ = false := HA8.out.free 0
          have HA9 : Hid (Blk (W8.setCell ⟨ga, 0, none⟩ (.int .i64 n0)) ga (nnN n0 n1 n2 n3 1) 51) := HA8.out.set 0 _
          have HF9 : Hid (Blk (W8.setCell ⟨ga, 0, none⟩ (.int .i64 n0)) g #[.string fs, .bool true, .bool ha, .bool hb, .bool hc, .bool ht] 34) := (HF.out.next hb8).other _ _ (by omega)
          have HX9 : Hid (Blk (W8.setCell ⟨ga, 0, none⟩ (.int .i64 n0)) (w.heap.size + 1) #[.int .i64 k, .int .i64 0, .int .i64 0, .int .i64 0, .int .i64 0, .string ⟨#[]⟩, .int .i64 (-1)] 23) := (HXi.out.next hb8).other _ _ (by omega)
          have HZ9 : Hid (Blk (W8.setCell ⟨ga, 0, none⟩ (.int .i64 n0)) w.heap.size #[.int .i64 0, .int .i64 0, .int .i64 0, .int .i64 0, .int .i64 0, .string ⟨#[]⟩, .int .i64 0] 23) := (HZi.out.next hb8).other _ _ (by omega)
          have HB9 : Hid (Below w.heap.size w (W8.setCell ⟨ga, 0, none⟩ (.int .i64 n0))) := bel_set (bel_step HBi.out hb8) _ _ _ (by omega)
          have hs9 : ga < (W8.setCell ⟨ga, 0, none⟩ (.int .i64 n0)).heap.size := by have := hb8.size; simp [World.setCell]; omega
          clear HAi HF HXi HZi HBi HA8 hb8 HSTh
          go_wp2_with fail
          go_roundw
          case rel => exact ⟨1, by decide, rfl, rfl, HA9.out, HF9.out, HX9.out, HZ9.out, HB9.out, hs9⟩
          case measure => decide
        | false =>
          have HE0 : Hid (nnN n0 n1 n2 n3 0 = nnN n0 n1 n2 n3 1 ∧ lnN l0 l1 l2 l3 l4 1 = lnN l0 l1 l2 l3 l4 0) := by
            obtain ⟨e1, e2⟩ := HS0.out.2 rfl
            exact ⟨by rw [e1]; rfl, e2⟩
          go_wp2_with fail
          go_roundw
          case rel => exact ⟨1, by decide, rfl, by rw [HE0.out.2], by rw [← HE0.out.1]; exact HAi.out, HF.out, HXi.out, HZi.out, HBi.out, hgs⟩
          case measure => decide
      · have x0 : ∀ W : World, (Instr.index 32 (.agg #[.bool hm, .bool ha, .bool hb, .bool hc]) (.int .i64 1)).run Tryd.prog W = .ok (.bool ha) W := fun W => by kernel_rfl
        cases ha with
        | true =>
          have HST := HS1.out.1 rfl wr HBi.out
          have HSTh : Hid (Calls Tryd.prog 29 #[.string (ba l1)] wr fun e w' => e = .returned (.tuple #[.int .i64 n1, .string (ba l2)]) ∧ Below wr.heap.size wr w') := HST
          clear HST
          have hln : Value.string (ba (lnN l0 l1 l2 l3 l4 1)) = .string (ba l1) := rfl
          rw [hln]
          clear hln
          go_wp2_with fail
          refine HSTh.out.mono ?_
          rintro e W8 ⟨rfl, hb8⟩
          have HA8 : Hid (Blk W8 ga (nnN n0 n1 n2 n3 1) 51) := HAi.out.next hb8
          have cz : W8.cell? ⟨ga, 1, none⟩ = some (.int .i64 0) := HA8.out.cell 1
          have fz : W8.frozen? ⟨ga, 1, none⟩ = false := HA8.out.free 1
          have HA9 : Hid (Blk (W8.setCell ⟨ga, 1, none⟩ (.int .i64 n1)) ga (nnN n0 n1 n2 n3 2) 51) := HA8.out.set 1 _
          have HF9 : Hid (Blk (W8.setCell ⟨ga, 1, none⟩ (.int .i64 n1)) g #[.string fs, .bool hm, .bool true, .bool hb, .bool hc, .bool ht] 34) := (HF.out.next hb8).other _ _ (by omega)
          have HX9 : Hid (Blk (W8.setCell ⟨ga, 1, none⟩ (.int .i64 n1)) (w.heap.size + 1) #[.int .i64 k, .int .i64 0, .int .i64 0, .int .i64 0, .int .i64 0, .string ⟨#[]⟩, .int .i64 (-1)] 23) := (HXi.out.next hb8).other _ _ (by omega)
          have HZ9 : Hid (Blk (W8.setCell ⟨ga, 1, none⟩ (.int .i64 n1)) w.heap.size #[.int .i64 0, .int .i64 0, .int .i64 0, .int .i64 0, .int .i64 0, .string ⟨#[]⟩, .int .i64 0] 23) := (HZi.out.next hb8).other _ _ (by omega)
          have HB9 : Hid (Below w.heap.size w (W8.setCell ⟨ga, 1, none⟩ (.int .i64 n1))) := bel_set (bel_step HBi.out hb8) _ _ _ (by omega)
          have hs9 : ga < (W8.setCell ⟨ga, 1, none⟩ (.int .i64 n1)).heap.size := by have := hb8.size; simp [World.setCell]; omega
          clear HAi HF HXi HZi HBi HA8 hb8 HSTh
          go_wp2_with fail
          go_roundw
          case rel => exact ⟨2, by decide, rfl, rfl, HA9.out, HF9.out, HX9.out, HZ9.out, HB9.out, hs9⟩
          case measure => decide
        | false =>
          have HE0 : Hid (nnN n0 n1 n2 n3 1 = nnN n0 n1 n2 n3 2 ∧ lnN l0 l1 l2 l3 l4 2 = lnN l0 l1 l2 l3 l4 1) := by
            obtain ⟨e1, e2⟩ := HS1.out.2 rfl
            exact ⟨by rw [e1]; rfl, e2⟩
          go_wp2_with fail
          go_roundw
          case rel => exact ⟨2, by decide, rfl, by rw [HE0.out.2], by rw [← HE0.out.1]; exact HAi.out, HF.out, HXi.out, HZi.out, HBi.out, hgs⟩
          case measure => decide
      · have x0 : ∀ W : World, (Instr.index 32 (.agg #[.bool hm, .bool ha, .bool hb, .bool hc]) (.int .i64 2)).run Tryd.prog W = .ok (.bool hb) W := fun W => by kernel_rfl
        cases hb with
        | true =>
          have HST := HS2.out.1 rfl wr HBi.out
          have HSTh : Hid (Calls Tryd.prog 29 #[.string (ba l2)] wr fun e w' => e = .returned (.tuple #[.int .i64 n2, .string (ba l3)]) ∧ Below wr.heap.size wr w') := HST
          clear HST
          have hln : Value.string (ba (lnN l0 l1 l2 l3 l4 2)) = .string (ba l2) := rfl
          rw [hln]
          clear hln
          go_wp2_with fail
          refine HSTh.out.mono ?_
          rintro e W8 ⟨rfl, hb8⟩
          have HA8 : Hid (Blk W8 ga (nnN n0 n1 n2 n3 2) 51) := HAi.out.next hb8
          have cz : W8.cell? ⟨ga, 2, none⟩ = some (.int .i64 0) := HA8.out.cell 2
          have fz : W8.frozen? ⟨ga, 2, none⟩ = false := HA8.out.free 2
          have HA9 : Hid (Blk (W8.setCell ⟨ga, 2, none⟩ (.int .i64 n2)) ga (nnN n0 n1 n2 n3 3) 51) := HA8.out.set 2 _
          have HF9 : Hid (Blk (W8.setCell ⟨ga, 2, none⟩ (.int .i64 n2)) g #[.string fs, .bool hm, .bool ha, .bool true, .bool hc, .bool ht] 34) := (HF.out.next hb8).other _ _ (by omega)
          have HX9 : Hid (Blk (W8.setCell ⟨ga, 2, none⟩ (.int .i64 n2)) (w.heap.size + 1) #[.int .i64 k, .int .i64 0, .int .i64 0, .int .i64 0, .int .i64 0, .string ⟨#[]⟩, .int .i64 (-1)] 23) := (HXi.out.next hb8).other _ _ (by omega)
          have HZ9 : Hid (Blk (W8.setCell ⟨ga, 2, none⟩ (.int .i64 n2)) w.heap.size #[.int .i64 0, .int .i64 0, .int .i64 0, .int .i64 0, .int .i64 0, .string ⟨#[]⟩, .int .i64 0] 23) := (HZi.out.next hb8).other _ _ (by omega)
          have HB9 : Hid (Below w.heap.size w (W8.setCell ⟨ga, 2, none⟩ (.int .i64 n2))) := bel_set (bel_step HBi.out hb8) _ _ _ (by omega)
          have hs9 : ga < (W8.setCell ⟨ga, 2, none⟩ (.int .i64 n2)).heap.size := by have := hb8.size; simp [World.setCell]; omega
          clear HAi HF HXi HZi HBi HA8 hb8 HSTh
          go_wp2_with fail
          go_roundw
          case rel => exact ⟨3, by decide, rfl, rfl, HA9.out, HF9.out, HX9.out, HZ9.out, HB9.out, hs9⟩
          case measure => decide
        | false =>
          have HE0 : Hid (nnN n0 n1 n2 n3 2 = nnN n0 n1 n2 n3 3 ∧ lnN l0 l1 l2 l3 l4 3 = lnN l0 l1 l2 l3 l4 2) := by
            obtain ⟨e1, e2⟩ := HS2.out.2 rfl
            exact ⟨by rw [e1]; rfl, e2⟩
          go_wp2_with fail
          go_roundw
          case rel => exact ⟨3, by decide, rfl, by rw [HE0.out.2], by rw [← HE0.out.1]; exact HAi.out, HF.out, HXi.out, HZi.out, HBi.out, hgs⟩
          case measure => decide
      · have x0 : ∀ W : World, (Instr.index 32 (.agg #[.bool hm, .bool ha, .bool hb, .bool hc]) (.int .i64 3)).run Tryd.prog W = .ok (.bool hc) W := fun W => by kernel_rfl
        cases hc with
        | true =>
          have HST := HS3.out.1 rfl wr HBi.out
          have HSTh : Hid (Calls Tryd.prog 29 #[.string (ba l3)] wr fun e w' => e = .returned (.tuple #[.int .i64 n3, .string (ba l4)]) ∧ Below wr.heap.size wr w') := HST
          clear HST
          have hln : Value.string (ba (lnN l0 l1 l2 l3 l4 3)) = .string (ba l3) := rfl
          rw [hln]
          clear hln
          go_wp2_with fail
          refine HSTh.out.mono ?_
          rintro e W8 ⟨rfl, hb8⟩
          have HA8 : Hid (Blk W8 ga (nnN n0 n1 n2 n3 3) 51) := HAi.out.next hb8
          have cz : W8.cell? ⟨ga, 3, none⟩ = some (.int .i64 0) := HA8.out.cell 3
          have fz : W8.frozen? ⟨ga, 3, none⟩ = false := HA8.out.free 3
          have HA9 : Hid (Blk (W8.setCell ⟨ga, 3, none⟩ (.int .i64 n3)) ga (nnN n0 n1 n2 n3 4) 51) := HA8.out.set 3 _
          have HF9 : Hid (Blk (W8.setCell ⟨ga, 3, none⟩ (.int .i64 n3)) g #[.string fs, .bool hm, .bool ha, .bool hb, .bool true, .bool ht] 34) := (HF.out.next hb8).other _ _ (by omega)
          have HX9 : Hid (Blk (W8.setCell ⟨ga, 3, none⟩ (.int .i64 n3)) (w.heap.size + 1) #[.int .i64 k, .int .i64 0, .int .i64 0, .int .i64 0, .int .i64 0, .string ⟨#[]⟩, .int .i64 (-1)] 23) := (HXi.out.next hb8).other _ _ (by omega)
          have HZ9 : Hid (Blk (W8.setCell ⟨ga, 3, none⟩ (.int .i64 n3)) w.heap.size #[.int .i64 0, .int .i64 0, .int .i64 0, .int .i64 0, .int .i64 0, .string ⟨#[]⟩, .int .i64 0] 23) := (HZi.out.next hb8).other _ _ (by omega)
          have HB9 : Hid (Below w.heap.size w (W8.setCell ⟨ga, 3, none⟩ (.int .i64 n3))) := bel_set (bel_step HBi.out hb8) _ _ _ (by omega)
          have hs9 : ga < (W8.setCell ⟨ga, 3, none⟩ (.int .i64 n3)).heap.size := by have := hb8.size; simp [World.setCell]; omega
          clear HAi HF HXi HZi HBi HA8 hb8 HSTh
          go_wp2_with fail
          go_roundw
          case rel => exact ⟨4, by decide, rfl, rfl, HA9.out, HF9.out, HX9.out, HZ9.out, HB9.out, hs9⟩
          case measure => decide
        | false =>
          have HE0 : Hid (nnN n0 n1 n2 n3 3 = nnN n0 n1 n2 n3 4 ∧ lnN l0 l1 l2 l3 l4 4 = lnN l0 l1 l2 l3 l4 3) := by
            obtain ⟨e1, e2⟩ := HS3.out.2 rfl
            exact ⟨by rw [e1]; rfl, e2⟩
          go_wp2_with fail
          go_roundw
          case rel => exact ⟨4, by decide, rfl, by rw [HE0.out.2], by rw [← HE0.out.1]; exact HAi.out, HF.out, HXi.out, HZi.out, HBi.out, hgs⟩
          case measure => decide
      · have cb : wr.cell? ⟨g, 5, none⟩ = some (.bool ht) := HF.out.cell 5
        have HA : Hid (Blk wr ga #[.int .i64 n0, .int .i64 n1, .int .i64 n2, .int .i64 n3] 51) := HAi.out
        have hln : Value.string (ba (lnN l0 l1 l2 l3 l4 4)) = .string (ba l4) := rfl
        rw [hln]
        clear HF HAi hln HS0 HS1 HS2 HS3
        cases ht with
        | true =>
          have HXw : Hid (Blk (wr.setCell ⟨w.heap.size + 1, 5, none⟩ (.string (ba l4))) (w.heap.size + 1) #[.int .i64 k, .int .i64 0, .int .i64 0, .int .i64 0, .int .i64 0, .string (ba l4), .int .i64 (-1)] 23) := HXi.out.set 5 _
          have HZw : Hid (Blk (wr.setCell ⟨w.heap.size + 1, 5, none⟩ (.string (ba l4))) w.heap.size #[.int .i64 0, .int .i64 0, .int .i64 0, .int .i64 0, .int .i64 0, .string ⟨#[]⟩, .int .i64 0] 23) := HZi.out.other _ _ (by omega)
          have HAw : Hid (Blk (wr.setCell ⟨w.heap.size + 1, 5, none⟩ (.string (ba l4))) ga #[.int .i64 n0, .int .i64 n1, .int .i64 n2, .int .i64 n3] 51) := HA.out.other _ _ (by omega)
          have HBw : Hid (Below w.heap.size w (wr.setCell ⟨w.heap.size + 1, 5, none⟩ (.string (ba l4)))) := bel_set HBi.out _ _ _ (by omega)
          have c5 : wr.cell? ⟨w.heap.size + 1, 5, none⟩ = some (.string ⟨#[]⟩) := HXi.out.cell 5
          have f5 : wr.frozen? ⟨w.heap.size + 1, 5, none⟩ = false := HXi.out.free 5
          clear HXi HZi HBi HA
          go_upto_region 17 with fail
          clear c5 f5
          generalize (wr.setCell ⟨w.heap.size + 1, 5, none⟩ (.string (ba l4))) = wt at *
          go_wp2_with (first | (refine wp_whole rfl 23 _ rfl (w.heap.size + 1) rfl 23 _ _ HXw.out Tryd.underlying23 rfl (by kernel_rfl) ?_) | (refine wp_whole rfl 51 _ rfl ga rfl 51 _ _ HAw.out Tryd.underlying51 rfl (by kernel_rfl) ?_) | fail)
          refine (HWN.out _).mono ?_
          rintro e W10 ⟨rfl, hb10⟩
          have HZ10 : Hid (Blk W10 w.heap.size #[.int .i64 0, .int .i64 0, .int .i64 0, .int .i64 0, .int .i64 0, .string ⟨#[]⟩, .int .i64 0] 23) := HZw.out.next hb10
          have HB10 : Hid (Below w.heap.size w W10) := bel_step HBw.out hb10
          clear HZw HBw hb10 HWN HXw HAw cb
          go_wp2_with (first | (refine wp_letAll rfl 23 _ _ rfl w.heap.size rfl #[.int .i64 k, .int .i64 n0, .int .i64 n1, .int .i64 n2, .int .i64 n3, .string (zx true l4), .int .i64 (-1)] rfl (by kernel_rfl) (by simp [Value.oneCell']) #[.int .i64 0, .int .i64 0, .int .i64 0, .int .i64 0, .int .i64 0, .string ⟨#[]⟩, .int .i64 0] 23 HZ10.out rfl ?_) | fail)
          intro WF hUF
          have HBF : Hid (Below w.heap.size w WF) := hUF.bel _ _ (Nat.le_refl _) HB10.out
          have R0 : Hid (WF.cell? ⟨w.heap.size, 0, none⟩ = some (.int .i64 k)) := hUF.blk.cell 0
          have R1 : Hid (WF.cell? ⟨w.heap.size, 1, none⟩ = some (.int .i64 n0)) := hUF.blk.cell 1
          have R2 : Hid (WF.cell? ⟨w.heap.size, 2, none⟩ = some (.int .i64 n1)) := hUF.blk.cell 2
          have R3 : Hid (WF.cell? ⟨w.heap.size, 3, none⟩ = some (.int .i64 n2)) := hUF.blk.cell 3
          have R4 : Hid (WF.cell? ⟨w.heap.size, 4, none⟩ = some (.int .i64 n3)) := hUF.blk.cell 4
          have R5 : Hid (WF.cell? ⟨w.heap.size, 5, none⟩ = some (.string (zx true l4))) := hUF.blk.cell 5
          have R6 : Hid (WF.cell? ⟨w.heap.size, 6, none⟩ = some (.int .i64 (-1))) := hUF.blk.cell 6
          clear hUF
          go_wp2_with fail
          exact bodyPost_ret (v := .agg #[.int .i64 k, .int .i64 n0, .int .i64 n1, .int .i64 n2, .int .i64 n3, .string (zx true l4), .int .i64 (-1)]) (by simp [results, Tryd.results20, R0.out, R1.out, R2.out, R3.out, R4.out, R5.out, R6.out, go_sem]) rfl ⟨by rw [HRE.out]; rfl, HBF.out⟩
        | false =>
          have HXw : Hid (Blk wr (w.heap.size + 1) #[.int .i64 k, .int .i64 0, .int .i64 0, .int .i64 0, .int .i64 0, .string ⟨#[]⟩, .int .i64 (-1)] 23) := HXi.out
          have HZw : Hid (Blk wr w.heap.size #[.int .i64 0, .int .i64 0, .int .i64 0, .int .i64 0, .int .i64 0, .string ⟨#[]⟩, .int .i64 0] 23) := HZi.out
          have HAw : Hid (Blk wr ga #[.int .i64 n0, .int .i64 n1, .int .i64 n2, .int .i64 n3] 51) := HA.out
          have HBw : Hid (Below w.heap.size w wr) := HBi.out
          clear HXi HZi HBi HA
          go_upto_region 17 with fail
          go_wp2_with (first | (refine wp_whole rfl 23 _ rfl (w.heap.size + 1) rfl 23 _ _ HXw.out Tryd.underlying23 rfl (by kernel_rfl) ?_) | (refine wp_whole rfl 51 _ rfl ga rfl 51 _ _ HAw.out Tryd.underlying51 rfl (by kernel_rfl) ?_) | fail)
          refine (HWN.out _).mono ?_
          rintro e W10 ⟨rfl, hb10⟩
          have HZ10 : Hid (Blk W10 w.heap.size #[.int .i64 0, .int .i64 0, .int .i64 0, .int .i64 0, .int .i64 0, .string ⟨#[]⟩, .int .i64 0] 23) := HZw.out.next hb10
          have HB10 : Hid (Below w.heap.size w W10) := bel_step HBw.out hb10
          clear HZw HBw hb10 HWN HXw HAw cb
          go_wp2_with (first | (refine wp_letAll rfl 23 _ _ rfl w.heap.size rfl #[.int .i64 k, .int .i64 n0, .int .i64 n1, .int .i64 n2, .int .i64 n3, .string (zx false l4), .int .i64 (-1)] rfl (by kernel_rfl) (by simp [Value.oneCell']) #[.int .i64 0, .int .i64 0, .int .i64 0, .int .i64 0, .int .i64 0, .string ⟨#[]⟩, .int .i64 0] 23 HZ10.out rfl ?_) | fail)
          intro WF hUF
          have HBF : Hid (Below w.heap.size w WF) := hUF.bel _ _ (Nat.le_refl _) HB10.out
          have R0 : Hid (WF.cell? ⟨w.heap.size, 0, none⟩ = some (.int .i64 k)) := hUF.blk.cell 0
          have R1 : Hid (WF.cell? ⟨w.heap.size, 1, none⟩ = some (.int .i64 n0)) := hUF.blk.cell 1
          have R2 : Hid (WF.cell? ⟨w.heap.size, 2, none⟩ = some (.int .i64 n1)) := hUF.blk.cell 2
          have R3 : Hid (WF.cell? ⟨w.heap.size, 3, none⟩ = some (.int .i64 n2)) := hUF.blk.cell 3
          have R4 : Hid (WF.cell? ⟨w.heap.size, 4, none⟩ = some (.int .i64 n3)) := hUF.blk.cell 4
          have R5 : Hid (WF.cell? ⟨w.heap.size, 5, none⟩ = some (.string (zx false l4))) := hUF.blk.cell 5
          have R6 : Hid (WF.cell? ⟨w.heap.size, 6, none⟩ = some (.int .i64 (-1))) := hUF.blk.cell 6
          clear hUF
          go_wp2_with fail
          exact bodyPost_ret (v := .agg #[.int .i64 k, .int .i64 n0, .int .i64 n1, .int .i64 n2, .int .i64 n3, .string (zx false l4), .int .i64 (-1)]) (by simp [results, Tryd.results20, R0.out, R1.out, R2.out, R3.out, R4.out, R5.out, R6.out, go_sem]) rfl ⟨by rw [HRE.out]; rfl, HBF.out⟩
  | true =>
    have hG := HG2 hpre
    clear HG1 HG2
    have HNW := HNU.out r0 W0 (by omega) HB0.out
    have hS : (numB r0).2.length ≤ 120 := by have := (cut_size r0).2; unfold numB; simp only; omega
    clear hpre htz hs
    generalize (numB r0).1 = C at *
    generalize (numB r0).2 = l' at *
    have HNWh : Hid (Calls Tryd.prog 29 #[.string (ba r0)] W0 fun e w' => e = .returned (.tuple #[.int .i64 C, .string (ba l')]) ∧ Below W0.heap.size W0 w') := HNW
    clear HNW
    go_wp2_with fail
    refine HNWh.out.mono ?_
    rintro e W1 ⟨rfl, hb1⟩
    have HX1 : Hid (Blk W1 (w.heap.size + 1) #[.int .i64 0, .int .i64 0, .int .i64 0, .int .i64 0, .int .i64 0, .string ⟨#[]⟩, .int .i64 (-1)] 23) := HX0.out.next hb1
    have HZ1 : Hid (Blk W1 w.heap.size #[.int .i64 0, .int .i64 0, .int .i64 0, .int .i64 0, .int .i64 0, .string ⟨#[]⟩, .int .i64 0] 23) := HZ0.out.next hb1
    have c6 : W1.cell? ⟨w.heap.size + 1, 6, none⟩ = some (.int .i64 (-1)) := HX1.out.cell 6
    have f6 : W1.frozen? ⟨w.heap.size + 1, 6, none⟩ = false := HX1.out.free 6
    have HX : Hid (Blk (W1.setCell ⟨w.heap.size + 1, 6, none⟩ (.int .i64 C)) (w.heap.size + 1) #[.int .i64 0, .int .i64 0, .int .i64 0, .int .i64 0, .int .i64 0, .string ⟨#[]⟩, .int .i64 C] 23) := HX1.out.set 6 _
    have HZ : Hid (Blk (W1.setCell ⟨w.heap.size + 1, 6, none⟩ (.int .i64 C)) w.heap.size #[.int .i64 0, .int .i64 0, .int .i64 0, .int .i64 0, .int .i64 0, .string ⟨#[]⟩, .int .i64 0] 23) := HZ1.out.other _ _ (by omega)
    have HB : Hid (Below w.heap.size w (W1.setCell ⟨w.heap.size + 1, 6, none⟩ (.int .i64 C))) := bel_set (bel_step HB0.out hb1) _ _ _ (by omega)
    have hsz : w.heap.size + 2 ≤ (W1.setCell ⟨w.heap.size + 1, 6, none⟩ (.int .i64 C)).heap.size := by have := hb1.size; simp [World.setCell]; omega
    clear HX1 HZ1 HZ0 HX0 HB0 hs0 hb1 HNWh
    go_upto_region 5 with fail
    clear c6 f6
    generalize W1.setCell ⟨w.heap.size + 1, 6, none⟩ (.int .i64 C) = WC at *
    have HCW := HCU.out l' WC hS HB.out
    have hcs := cut_size l'
    obtain ⟨wo, hwo⟩ : ∃ x, (cutB l').1 = x := ⟨_, rfl⟩
    obtain ⟨l0, hl0⟩ : ∃ x, (cutB l').2.1 = x := ⟨_, rfl⟩
    obtain ⟨k, hk⟩ : ∃ x, kindL wo = x := ⟨_, rfl⟩
    have HGB : gBody C l' = ⟨k, (stepN (hM k) l0).1, (stepN (hA k) (stepN (hM k) l0).2).1, (stepN (hB k) (stepN (hA k) (stepN (hM k) l0).2).2).1, (stepN (hC k) (stepN (hB k) (stepN (hA k) (stepN (hM k) l0).2).2).2).1, if hT k = true then ⟨(stepN (hC k) (stepN (hB k) (stepN (hA k) (stepN (hM k) l0).2).2).2).2.toArray⟩ else ByteArray.empty, C⟩ := by
      unfold gBody; rw [hwo, hl0, hk]
    have hkr := kindL_range wo
    rw [hwo, hl0] at HCW
    rw [hl0] at hcs
    rw [hk] at hkr
    have HKW : Hid (∀ W, Below w.heap.size w W → Calls Tryd.prog 31 #[.string (ba wo)] W fun e w' => e = .returned (.int .i64 k) ∧ w' = W) := fun W hW => by have h := HKI.out wo W hW; rw [hk] at h; exact h
    have HFW : Hid (∀ W, Below w.heap.size w W → W.rangeAt 0 (k.toNat * 6) [.string (ba (wd k)), .bool (hM k), .bool (hA k), .bool (hB k), .bool (hC k), .bool (hT k)]) := fun W hW => HFM.out W k hkr.1 hkr.2 hW
    rw [HGB] at hG
    clear HGB hwo hl0 hk HKI HFM HCU
    obtain ⟨hk0, hk7⟩ := hkr
    obtain ⟨hcs1, hcs2⟩ := hcs
    generalize ba (wd k) = fs at *
    generalize hM k = hm at *
    generalize hA k = ha at *
    generalize hB k = hb at *
    generalize hC k = hc at *
    generalize hT k = ht at *
    have z1 := step_size hm l0
    obtain ⟨n0, hn0⟩ : ∃ x, (stepN hm l0).1 = x := ⟨_, rfl⟩
    obtain ⟨l1, hl1⟩ : ∃ x, (stepN hm l0).2 = x := ⟨_, rfl⟩
    rw [hl1] at z1
    have z2 := step_size ha l1
    obtain ⟨n1, hn1⟩ : ∃ x, (stepN ha l1).1 = x := ⟨_, rfl⟩
    obtain ⟨l2, hl2⟩ : ∃ x, (stepN ha l1).2 = x := ⟨_, rfl⟩
    rw [hl2] at z2
    have z3 := step_size hb l2
    obtain ⟨n2, hn2⟩ : ∃ x, (stepN hb l2).1 = x := ⟨_, rfl⟩
    obtain ⟨l3, hl3⟩ : ∃ x, (stepN hb l2).2 = x := ⟨_, rfl⟩
    rw [hl3] at z3
    obtain ⟨n3, hn3⟩ : ∃ x, (stepN hc l3).1 = x := ⟨_, rfl⟩
    obtain ⟨l4, hl4⟩ : ∃ x, (stepN hc l3).2 = x := ⟨_, rfl⟩
    rw [hl1, hl2, hl3, hl4, hn0, hn1, hn2, hn3] at hG
    have HS0 : Hid ((hm = true → ∀ W, Below w.heap.size w W → Calls Tryd.prog 29 #[.string (ba l0)] W fun e w' => e = .returned (.tuple #[.int .i64 n0, .string (ba l1)]) ∧ Below W.heap.size W w') ∧ (hm = false → n0 = 0 ∧ l1 = l0)) := ⟨fun e W hW => by
      subst e
      have h := HNU.out l0 W (by omega) hW
      rw [← step_true, hn0, hl1] at h
      exact h, fun e => by subst e; exact ⟨hn0.symm, hl1.symm⟩⟩
    have HS1 : Hid ((ha = true → ∀ W, Below w.heap.size w W → Calls Tryd.prog 29 #[.string (ba l1)] W fun e w' => e = .returned (.tuple #[.int .i64 n1, .string (ba l2)]) ∧ Below W.heap.size W w') ∧ (ha = false → n1 = 0 ∧ l2 = l1)) := ⟨fun e W hW => by
      subst e
      have h := HNU.out l1 W (by omega) hW
      rw [← step_true, hn1, hl2] at h
      exact h, fun e => by subst e; exact ⟨hn1.symm, hl2.symm⟩⟩
    have HS2 : Hid ((hb = true → ∀ W, Below w.heap.size w W → Calls Tryd.prog 29 #[.string (ba l2)] W fun e w' => e = .returned (.tuple #[.int .i64 n2, .string (ba l3)]) ∧ Below W.heap.size W w') ∧ (hb = false → n2 = 0 ∧ l3 = l2)) := ⟨fun e W hW => by
      subst e
      have h := HNU.out l2 W (by omega) hW
      rw [← step_true, hn2, hl3] at h
      exact h, fun e => by subst e; exact ⟨hn2.symm, hl3.symm⟩⟩
    have HS3 : Hid ((hc = true → ∀ W, Below w.heap.size w W → Calls Tryd.prog 29 #[.string (ba l3)] W fun e w' => e = .returned (.tuple #[.int .i64 n3, .string (ba l4)]) ∧ Below W.heap.size W w') ∧ (hc = false → n3 = 0 ∧ l4 = l3)) := ⟨fun e W hW => by
      subst e
      have h := HNU.out l3 W (by omega) hW
      rw [← step_true, hn3, hl4] at h
      exact h, fun e => by subst e; exact ⟨hn3.symm, hl4.symm⟩⟩
    have HRE : Hid (R = ⟨k, n0, n1, n2, n3, zx ht l4, C⟩) := hG
    have HWN : Hid (∀ W, Calls Tryd.prog 24 #[.agg #[.int .i64 k, .int .i64 0, .int .i64 0, .int .i64 0, .int .i64 0, .string (zx ht l4), .int .i64 C], .agg #[.int .i64 n0, .int .i64 n1, .int .i64 n2, .int .i64 n3]] W fun e w' => e = .returned (⟨k, n0, n1, n2, n3, zx ht l4, C⟩ : Ac).v ∧ Below W.heap.size W w') := fun W => pwithNumbers ⟨k, 0, 0, 0, 0, zx ht l4, C⟩ n0 n1 n2 n3 W
    have HNN : Hid (∀ W, Calls Tryd.prog 23 #[.agg #[.int .i64 k, .int .i64 0, .int .i64 0, .int .i64 0, .int .i64 0, .string ⟨#[]⟩, .int .i64 C]] W fun e w' => e = .returned (.agg #[.int .i64 0, .int .i64 0, .int .i64 0, .int .i64 0]) ∧ Below W.heap.size W w') := fun W => pnumbers ⟨k, 0, 0, 0, 0, ⟨#[]⟩, C⟩ W
    clear hG hn0 hn1 hn2 hn3 hl1 hl2 hl3 hl4 z1 z2 z3 HNU hcs1 hcs2 hS
    unfold Ac.v Ac.cells at HWN
    simp only at HWN
    have HCWh : Hid (Calls Tryd.prog 30 #[.string (ba l'), .string ⟨#[32]⟩] WC fun e w' => e = .returned (.tuple #[.string (ba wo), .string (ba l0), .bool (cutB l').2.2]) ∧ Below (WC).heap.size WC w') := HCW
    clear HCW
    go_wp2_with fail
    refine HCWh.out.mono ?_
    rintro e W2 ⟨rfl, hb2⟩
    have HZ2 : Hid (Blk W2 w.heap.size #[.int .i64 0, .int .i64 0, .int .i64 0, .int .i64 0, .int .i64 0, .string ⟨#[]⟩, .int .i64 0] 23) := HZ.out.next hb2
    have HX2 : Hid (Blk W2 (w.heap.size + 1) #[.int .i64 0, .int .i64 0, .int .i64 0, .int .i64 0, .int .i64 0, .string ⟨#[]⟩, .int .i64 C] 23) := HX.out.next hb2
    have HB2 : Hid (Below w.heap.size w W2) := bel_step HB.out hb2
    have hs2 : w.heap.size + 2 ≤ W2.heap.size := Nat.le_trans hsz hb2.size
    clear HZ HX HB hsz hb2 HCWh
    go_wp2_with fail
    refine (HKW.out _ HB2.out).mono ?_
    rintro e W3 ⟨rfl, rfl⟩
    have x0 : W3.cell? ⟨w.heap.size + 1, 0, none⟩ = some (.int .i64 0) := HX2.out.cell 0
    have f0 : W3.frozen? ⟨w.heap.size + 1, 0, none⟩ = false := HX2.out.free 0
    have HX3 : Hid (Blk (W3.setCell ⟨w.heap.size + 1, 0, none⟩ (.int .i64 k)) (w.heap.size + 1) #[.int .i64 k, .int .i64 0, .int .i64 0, .int .i64 0, .int .i64 0, .string ⟨#[]⟩, .int .i64 C] 23) := HX2.out.set 0 _
    have HZ3 : Hid (Blk (W3.setCell ⟨w.heap.size + 1, 0, none⟩ (.int .i64 k)) w.heap.size #[.int .i64 0, .int .i64 0, .int .i64 0, .int .i64 0, .int .i64 0, .string ⟨#[]⟩, .int .i64 0] 23) := HZ2.out.other _ _ (by omega)
    have HB3 : Hid (Below w.heap.size w (W3.setCell ⟨w.heap.size + 1, 0, none⟩ (.int .i64 k))) := bel_set HB2.out _ _ _ (by omega)
    have hs3 : w.heap.size + 2 ≤ (W3.setCell ⟨w.heap.size + 1, 0, none⟩ (.int .i64 k)).heap.size := by simp [World.setCell]; omega
    clear HX2 HZ2 HB2 hs2 HKW
    go_upto_region 7 with fail
    clear x0 f0
    generalize W3.setCell ⟨w.heap.size + 1, 0, none⟩ (.int .i64 k) = W4 at *
    have x0 : W4.cell? ⟨w.heap.size + 1, 0, none⟩ = some (.int .i64 k) := HX3.out.cell 0
    have HFR := HFW.out W4 HB3.out
    have HFRh : Hid (W4.rangeAt 0 (k.toNat * 6) [.string fs, .bool hm, .bool ha, .bool hb, .bool hc, .bool ht]) := HFR
    have HF5 : Hid (Blk (W4.alloc (.cells #[.string fs, .bool hm, .bool ha, .bool hb, .bool hc, .bool ht] 34)) W4.heap.size #[.string fs, .bool hm, .bool ha, .bool hb, .bool hc, .bool ht] 34) := Blk.new _ _ _
    have HX5 : Hid (Blk (W4.alloc (.cells #[.string fs, .bool hm, .bool ha, .bool hb, .bool hc, .bool ht] 34)) (w.heap.size + 1) #[.int .i64 k, .int .i64 0, .int .i64 0, .int .i64 0, .int .i64 0, .string ⟨#[]⟩, .int .i64 C] 23) := HX3.out.alloc _
    have HZ5 : Hid (Blk (W4.alloc (.cells #[.string fs, .bool hm, .bool ha, .bool hb, .bool hc, .bool ht] 34)) w.heap.size #[.int .i64 0, .int .i64 0, .int .i64 0, .int .i64 0, .int .i64 0, .string ⟨#[]⟩, .int .i64 0] 23) := HZ3.out.alloc _
    have HB5 : Hid (Below w.heap.size w (W4.alloc (.cells #[.string fs, .bool hm, .bool ha, .bool hb, .bool hc, .bool ht] 34))) := HB3.out.alloc HB3.out.size _
    have hs5 : W4.heap.size < (W4.alloc (.cells #[.string fs, .bool hm, .bool ha, .bool hb, .bool hc, .bool ht] 34)).heap.size := by simp
    clear HFR HFW HX3 HZ3 HB3
    go_upto_region 8 with (first | (refine wpList_load_mid rfl 34 _ rfl 0 (k.toNat * 6) rfl [.string fs, .bool hm, .bool ha, .bool hb, .bool hc, .bool ht] _ HFRh.out Tryd.underlying34 rfl (by kernel_rfl) ?_) | fail)
    clear x0 HFRh
    generalize W4.alloc (.cells #[.string fs, .bool hm, .bool ha, .bool hb, .bool hc, .bool ht] 34) = W5 at *
    generalize W4.heap.size = g at *
    go_wp2_with (first | (refine wp_whole rfl 23 _ rfl (w.heap.size + 1) rfl 23 _ _ HX5.out Tryd.underlying23 rfl (by kernel_rfl) ?_) | fail)
    refine (HNN.out _).mono ?_
    rintro e W6 ⟨rfl, hb6⟩
    have HF7 : Hid (Blk (W6.alloc (.cells #[.int .i64 0, .int .i64 0, .int .i64 0, .int .i64 0] 51)) g #[.string fs, .bool hm, .bool ha, .bool hb, .bool hc, .bool ht] 34) := (HF5.out.next hb6).alloc _
    have HX7 : Hid (Blk (W6.alloc (.cells #[.int .i64 0, .int .i64 0, .int .i64 0, .int .i64 0] 51)) (w.heap.size + 1) #[.int .i64 k, .int .i64 0, .int .i64 0, .int .i64 0, .int .i64 0, .string ⟨#[]⟩, .int .i64 C] 23) := (HX5.out.next hb6).alloc _
    have HZ7 : Hid (Blk (W6.alloc (.cells #[.int .i64 0, .int .i64 0, .int .i64 0, .int .i64 0] 51)) w.heap.size #[.int .i64 0, .int .i64 0, .int .i64 0, .int .i64 0, .int .i64 0, .string ⟨#[]⟩, .int .i64 0] 23) := (HZ5.out.next hb6).alloc _
    have HA7 : Hid (Blk (W6.alloc (.cells #[.int .i64 0, .int .i64 0, .int .i64 0, .int .i64 0] 51)) W6.heap.size #[.int .i64 0, .int .i64 0, .int .i64 0, .int .i64 0] 51) := Blk.new _ _ _
    have HB7 : Hid (Below w.heap.size w (W6.alloc (.cells #[.int .i64 0, .int .i64 0, .int .i64 0, .int .i64 0] 51))) := (bel_step HB5.out hb6).alloc (bel_step HB5.out hb6).size _
    have hs7 : g < W6.heap.size := Nat.lt_of_lt_of_le hs5 hb6.size
    have hs8 : W6.heap.size < (W6.alloc (.cells #[.int .i64 0, .int .i64 0, .int .i64 0, .int .i64 0] 51)).heap.size := by simp
    clear HF5 HX5 HZ5 HB5 hs5 hb6 HNN
    go_upto_region 9 with fail
    generalize W6.alloc (.cells #[.int .i64 0, .int .i64 0, .int .i64 0, .int .i64 0] 51) = W7 at *
    generalize W6.heap.size = ga at *
    have q1 : W7.cell? ⟨g, 1, none⟩ = some (.bool hm) := HF7.out.cell 1
    have q2 : W7.cell? ⟨g, 2, none⟩ = some (.bool ha) := HF7.out.cell 2
    have q3 : W7.cell? ⟨g, 3, none⟩ = some (.bool hb) := HF7.out.cell 3
    have q4 : W7.cell? ⟨g, 4, none⟩ = some (.bool hc) := HF7.out.cell 4
    go_wp2_with fail
    clear q1 q2 q3 q4
    go_loopw [0, 42] (fun v0 v42 wr => ∃ (i : Nat), i ≤ 4 ∧ v42 = .int .i64 (i : Int) ∧ v0 = .string (ba (lnN l0 l1 l2 l3 l4 i)) ∧ Blk wr ga (nnN n0 n1 n2 n3 i) 51 ∧ Blk wr g #[.string fs, .bool hm, .bool ha, .bool hb, .bool hc, .bool ht] 34 ∧ Blk wr (w.heap.size + 1) #[.int .i64 k, .int .i64 0, .int .i64 0, .int .i64 0, .int .i64 0, .string ⟨#[]⟩, .int .i64 C] 23 ∧ Blk wr w.heap.size #[.int .i64 0, .int .i64 0, .int .i64 0, .int .i64 0, .int .i64 0, .string ⟨#[]⟩, .int .i64 0] 23 ∧ Below w.heap.size w wr ∧ ga < wr.heap.size) (fun _ v _ => 4 - (intOf v).toNat)
    case atStart => exact ⟨0, by decide, rfl, rfl, HA7.out, HF7.out, HX7.out, HZ7.out, HB7.out, hs8⟩
    case round =>
      obtain ⟨i, hi, rfl, rfl, hab, hfb, hxb, hzb, hbl, hgs⟩ := hrel
      have HAi : Hid (Blk wr ga (nnN n0 n1 n2 n3 i) 51) := hab
      have HF : Hid (Blk wr g #[.string fs, .bool hm, .bool ha, .bool hb, .bool hc, .bool ht] 34) := hfb
      have HXi : Hid (Blk wr (w.heap.size + 1) #[.int .i64 k, .int .i64 0, .int .i64 0, .int .i64 0, .int .i64 0, .string ⟨#[]⟩, .int .i64 C] 23) := hxb
      have HZi : Hid (Blk wr w.heap.size #[.int .i64 0, .int .i64 0, .int .i64 0, .int .i64 0, .int .i64 0, .string ⟨#[]⟩, .int .i64 0] 23) := hzb
      have HBi : Hid (Below w.heap.size w wr) := hbl
      clear hab hfb hxb hzb hbl HA7 HF7 HX7 HZ7 HB7 hs8
      have hi5 : i = 0 ∨ i = 1 ∨ i = 2 ∨ i = 3 ∨ i = 4 := by omega
      rcases hi5 with rfl | rfl | rfl | rfl | rfl
      · have x0 : ∀ W : World, (Instr.index 32 (.agg #[.bool hm, .bool ha, .bool hb, .bool hc]) (.int .i64 0)).run Tryd.prog W = .ok (.bool hm) W := fun W => by kernel_rfl
        cases hm with
        | true =>
          have HST := HS0.out.1 rfl wr HBi.out
          have HSTh : Hid (Calls Tryd.prog 29 #[.string (ba l0)] wr fun e w' => e = .returned (.tuple #[.int .i64 n0, .string (ba l1)]) ∧ Below wr.heap.size wr w') := HST
          clear HST
          have hln : Value.string (ba (lnN l0 l1 l2 l3 l4 0)) = .string (ba l0) := rfl
          rw [hln]
          clear hln
          go_wp2_with fail
          refine HSTh.out.mono ?_
          rintro e W8 ⟨rfl, hb8⟩
          have HA8 : Hid (Blk W8 ga (nnN n0 n1 n2 n3 0) 51) := HAi.out.next hb8
          have cz : W8.cell? ⟨ga, 0, none⟩ = some (.int .i64 0) := HA8.out.cell 0
          have fz : W8.frozen? ⟨ga, 0, none⟩ = false := HA8.out.free 0
          have HA9 : Hid (Blk (W8.setCell ⟨ga, 0, none⟩ (.int .i64 n0)) ga (nnN n0 n1 n2 n3 1) 51) := HA8.out.set 0 _
          have HF9 : Hid (Blk (W8.setCell ⟨ga, 0, none⟩ (.int .i64 n0)) g #[.string fs, .bool true, .bool ha, .bool hb, .bool hc, .bool ht] 34) := (HF.out.next hb8).other _ _ (by omega)
          have HX9 : Hid (Blk (W8.setCell ⟨ga, 0, none⟩ (.int .i64 n0)) (w.heap.size + 1) #[.int .i64 k, .int .i64 0, .int .i64 0, .int .i64 0, .int .i64 0, .string ⟨#[]⟩, .int .i64 C] 23) := (HXi.out.next hb8).other _ _ (by omega)
          have HZ9 : Hid (Blk (W8.setCell ⟨ga, 0, none⟩ (.int .i64 n0)) w.heap.size #[.int .i64 0, .int .i64 0, .int .i64 0, .int .i64 0, .int .i64 0, .string ⟨#[]⟩, .int .i64 0] 23) := (HZi.out.next hb8).other _ _ (by omega)
          have HB9 : Hid (Below w.heap.size w (W8.setCell ⟨ga, 0, none⟩ (.int .i64 n0))) := bel_set (bel_step HBi.out hb8) _ _ _ (by omega)
          have hs9 : ga < (W8.setCell ⟨ga, 0, none⟩ (.int .i64 n0)).heap.size := by have := hb8.size; simp [World.setCell]; omega
          clear HAi HF HXi HZi HBi HA8 hb8 HSTh
          go_wp2_with fail
          go_roundw
          case rel => exact ⟨1, by decide, rfl, rfl, HA9.out, HF9.out, HX9.out, HZ9.out, HB9.out, hs9⟩
          case measure => decide
        | false =>
          have HE0 : Hid (nnN n0 n1 n2 n3 0 = nnN n0 n1 n2 n3 1 ∧ lnN l0 l1 l2 l3 l4 1 = lnN l0 l1 l2 l3 l4 0) := by
            obtain ⟨e1, e2⟩ := HS0.out.2 rfl
            exact ⟨by rw [e1]; rfl, e2⟩
          go_wp2_with fail
          go_roundw
          case rel => exact ⟨1, by decide, rfl, by rw [HE0.out.2], by rw [← HE0.out.1]; exact HAi.out, HF.out, HXi.out, HZi.out, HBi.out, hgs⟩
          case measure => decide
      · have x0 : ∀ W : World, (Instr.index 32 (.agg #[.bool hm, .bool ha, .bool hb, .bool hc]) (.int .i64 1)).run Tryd.prog W = .ok (.bool ha) W := fun W => by kernel_rfl
        cases ha with
        | true =>
          have HST := HS1.out.1 rfl wr HBi.out
          have HSTh : Hid (Calls Tryd.prog 29 #[.string (ba l1)] wr fun e w' => e = .returned (.tuple #[.int .i64 n1, .string (ba l2)]) ∧ Below wr.heap.size wr w') := HST
          clear HST
          have hln : Value.string (ba (lnN l0 l1 l2 l3 l4 1)) = .string (ba l1) := rfl
          rw [hln]
          clear hln
          go_wp2_with fail
          refine HSTh.out.mono ?_
          rintro e W8 ⟨rfl, hb8⟩
          have HA8 : Hid (Blk W8 ga (nnN n0 n1 n2 n3 1) 51) := HAi.out.next hb8
          have cz : W8.cell? ⟨ga, 1, none⟩ = some (.int .i64 0) := HA8.out.cell 1
          have fz : W8.frozen? ⟨ga, 1, none⟩ = false := HA8.out.free 1
          have HA9 : Hid (Blk (W8.setCell ⟨ga, 1, none⟩ (.int .i64 n1)) ga (nnN n0 n1 n2 n3 2) 51) := HA8.out.set 1 _
          have HF9 : Hid (Blk (W8.setCell ⟨ga, 1, none⟩ (.int .i64 n1)) g #[.string fs, .bool hm, .bool true, .bool hb, .bool hc, .bool ht] 34) := (HF.out.next hb8).other _ _ (by omega)
          have HX9 : Hid (Blk (W8.setCell ⟨ga, 1, none⟩ (.int .i64 n1)) (w.heap.size + 1) #[.int .i64 k, .int .i64 0, .int .i64 0, .int .i64 0, .int .i64 0, .string ⟨#[]⟩, .int .i64 C] 23) := (HXi.out.next hb8).other _ _ (by omega)
          have HZ9 : Hid (Blk (W8.setCell ⟨ga, 1, none⟩ (.int .i64 n1)) w.heap.size #[.int .i64 0, .int .i64 0, .int .i64 0, .int .i64 0, .int .i64 0, .string ⟨#[]⟩, .int .i64 0] 23) := (HZi.out.next hb8).other _ _ (by omega)
          have HB9 : Hid (Below w.heap.size w (W8.setCell ⟨ga, 1, none⟩ (.int .i64 n1))) := bel_set (bel_step HBi.out hb8) _ _ _ (by omega)
          have hs9 : ga < (W8.setCell ⟨ga, 1, none⟩ (.int .i64 n1)).heap.size := by have := hb8.size; simp [World.setCell]; omega
          clear HAi HF HXi HZi HBi HA8 hb8 HSTh
          go_wp2_with fail
          go_roundw
          case rel => exact ⟨2, by decide, rfl, rfl, HA9.out, HF9.out, HX9.out, HZ9.out, HB9.out, hs9⟩
          case measure => decide
        | false =>
          have HE0 : Hid (nnN n0 n1 n2 n3 1 = nnN n0 n1 n2 n3 2 ∧ lnN l0 l1 l2 l3 l4 2 = lnN l0 l1 l2 l3 l4 1) := by
            obtain ⟨e1, e2⟩ := HS1.out.2 rfl
            exact ⟨by rw [e1]; rfl, e2⟩
          go_wp2_with fail
          go_roundw
          case rel => exact ⟨2, by decide, rfl, by rw [HE0.out.2], by rw [← HE0.out.1]; exact HAi.out, HF.out, HXi.out, HZi.out, HBi.out, hgs⟩
          case measure => decide
      · have x0 : ∀ W : World, (Instr.index 32 (.agg #[.bool hm, .bool ha, .bool hb, .bool hc]) (.int .i64 2)).run Tryd.prog W = .ok (.bool hb) W := fun W => by kernel_rfl
        cases hb with
        | true =>
          have HST := HS2.out.1 rfl wr HBi.out
          have HSTh : Hid (Calls Tryd.prog 29 #[.string (ba l2)] wr fun e w' => e = .returned (.tuple #[.int .i64 n2, .string (ba l3)]) ∧ Below wr.heap.size wr w') := HST
          clear HST
          have hln : Value.string (ba (lnN l0 l1 l2 l3 l4 2)) = .string (ba l2) := rfl
          rw [hln]
          clear hln
          go_wp2_with fail
          refine HSTh.out.mono ?_
          rintro e W8 ⟨rfl, hb8⟩
          have HA8 : Hid (Blk W8 ga (nnN n0 n1 n2 n3 2) 51) := HAi.out.next hb8
          have cz : W8.cell? ⟨ga, 2, none⟩ = some (.int .i64 0) := HA8.out.cell 2
          have fz : W8.frozen? ⟨ga, 2, none⟩ = false := HA8.out.free 2
          have HA9 : Hid (Blk (W8.setCell ⟨ga, 2, none⟩ (.int .i64 n2)) ga (nnN n0 n1 n2 n3 3) 51) := HA8.out.set 2 _
          have HF9 : Hid (Blk (W8.setCell ⟨ga, 2, none⟩ (.int .i64 n2)) g #[.string fs, .bool hm, .bool ha, .bool true, .bool hc, .bool ht] 34) := (HF.out.next hb8).other _ _ (by omega)
          have HX9 : Hid (Blk (W8.setCell ⟨ga, 2, none⟩ (.int .i64 n2)) (w.heap.size + 1) #[.int .i64 k, .int .i64 0, .int .i64 0, .int .i64 0, .int .i64 0, .string ⟨#[]⟩, .int .i64 C] 23) := (HXi.out.next hb8).other _ _ (by omega)
          have HZ9 : Hid (Blk (W8.setCell ⟨ga, 2, none⟩ (.int .i64 n2)) w.heap.size #[.int .i64 0, .int .i64 0, .int .i64 0, .int .i64 0, .int .i64 0, .string ⟨#[]⟩, .int .i64 0] 23) := (HZi.out.next hb8).other _ _ (by omega)
          have HB9 : Hid (Below w.heap.size w (W8.setCell ⟨ga, 2, none⟩ (.int .i64 n2))) := bel_set (bel_step HBi.out hb8) _ _ _ (by omega)
          have hs9 : ga < (W8.setCell ⟨ga, 2, none⟩ (.int .i64 n2)).heap.size := by have := hb8.size; simp [World.setCell]; omega
          clear HAi HF HXi HZi HBi HA8 hb8 HSTh
          go_wp2_with fail
          go_roundw
          case rel => exact ⟨3, by decide, rfl, rfl, HA9.out, HF9.out, HX9.out, HZ9.out, HB9.out, hs9⟩
          case measure => decide
        | false =>
          have HE0 : Hid (nnN n0 n1 n2 n3 2 = nnN n0 n1 n2 n3 3 ∧ lnN l0 l1 l2 l3 l4 3 = lnN l0 l1 l2 l3 l4 2) := by
            obtain ⟨e1, e2⟩ := HS2.out.2 rfl
            exact ⟨by rw [e1]; rfl, e2⟩
          go_wp2_with fail
          go_roundw
          case rel => exact ⟨3, by decide, rfl, by rw [HE0.out.2], by rw [← HE0.out.1]; exact HAi.out, HF.out, HXi.out, HZi.out, HBi.out, hgs⟩
          case measure => decide
      · have x0 : ∀ W : World, (Instr.index 32 (.agg #[.bool hm, .bool ha, .bool hb, .bool hc]) (.int .i64 3)).run Tryd.prog W = .ok (.bool hc) W := fun W => by kernel_rfl
        cases hc with
        | true =>
          have HST := HS3.out.1 rfl wr HBi.out
          have HSTh : Hid (Calls Tryd.prog 29 #[.string (ba l3)] wr fun e w' => e = .returned (.tuple #[.int .i64 n3, .string (ba l4)]) ∧ Below wr.heap.size wr w') := HST
          clear HST
          have hln : Value.string (ba (lnN l0 l1 l2 l3 l4 3)) = .string (ba l3) := rfl
          rw [hln]
          clear hln
          go_wp2_with fail
          refine HSTh.out.mono ?_
          rintro e W8 ⟨rfl, hb8⟩
          have HA8 : Hid (Blk W8 ga (nnN n0 n1 n2 n3 3) 51) := HAi.out.next hb8
          have cz : W8.cell? ⟨ga, 3, none⟩ = some (.int .i64 0) := HA8.out.cell 3
          have fz : W8.frozen? ⟨ga, 3, none⟩ = false := HA8.out.free 3
          have HA9 : Hid (Blk (W8.setCell ⟨ga, 3, none⟩ (.int .i64 n3)) ga (nnN n0 n1 n2 n3 4) 51) := HA8.out.set 3 _
          have HF9 : Hid (Blk (W8.setCell ⟨ga, 3, none⟩ (.int .i64 n3)) g #[.string fs, .bool hm, .bool ha, .bool hb, .bool true, .bool ht] 34) := (HF.out.next hb8).other _ _ (by omega)
          have HX9 : Hid (Blk (W8.setCell ⟨ga, 3, none⟩ (.int .i64 n3)) (w.heap.size + 1) #[.int .i64 k, .int .i64 0, .int .i64 0, .int .i64 0, .int .i64 0, .string ⟨#[]⟩, .int .i64 C] 23) := (HXi.out.next hb8).other _ _ (by omega)
          have HZ9 : Hid (Blk (W8.setCell ⟨ga, 3, none⟩ (.int .i64 n3)) w.heap.size #[.int .i64 0, .int .i64 0, .int .i64 0, .int .i64 0, .int .i64 0, .string ⟨#[]⟩, .int .i64 0] 23) := (HZi.out.next hb8).other _ _ (by omega)
          have HB9 : Hid (Below w.heap.size w (W8.setCell ⟨ga, 3, none⟩ (.int .i64 n3))) := bel_set (bel_step HBi.out hb8) _ _ _ (by omega)
          have hs9 : ga < (W8.setCell ⟨ga, 3, none⟩ (.int .i64 n3)).heap.size := by have := hb8.size; simp [World.setCell]; omega
          clear HAi HF HXi HZi HBi HA8 hb8 HSTh
          go_wp2_with fail
          go_roundw
          case rel => exact ⟨4, by decide, rfl, rfl, HA9.out, HF9.out, HX9.out, HZ9.out, HB9.out, hs9⟩
          case measure => decide
        | false =>
          have HE0 : Hid (nnN n0 n1 n2 n3 3 = nnN n0 n1 n2 n3 4 ∧ lnN l0 l1 l2 l3 l4 4 = lnN l0 l1 l2 l3 l4 3) := by
            obtain ⟨e1, e2⟩ := HS3.out.2 rfl
            exact ⟨by rw [e1]; rfl, e2⟩
          go_wp2_with fail
          go_roundw
          case rel => exact ⟨4, by decide, rfl, by rw [HE0.out.2], by rw [← HE0.out.1]; exact HAi.out, HF.out, HXi.out, HZi.out, HBi.out, hgs⟩
          case measure => decide
      · have cb : wr.cell? ⟨g, 5, none⟩ = some (.bool ht) := HF.out.cell 5
        have HA : Hid (Blk wr ga #[.int .i64 n0, .int .i64 n1, .int .i64 n2, .int .i64 n3] 51) := HAi.out
        have hln : Value.string (ba (lnN l0 l1 l2 l3 l4 4)) = .string (ba l4) := rfl
        rw [hln]
        clear HF HAi hln HS0 HS1 HS2 HS3
        cases ht with
        | true =>
          have HXw : Hid (Blk (wr.setCell ⟨w.heap.size + 1, 5, none⟩ (.string (ba l4))) (w.heap.size + 1) #[.int .i64 k, .int .i64 0, .int .i64 0, .int .i64 0, .int .i64 0, .string (ba l4), .int .i64 C] 23) := HXi.out.set 5 _
          have HZw : Hid (Blk (wr.setCell ⟨w.heap.size + 1, 5, none⟩ (.string (ba l4))) w.heap.size #[.int .i64 0, .int .i64 0, .int .i64 0, .int .i64 0, .int .i64 0, .string ⟨#[]⟩, .int .i64 0] 23) := HZi.out.other _ _ (by omega)
          have HAw : Hid (Blk (wr.setCell ⟨w.heap.size + 1, 5, none⟩ (.string (ba l4))) ga #[.int .i64 n0, .int .i64 n1, .int .i64 n2, .int .i64 n3] 51) := HA.out.other _ _ (by omega)
          have HBw : Hid (Below w.heap.size w (wr.setCell ⟨w.heap.size + 1, 5, none⟩ (.string (ba l4)))) := bel_set HBi.out _ _ _ (by omega)
          have c5 : wr.cell? ⟨w.heap.size + 1, 5, none⟩ = some (.string ⟨#[]⟩) := HXi.out.cell 5
          have f5 : wr.frozen? ⟨w.heap.size + 1, 5, none⟩ = false := HXi.out.free 5
          clear HXi HZi HBi HA
          go_upto_region 17 with fail
          clear c5 f5
          generalize (wr.setCell ⟨w.heap.size + 1, 5, none⟩ (.string (ba l4))) = wt at *
          go_wp2_with (first | (refine wp_whole rfl 23 _ rfl (w.heap.size + 1) rfl 23 _ _ HXw.out Tryd.underlying23 rfl (by kernel_rfl) ?_) | (refine wp_whole rfl 51 _ rfl ga rfl 51 _ _ HAw.out Tryd.underlying51 rfl (by kernel_rfl) ?_) | fail)
          refine (HWN.out _).mono ?_
          rintro e W10 ⟨rfl, hb10⟩
          have HZ10 : Hid (Blk W10 w.heap.size #[.int .i64 0, .int .i64 0, .int .i64 0, .int .i64 0, .int .i64 0, .string ⟨#[]⟩, .int .i64 0] 23) := HZw.out.next hb10
          have HB10 : Hid (Below w.heap.size w W10) := bel_step HBw.out hb10
          clear HZw HBw hb10 HWN HXw HAw cb
          go_wp2_with (first | (refine wp_letAll rfl 23 _ _ rfl w.heap.size rfl #[.int .i64 k, .int .i64 n0, .int .i64 n1, .int .i64 n2, .int .i64 n3, .string (zx true l4), .int .i64 C] rfl (by kernel_rfl) (by simp [Value.oneCell']) #[.int .i64 0, .int .i64 0, .int .i64 0, .int .i64 0, .int .i64 0, .string ⟨#[]⟩, .int .i64 0] 23 HZ10.out rfl ?_) | fail)
          intro WF hUF
          have HBF : Hid (Below w.heap.size w WF) := hUF.bel _ _ (Nat.le_refl _) HB10.out
          have R0 : Hid (WF.cell? ⟨w.heap.size, 0, none⟩ = some (.int .i64 k)) := hUF.blk.cell 0
          have R1 : Hid (WF.cell? ⟨w.heap.size, 1, none⟩ = some (.int .i64 n0)) := hUF.blk.cell 1
          have R2 : Hid (WF.cell? ⟨w.heap.size, 2, none⟩ = some (.int .i64 n1)) := hUF.blk.cell 2
          have R3 : Hid (WF.cell? ⟨w.heap.size, 3, none⟩ = some (.int .i64 n2)) := hUF.blk.cell 3
          have R4 : Hid (WF.cell? ⟨w.heap.size, 4, none⟩ = some (.int .i64 n3)) := hUF.blk.cell 4
          have R5 : Hid (WF.cell? ⟨w.heap.size, 5, none⟩ = some (.string (zx true l4))) := hUF.blk.cell 5
          have R6 : Hid (WF.cell? ⟨w.heap.size, 6, none⟩ = some (.int .i64 C)) := hUF.blk.cell 6
          clear hUF
          go_wp2_with fail
          exact bodyPost_ret (v := .agg #[.int .i64 k, .int .i64 n0, .int .i64 n1, .int .i64 n2, .int .i64 n3, .string (zx true l4), .int .i64 C]) (by simp [results, Tryd.results20, R0.out, R1.out, R2.out, R3.out, R4.out, R5.out, R6.out, go_sem]) rfl ⟨by rw [HRE.out]; rfl, HBF.out⟩
        | false =>
          have HXw : Hid (Blk wr (w.heap.size + 1) #[.int .i64 k, .int .i64 0, .int .i64 0, .int .i64 0, .int .i64 0, .string ⟨#[]⟩, .int .i64 C] 23) := HXi.out
          have HZw : Hid (Blk wr w.heap.size #[.int .i64 0, .int .i64 0, .int .i64 0, .int .i64 0, .int .i64 0, .string ⟨#[]⟩, .int .i64 0] 23) := HZi.out
          have HAw : Hid (Blk wr ga #[.int .i64 n0, .int .i64 n1, .int .i64 n2, .int .i64 n3] 51) := HA.out
          have HBw : Hid (Below w.heap.size w wr) := HBi.out
          clear HXi HZi HBi HA
          go_upto_region 17 with fail
          go_wp2_with (first | (refine wp_whole rfl 23 _ rfl (w.heap.size + 1) rfl 23 _ _ HXw.out Tryd.underlying23 rfl (by kernel_rfl) ?_) | (refine wp_whole rfl 51 _ rfl ga rfl 51 _ _ HAw.out Tryd.underlying51 rfl (by kernel_rfl) ?_) | fail)
          refine (HWN.out _).mono ?_
          rintro e W10 ⟨rfl, hb10⟩
          have HZ10 : Hid (Blk W10 w.heap.size #[.int .i64 0, .int .i64 0, .int .i64 0, .int .i64 0, .int .i64 0, .string ⟨#[]⟩, .int .i64 0] 23) := HZw.out.next hb10
          have HB10 : Hid (Below w.heap.size w W10) := bel_step HBw.out hb10
          clear HZw HBw hb10 HWN HXw HAw cb
          go_wp2_with (first | (refine wp_letAll rfl 23 _ _ rfl w.heap.size rfl #[.int .i64 k, .int .i64 n0, .int .i64 n1, .int .i64 n2, .int .i64 n3, .string (zx false l4), .int .i64 C] rfl (by kernel_rfl) (by simp [Value.oneCell']) #[.int .i64 0, .int .i64 0, .int .i64 0, .int .i64 0, .int .i64 0, .string ⟨#[]⟩, .int .i64 0] 23 HZ10.out rfl ?_) | fail)
          intro WF hUF
          have HBF : Hid (Below w.heap.size w WF) := hUF.bel _ _ (Nat.le_refl _) HB10.out
          have R0 : Hid (WF.cell? ⟨w.heap.size, 0, none⟩ = some (.int .i64 k)) := hUF.blk.cell 0
          have R1 : Hid (WF.cell? ⟨w.heap.size, 1, none⟩ = some (.int .i64 n0)) := hUF.blk.cell 1
          have R2 : Hid (WF.cell? ⟨w.heap.size, 2, none⟩ = some (.int .i64 n1)) := hUF.blk.cell 2
          have R3 : Hid (WF.cell? ⟨w.heap.size, 3, none⟩ = some (.int .i64 n2)) := hUF.blk.cell 3
          have R4 : Hid (WF.cell? ⟨w.heap.size, 4, none⟩ = some (.int .i64 n3)) := hUF.blk.cell 4
          have R5 : Hid (WF.cell? ⟨w.heap.size, 5, none⟩ = some (.string (zx false l4))) := hUF.blk.cell 5
          have R6 : Hid (WF.cell? ⟨w.heap.size, 6, none⟩ = some (.int .i64 C)) := hUF.blk.cell 6
          clear hUF
          go_wp2_with fail
          exact bodyPost_ret (v := .agg #[.int .i64 k, .int .i64 n0, .int .i64 n1, .int .i64 n2, .int .i64 n3, .string (zx false l4), .int .i64 C]) (by simp [results, Tryd.results20, R0.out, R1.out, R2.out, R3.out, R4.out, R5.out, R6.out, go_sem]) rfl ⟨by rw [HRE.out]; rfl, HBF.out⟩

end Go.Proofs.YtlianhienbhbgaaDoor.odr
