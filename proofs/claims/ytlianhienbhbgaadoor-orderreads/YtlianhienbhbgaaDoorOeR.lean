/- A line read, as the document says it. -/
import Derived.Test.YtlianhienbhbgaaDoorOeP
namespace Go.Proofs.YtlianhienbhbgaaDoor.odr
open Go.RowKit
set_option maxRecDepth 100000
set_option linter.unusedVariables false
set_option linter.unusedSimpArgs false

/-- What is left from a place on; -1: nothing. -/
def O (l : List UInt8) (T : Int) : Option (List UInt8) := if T < 0 then none else some (l.drop T.toNat)
def Place (l : List UInt8) (T : Int) : Prop := T = -1 ∨ ∃ n : Nat, T = (n : Int) ∧ n ≤ l.length
theorem place_next (l : List UInt8) (f : Nat) (hf : f ≤ l.length) : Place l (nextI l f) ∧ O l (nextI l f) = left (l.drop f) := by
  rcases next_facts l f hf with ⟨h1, h2⟩ | ⟨t, h1, _, h3, h4⟩
  · rw [h1, h2]; exact ⟨.inl rfl, rfl⟩
  · rw [h1, h4]
    refine ⟨.inr ⟨t, rfl, h3⟩, ?_⟩
    unfold O
    rw [if_neg (by omega), Int.toNat_natCast]
/-- What is made of the numbers that are still to come. -/
def c4 (K : Int) (C n0 n1 n2 n3 : Int) (o : Option (List UInt8)) : Option Ac := some ⟨K, n0, n1, n2, n3, if hT K = true then (match o with | some t => ⟨t.toArray⟩ | none => ByteArray.empty) else ByteArray.empty, C⟩
def c3 (K : Int) (hc : Bool) (C n0 n1 n2 : Int) (o : Option (List UInt8)) : Option Ac := (dstep hc o).bind fun s => c4 K C n0 n1 n2 s.1 s.2
def c2 (K : Int) (hb hc : Bool) (C n0 n1 : Int) (o : Option (List UInt8)) : Option Ac := (dstep hb o).bind fun r => c3 K hc C n0 n1 r.1 r.2
def c1 (K : Int) (ha hb hc : Bool) (C n0 : Int) (o : Option (List UInt8)) : Option Ac := (dstep ha o).bind fun q => c2 K hb hc C n0 q.1 q.2
def c0 (K : Int) (ha hb hc : Bool) (C : Int) (o : Option (List UInt8)) : Option Ac := (dstep true o).bind fun p => c1 K ha hb hc C p.1 p.2
theorem dBody_eq (C : Int) (l : List UInt8) : dBody C l = c0 (kindL (cutB l).1) (hA (kindL (cutB l).1)) (hB (kindL (cutB l).1)) (hC (kindL (cutB l).1)) C (left l) := rfl
theorem dstep_no (o : Option (List UInt8)) : dstep false o = some (0, o) := rfl
theorem dstep_end (l : List UInt8) : dstep true (O l (-1)) = none := rfl
theorem dstep_at (l : List UInt8) (n : Nat) (hn : n ≤ l.length) : dstep true (O l (n : Int)) = some (plainV (cutB (l.drop n)).1, O l (nextI l n)) := by
  have h := (place_next l n hn).2
  have hO : O l (n : Int) = some (l.drop n) := by
    have h0 : ¬ ((n : Int) < 0) := by omega
    unfold O
    rw [if_neg h0, Int.toNat_natCast]
  rw [h, hO]
  rfl
/-- How far the numbers are read. -/
def InvR (D : Option Ac) (K : Int) (ha hb hc : Bool) (C : Int) (l : List UInt8) (n0 n1 n2 n3 T : Int) : Nat → Prop
  | 0 => D = c0 K ha hb hc C (O l T) ∧ n0 = 0 ∧ n1 = 0 ∧ n2 = 0 ∧ n3 = 0
  | 1 => D = c1 K ha hb hc C n0 (O l T) ∧ n1 = 0 ∧ n2 = 0 ∧ n3 = 0
  | 2 => D = c2 K hb hc C n0 n1 (O l T) ∧ n2 = 0 ∧ n3 = 0
  | 3 => D = c3 K hc C n0 n1 n2 (O l T) ∧ n3 = 0
  | _ => D = c4 K C n0 n1 n2 n3 (O l T)
theorem kindL_iff (l : List UInt8) (i : Int) (h1 : 1 ≤ i) (h7 : i ≤ 7) : wd i = l ↔ kindL l = i := by
  constructor
  · intro h; exact kindL_at l i h1 h7 h.symm
  · intro h
    have hr : i = 1 ∨ i = 2 ∨ i = 3 ∨ i = 4 ∨ i = 5 ∨ i = 6 ∨ i = 7 := by omega
    unfold kindL at h
    rcases hr with rfl | rfl | rfl | rfl | rfl | rfl | rfl <;> (repeat' split at h) <;> first | (rename_i h0; exact h0.symm) | (exact absurd h (by decide)) | skip
def kl (K i : Int) : Int := if K < i then K else 0
theorem read_noD {s : ByteArray} {D : Option Ac} (h : s.size ≤ 120) (hD : dguess s.data.toList = D) (hn : ∀ y, D = some y → err y ≠ 0 ∨ shown y ≠ s.data.toList) : ReadIs s ac0 3 := .inr (.inr ⟨h, fun x hx => by
  have e := dguess_back hx
  rw [hD] at e
  rcases hn x e with hn | hn
  · exact hn hx.1
  · exact hn (by rw [shown_0 hx.1]; exact hx.2), rfl, rfl⟩)
theorem plain_bd (l : List UInt8) : -2 ≤ plainV l ∧ plainV l ≤ 9999999999999 := by
  unfold plainV
  split
  · omega
  · rename_i h
    have h13 : l.length ≤ 13 := by
      rcases Nat.lt_or_ge 13 l.length with h' | h'
      · exact absurd (Or.inr (Or.inl h')) h
      · exact h'
    have had : allD l = true := by
      cases ha : allD l with
      | true => rfl
      | false => exact absurd (Or.inr (Or.inr (Or.inr ha))) h
    have := dv_lt l had
    have hp := Nat.pow_le_pow_right (n := 10) (by decide) h13
    omega

set_option maxHeartbeats 8000000 in
theorem rread (s : ByteArray) (w : World) (hshown : ∀ (y : Ac) (W : World), y.t.size ≤ 140737488354304 → Calls Tryd.prog 8 #[y.v] W fun e w' => e = .returned (.tuple #[.string (ba (shown y)), .int .i64 (err y)]) ∧ Below W.heap.size W w') : Calls Tryd.prog 10 #[.string s] w fun e w' => ReadPost w s e w' := by
  unfold ReadPost
  by_cases hs : 120 < s.size
  · have HRI : Hid (ReadIs s ac0 1) := .inl ⟨hs, rfl, rfl⟩
    have HZ0 : Hid (Blk (w.alloc (.cells #[.int .i64 0, .int .i64 0, .int .i64 0, .int .i64 0, .int .i64 0, .string ⟨#[]⟩, .int .i64 0] 23)) w.heap.size #[.int .i64 0, .int .i64 0, .int .i64 0, .int .i64 0, .int .i64 0, .string ⟨#[]⟩, .int .i64 0] 23) := Blk.new _ _ _
    have HB0 : Hid (Below w.heap.size w (w.alloc (.cells #[.int .i64 0, .int .i64 0, .int .i64 0, .int .i64 0, .int .i64 0, .string ⟨#[]⟩, .int .i64 0] 23))) := (Below.refl _ _).alloc (Nat.le_refl _) _
    have hd : decide ((120 : Int) < (s.size : Int)) = true := by simp; omega
    clear hs hshown
    go_enter Tryd.func10, Tryd.ntmps10
    go_upto_region 1 with fail
    generalize (w.alloc (.cells #[.int .i64 0, .int .i64 0, .int .i64 0, .int .i64 0, .int .i64 0, .string ⟨#[]⟩, .int .i64 0] 23)) = W0 at *
    go_wp2_with (first | (refine wp_letAll rfl 23 _ _ rfl w.heap.size rfl #[.int .i64 0, .int .i64 0, .int .i64 0, .int .i64 0, .int .i64 0, .string ⟨#[]⟩, .int .i64 0] rfl (by kernel_rfl) (by simp [Value.oneCell']) #[.int .i64 0, .int .i64 0, .int .i64 0, .int .i64 0, .int .i64 0, .string ⟨#[]⟩, .int .i64 0] 23 HZ0.out rfl ?_) | fail)
    intro WF hUF
    have HBF : Hid (Below w.heap.size w WF) := hUF.bel _ _ (Nat.le_refl _) HB0.out
    have R0 : Hid (WF.cell? ⟨w.heap.size, 0, none⟩ = some (.int .i64 0)) := hUF.blk.cell 0
    have R1 : Hid (WF.cell? ⟨w.heap.size, 1, none⟩ = some (.int .i64 0)) := hUF.blk.cell 1
    have R2 : Hid (WF.cell? ⟨w.heap.size, 2, none⟩ = some (.int .i64 0)) := hUF.blk.cell 2
    have R3 : Hid (WF.cell? ⟨w.heap.size, 3, none⟩ = some (.int .i64 0)) := hUF.blk.cell 3
    have R4 : Hid (WF.cell? ⟨w.heap.size, 4, none⟩ = some (.int .i64 0)) := hUF.blk.cell 4
    have R5 : Hid (WF.cell? ⟨w.heap.size, 5, none⟩ = some (.string ⟨#[]⟩)) := hUF.blk.cell 5
    have R6 : Hid (WF.cell? ⟨w.heap.size, 6, none⟩ = some (.int .i64 0)) := hUF.blk.cell 6
    clear hUF
    go_wp2_with fail
    exact bodyPost_ret (v := .tuple #[.agg #[.int .i64 0, .int .i64 0, .int .i64 0, .int .i64 0, .int .i64 0, .string ⟨#[]⟩, .int .i64 0], .int .i64 1]) (by simp [results, Tryd.results10, R0.out, R1.out, R2.out, R3.out, R4.out, R5.out, R6.out, go_sem]) rfl ⟨ac0, 1, rfl, HRI.out, HBF.out⟩
  · have hd : decide ((120 : Int) < (s.size : Int)) = false := by simp; omega
    have hl : s.data.toList.length = s.size := Array.length_toList
    have hs120 : s.size ≤ 120 := by omega
    have HSH : Hid (∀ (y : Ac) (W : World), y.t.size ≤ 140737488354304 → Calls Tryd.prog 8 #[y.v] W fun e w' => e = .returned (.tuple #[.string (ba (shown y)), .int .i64 (err y)]) ∧ Below W.heap.size W w') := hshown
    have HNX : Hid (∀ (f : Nat) W, f ≤ s.size → Calls Tryd.prog 21 #[.string s, .int .i64 (f : Int)] W fun e w' => e = .returned (.tuple #[.string (ba (cutB (s.data.toList.drop f)).1), .int .i64 (nextI s.data.toList f)]) ∧ w' = W) := fun f W h => rnext s f W h (by omega)
    have HPL : Hid (∀ (l : List UInt8) W, Calls Tryd.prog 22 #[.string (ba l)] W fun e w' => e = .returned (.int .i64 (plainV l)) ∧ w' = W) := fun l W => by have h := rplain (ba l) W; rw [ba_list] at h; exact h
    have HWD : Hid (∀ (k : Int) W, Calls Tryd.prog 16 #[.int .i64 k] W fun e w' => e = .returned (.tuple #[.string (ba (wd k)), .bool (hA k), .bool (hB k), .bool (hC k)]) ∧ w' = W) := rword
    have HZ0 : Hid (Blk ((w.alloc (.cells #[.int .i64 0, .int .i64 0, .int .i64 0, .int .i64 0, .int .i64 0, .string ⟨#[]⟩, .int .i64 0] 23)).alloc (.cells #[.int .i64 0, .int .i64 0, .int .i64 0, .int .i64 0, .int .i64 0, .string ⟨#[]⟩, .int .i64 (-1)] 23)) w.heap.size #[.int .i64 0, .int .i64 0, .int .i64 0, .int .i64 0, .int .i64 0, .string ⟨#[]⟩, .int .i64 0] 23) := (Blk.new _ _ _).alloc _
    have HX0 : Hid (Blk ((w.alloc (.cells #[.int .i64 0, .int .i64 0, .int .i64 0, .int .i64 0, .int .i64 0, .string ⟨#[]⟩, .int .i64 0] 23)).alloc (.cells #[.int .i64 0, .int .i64 0, .int .i64 0, .int .i64 0, .int .i64 0, .string ⟨#[]⟩, .int .i64 (-1)] 23)) (w.heap.size + 1) #[.int .i64 0, .int .i64 0, .int .i64 0, .int .i64 0, .int .i64 0, .string ⟨#[]⟩, .int .i64 (-1)] 23) := Blk.new1 _ _ _ _
    have HB0 : Hid (Below w.heap.size w ((w.alloc (.cells #[.int .i64 0, .int .i64 0, .int .i64 0, .int .i64 0, .int .i64 0, .string ⟨#[]⟩, .int .i64 0] 23)).alloc (.cells #[.int .i64 0, .int .i64 0, .int .i64 0, .int .i64 0, .int .i64 0, .string ⟨#[]⟩, .int .i64 (-1)] 23))) := ((Below.refl _ _).alloc (Nat.le_refl _) _).alloc (by simp) _
    have hs0 : w.heap.size + 2 ≤ (((w.alloc (.cells #[.int .i64 0, .int .i64 0, .int .i64 0, .int .i64 0, .int .i64 0, .string ⟨#[]⟩, .int .i64 0] 23)).alloc (.cells #[.int .i64 0, .int .i64 0, .int .i64 0, .int .i64 0, .int .i64 0, .string ⟨#[]⟩, .int .i64 (-1)] 23))).heap.size := by simp
    obtain ⟨D, hD⟩ : ∃ D, dguess s.data.toList = D := ⟨_, rfl⟩
    have HNO : Hid ((∀ y, D = some y → err y ≠ 0 ∨ shown y ≠ s.data.toList) → ReadIs s ac0 3) := read_noD hs120 hD
    have HYE : Hid (∀ y, err y = 0 → shown y = s.data.toList → ReadIs s y 0) := fun y => read_yes hs120
    have HPN : Hid (∀ f, f ≤ s.size → Place s.data.toList (nextI s.data.toList f) ∧ O s.data.toList (nextI s.data.toList f) = left (s.data.toList.drop f)) := fun f h => place_next s.data.toList f (by omega)
    have HN1 := HNX.out 0 ((w.alloc (.cells #[.int .i64 0, .int .i64 0, .int .i64 0, .int .i64 0, .int .i64 0, .string ⟨#[]⟩, .int .i64 0] 23)).alloc (.cells #[.int .i64 0, .int .i64 0, .int .i64 0, .int .i64 0, .int .i64 0, .string ⟨#[]⟩, .int .i64 (-1)] 23)) (Nat.zero_le _)
    have hnf := next_facts s.data.toList 0 (Nat.zero_le _)
    have HC1 : (cutB s.data.toList).1 = cutW ∧ (cutB s.data.toList).2.2 = true → D = if (cutB (cutB s.data.toList).2.1).2.2 = true then dBody (plainV (cutB (cutB s.data.toList).2.1).1) (cutB (cutB s.data.toList).2.1).2.1 else none := fun h => by rw [← hD]; unfold dguess; rw [if_pos h]
    have HC2 : ¬ ((cutB s.data.toList).1 = cutW ∧ (cutB s.data.toList).2.2 = true) → D = dBody (-1) s.data.toList := fun h => by rw [← hD]; unfold dguess; rw [if_neg h]
    clear hs hshown hD
    have hleft : left s.data.toList = if (cutB s.data.toList).2.2 = true then some (cutB s.data.toList).2.1 else none := rfl
    go_enter Tryd.func10, Tryd.ntmps10
    obtain ⟨S1, hS1⟩ : ∃ x, ba (cutB s.data.toList).1 = x := ⟨_, rfl⟩
    obtain ⟨T1, hT1⟩ : ∃ x, nextI s.data.toList 0 = x := ⟨_, rfl⟩
    have hS1l : S1.toList = (cutB s.data.toList).1 := by rw [← hS1, ls_eq, ba_list]
    rw [hT1] at hnf
    have HN1h : Hid (Calls Tryd.prog 21 #[.string s, .int .i64 0] ((w.alloc (.cells #[.int .i64 0, .int .i64 0, .int .i64 0, .int .i64 0, .int .i64 0, .string ⟨#[]⟩, .int .i64 0] 23)).alloc (.cells #[.int .i64 0, .int .i64 0, .int .i64 0, .int .i64 0, .int .i64 0, .string ⟨#[]⟩, .int .i64 (-1)] 23)) fun e w' => e = .returned (.tuple #[.string S1, .int .i64 T1]) ∧ w' = ((w.alloc (.cells #[.int .i64 0, .int .i64 0, .int .i64 0, .int .i64 0, .int .i64 0, .string ⟨#[]⟩, .int .i64 0] 23)).alloc (.cells #[.int .i64 0, .int .i64 0, .int .i64 0, .int .i64 0, .int .i64 0, .string ⟨#[]⟩, .int .i64 (-1)] 23))) := by
      have h := HN1
      rw [List.drop_zero, hS1, hT1] at h
      exact h
    clear HN1
    go_wp2_with fail
    refine HN1h.out.mono ?_
    rintro e W1 ⟨rfl, rfl⟩
    clear HN1h
    go_upto_region 6 with fail
    generalize ((w.alloc (.cells #[.int .i64 0, .int .i64 0, .int .i64 0, .int .i64 0, .int .i64 0, .string ⟨#[]⟩, .int .i64 0] 23)).alloc (.cells #[.int .i64 0, .int .i64 0, .int .i64 0, .int .i64 0, .int .i64 0, .string ⟨#[]⟩, .int .i64 (-1)] 23)) = W0 at *
    obtain ⟨B, hB⟩ : ∃ B : Bool, (B = true ↔ ((cutB s.data.toList).1 = cutW ∧ (cutB s.data.toList).2.2 = true)) := ⟨decide _, decide_eq_true_iff⟩
    go_cut [40] (fun v40 wc => wc = W0 ∧ v40 = .bool B)
    case first =>
      clear HYE HSH HWD HPN HNX HPL HNO HC1 HC2 HX0 HZ0 HB0
      by_cases hw : (cutB s.data.toList).1 = cutW
      · have hq1 : (S1.toList == [99, 117, 116]) = true := by rw [hS1l, hw]; rfl
        rcases hnf with ⟨hn, h2⟩ | ⟨t0, hn, htp, htl, h4⟩
        · have hBf : B = false := by
            cases B with
            | false => rfl
            | true => have h := (hB.1 rfl).2; rw [List.drop_zero, hleft, h] at h2; cases h2
          have hq2 : decide ((0 : Int) < T1) = false := by rw [hn]; decide
          have HBf : Hid (B = false) := hBf
          clear hB hBf h2 hw hleft hn hS1 hT1 hS1l
          go_wp2_with fail
          go_meet
          case rel => exact ⟨by first | rfl | trivial, by first | (rw [HBf.out]; done) | (rw [HBf.out]; rfl)⟩
        · have hBt : B = true := hB.2 ⟨hw, by
            rw [List.drop_zero, hleft] at h4
            cases hx : (cutB s.data.toList).2.2 with
            | true => rfl
            | false => rw [hx] at h4; cases h4⟩
          have hq2 : decide ((0 : Int) < T1) = true := by rw [hn]; simp; omega
          have HBt : Hid (B = true) := hBt
          clear hB hBt h4 hw hleft hn hS1 hT1 hS1l
          go_wp2_with fail
          go_meet
          case rel => exact ⟨by first | rfl | trivial, by first | (rw [HBt.out]; done) | (rw [HBt.out]; rfl)⟩
      · have hBf : B = false := by
          cases B with
          | false => rfl
          | true => exact absurd (hB.1 rfl).1 hw
        have hq1 : (S1.toList == [99, 117, 116]) = false := by rw [hS1l, beq_eq_false_iff_ne]; exact hw
        have HBf : Hid (B = false) := hBf
        clear hB hBf hw hleft hnf hS1 hT1 hS1l
        go_wp2_with fail
        all_goals first
          | (rename_i q1 q2; exact absurd q1 (by simp [undef]))
          | (go_meet; case rel => exact ⟨by first | rfl | trivial, by first | (rw [HBf.out]; done) | (rw [HBf.out]; rfl)⟩)
    case rest =>
    obtain ⟨hw1, rfl⟩ := hcut
    replace hw1 := hw1.symm
    subst hw1
    go_upto_if 40 with fail
    go_cut [5, 6, 7] (fun v5 v6 v7 wc => ∃ (C : Int) (f : Nat), f ≤ s.size ∧ v6 = .string (ba (cutB (s.data.toList.drop f)).1) ∧ v7 = .int .i64 (nextI s.data.toList f) ∧ D = dBody C (s.data.toList.drop f) ∧ Blk wc (w.heap.size + 1) #[.int .i64 0, .int .i64 0, .int .i64 0, .int .i64 0, .int .i64 0, .string ⟨#[]⟩, .int .i64 C] 23 ∧ Blk wc w.heap.size #[.int .i64 0, .int .i64 0, .int .i64 0, .int .i64 0, .int .i64 0, .string ⟨#[]⟩, .int .i64 0] 23 ∧ Below w.heap.size w wc ∧ w.heap.size + 2 ≤ wc.heap.size)
    case first =>
      clear HYE HSH HWD HPN
      cases B with
      | true =>
        have hcase := hB.1 rfl
        have hDc := HC1 hcase
        obtain ⟨hw, hfd⟩ := hcase
        rw [hfd, if_pos rfl] at hleft
        rcases hnf with ⟨_, h2⟩ | ⟨t0, ht0, htp, htl, h4⟩
        · rw [List.drop_zero, hleft] at h2; cases h2
        · rw [List.drop_zero, hleft] at h4
          have hrest : (cutB s.data.toList).2.1 = s.data.toList.drop t0 := Option.some.inj h4
          rw [hrest] at hDc
          obtain ⟨S2, hS2⟩ : ∃ x, ba (cutB (s.data.toList.drop t0)).1 = x := ⟨_, rfl⟩
          obtain ⟨T2, hT2⟩ : ∃ x, nextI s.data.toList t0 = x := ⟨_, rfl⟩
          obtain ⟨C, hC⟩ : ∃ C, plainV (cutB (s.data.toList.drop t0)).1 = C := ⟨_, rfl⟩
          have HN2 : Hid (∀ W, Calls Tryd.prog 21 #[.string s, .int .i64 T1] W fun e w' => e = .returned (.tuple #[.string S2, .int .i64 T2]) ∧ w' = W) := fun W => by
            have h := HNX.out t0 W (by omega)
            rw [hS2, hT2, ← ht0] at h
            exact h
          have HP2 : Hid (∀ W, Calls Tryd.prog 22 #[.string S2] W fun e w' => e = .returned (.int .i64 C) ∧ w' = W) := fun W => by
            have h := HPL.out (cutB (s.data.toList.drop t0)).1 W
            rw [hS2, hC] at h
            exact h
          have hnf2 := next_facts s.data.toList t0 htl
          have hleft2 : left (s.data.toList.drop t0) = if (cutB (s.data.toList.drop t0)).2.2 = true then some (cutB (s.data.toList.drop t0)).2.1 else none := rfl
          rw [hC] at hDc
          rw [hT2] at hnf2
          clear HC1 HC2 hleft hw hfd h4 hrest ht0 hB hS1 hT1 hS1l hC hS2
          go_wp2_with fail
          refine (HN2.out _).mono ?_
          rintro e W1 ⟨rfl, rfl⟩
          go_wp2_with fail
          refine (HP2.out _).mono ?_
          rintro e W1 ⟨rfl, rfl⟩
          clear HN2 HP2
          have c6 : W1.cell? ⟨w.heap.size + 1, 6, none⟩ = some (.int .i64 (-1)) := HX0.out.cell 6
          have f6 : W1.frozen? ⟨w.heap.size + 1, 6, none⟩ = false := HX0.out.free 6
          have HX : Hid (Blk (W1.setCell ⟨w.heap.size + 1, 6, none⟩ (.int .i64 C)) (w.heap.size + 1) #[.int .i64 0, .int .i64 0, .int .i64 0, .int .i64 0, .int .i64 0, .string ⟨#[]⟩, .int .i64 C] 23) := HX0.out.set 6 _
          have HZ : Hid (Blk (W1.setCell ⟨w.heap.size + 1, 6, none⟩ (.int .i64 C)) w.heap.size #[.int .i64 0, .int .i64 0, .int .i64 0, .int .i64 0, .int .i64 0, .string ⟨#[]⟩, .int .i64 0] 23) := HZ0.out.other _ _ (by omega)
          have HB : Hid (Below w.heap.size w (W1.setCell ⟨w.heap.size + 1, 6, none⟩ (.int .i64 C))) := bel_set HB0.out _ _ _ (by omega)
          have hsz : w.heap.size + 2 ≤ (W1.setCell ⟨w.heap.size + 1, 6, none⟩ (.int .i64 C)).heap.size := by simp [World.setCell]; omega
          clear HZ0 HX0 HB0 hs0
          rcases hnf2 with ⟨hn2, h2⟩ | ⟨f, hn2, hfp, hfl, h2⟩
          · have hq3 : T2 < 0 := by omega
            have hDn : D = none := by
              rw [hleft2] at h2
              rw [hDc]
              cases hx : (cutB (s.data.toList.drop t0)).2.2 with
              | true => rw [hx, if_pos rfl] at h2; cases h2
              | false => rfl
            have HRI : Hid (ReadIs s ac0 3) := HNO.out (fun y hy => by rw [hDn] at hy; cases hy)
            clear hDn hDc hleft2 h2 hn2 hT2 HNO HX HNX HPL
            go_upto_region 10 with fail
            clear c6 f6
            generalize W1.setCell ⟨w.heap.size + 1, 6, none⟩ (.int .i64 C) = WC at *
            go_wp2_with (first | (refine wp_letAll rfl 23 _ _ rfl w.heap.size rfl #[.int .i64 0, .int .i64 0, .int .i64 0, .int .i64 0, .int .i64 0, .string ⟨#[]⟩, .int .i64 0] rfl (by kernel_rfl) (by simp [Value.oneCell']) #[.int .i64 0, .int .i64 0, .int .i64 0, .int .i64 0, .int .i64 0, .string ⟨#[]⟩, .int .i64 0] 23 HZ.out rfl ?_) | fail)
            intro WF hUF
            have HBF : Hid (Below w.heap.size w WF) := hUF.bel _ _ (Nat.le_refl _) HB.out
            have R0 : Hid (WF.cell? ⟨w.heap.size, 0, none⟩ = some (.int .i64 0)) := hUF.blk.cell 0
            have R1 : Hid (WF.cell? ⟨w.heap.size, 1, none⟩ = some (.int .i64 0)) := hUF.blk.cell 1
            have R2 : Hid (WF.cell? ⟨w.heap.size, 2, none⟩ = some (.int .i64 0)) := hUF.blk.cell 2
            have R3 : Hid (WF.cell? ⟨w.heap.size, 3, none⟩ = some (.int .i64 0)) := hUF.blk.cell 3
            have R4 : Hid (WF.cell? ⟨w.heap.size, 4, none⟩ = some (.int .i64 0)) := hUF.blk.cell 4
            have R5 : Hid (WF.cell? ⟨w.heap.size, 5, none⟩ = some (.string ⟨#[]⟩)) := hUF.blk.cell 5
            have R6 : Hid (WF.cell? ⟨w.heap.size, 6, none⟩ = some (.int .i64 0)) := hUF.blk.cell 6
            clear hUF
            go_wp2_with fail
            exact bodyPost_ret (v := .tuple #[.agg #[.int .i64 0, .int .i64 0, .int .i64 0, .int .i64 0, .int .i64 0, .string ⟨#[]⟩, .int .i64 0], .int .i64 3]) (by simp [results, Tryd.results10, R0.out, R1.out, R2.out, R3.out, R4.out, R5.out, R6.out, go_sem]) rfl ⟨ac0, 3, rfl, HRI.out, HBF.out⟩
          · have hq3 : ¬ T2 < 0 := by omega
            have hG : D = dBody C (s.data.toList.drop f) := by
              rw [hleft2] at h2
              rw [hDc]
              cases hx : (cutB (s.data.toList.drop t0)).2.2 with
              | false => rw [hx] at h2; cases h2
              | true => rw [hx, if_pos rfl] at h2; rw [if_pos rfl, Option.some.inj h2]
            have hfs : f ≤ s.size := by omega
            have HN3 : Hid (∀ W, Calls Tryd.prog 21 #[.string s, .int .i64 T2] W fun e w' => e = .returned (.tuple #[.string (ba (cutB (s.data.toList.drop f)).1), .int .i64 (nextI s.data.toList f)]) ∧ w' = W) := fun W => by rw [hn2]; exact HNX.out f W hfs
            clear hDc hleft2 h2 hn2 hT2
            go_upto_region 11 with fail
            clear c6 f6
            generalize W1.setCell ⟨w.heap.size + 1, 6, none⟩ (.int .i64 C) = WC at *
            go_wp2_with fail
            refine (HN3.out _).mono ?_
            rintro e W2 ⟨rfl, rfl⟩
            clear HN3
            go_wp2_with fail
            go_meet
            case rel => exact ⟨C, f, hfs, rfl, rfl, hG, HX.out, HZ.out, HB.out, hsz⟩
      | false =>
        have hG : D = dBody (-1) (s.data.toList.drop 0) := HC2 (fun h => by have := hB.2 h; cases this)
        have hfs : 0 ≤ s.size := Nat.zero_le _
        have HS1 : Hid (S1 = ba (cutB (s.data.toList.drop 0)).1) := hS1.symm
        have HT1 : Hid (T1 = nextI s.data.toList 0) := hT1.symm
        clear HC1 HC2 hnf hleft hB hS1 hT1 hS1l
        go_wp2_with fail
        go_meet
        case rel => exact ⟨-1, 0, hfs, by rw [HS1.out], by rw [HT1.out], hG, HX0.out, HZ0.out, HB0.out, hs0⟩
    case rest =>
    obtain ⟨C, f, hfs, rfl, rfl, hG, hxb0, hzb0, hbl0, hsz⟩ := hcut
    have HX : Hid (Blk wc (w.heap.size + 1) #[.int .i64 0, .int .i64 0, .int .i64 0, .int .i64 0, .int .i64 0, .string ⟨#[]⟩, .int .i64 C] 23) := hxb0
    have HZ : Hid (Blk wc w.heap.size #[.int .i64 0, .int .i64 0, .int .i64 0, .int .i64 0, .int .i64 0, .string ⟨#[]⟩, .int .i64 0] 23) := hzb0
    have HB : Hid (Below w.heap.size w wc) := hbl0
    clear hxb0 hzb0 hbl0 HX0 HZ0 HB0 hs0 HC1 HC2 hnf hleft hB hS1 hT1 hS1l
    have hpn := HPN.out f hfs
    obtain ⟨wo, hwo⟩ : ∃ x, (cutB (s.data.toList.drop f)).1 = x := ⟨_, rfl⟩
    obtain ⟨T0, hT0⟩ : ∃ x, nextI s.data.toList f = x := ⟨_, rfl⟩
    rw [dBody_eq, ← hpn.2, hwo, hT0] at hG
    rw [hwo, hT0]
    rw [hT0] at hpn
    obtain ⟨hpl0, _⟩ := hpn
    have hkr := kindL_range wo
    have HKI : Hid (∀ i : Int, 1 ≤ i → i ≤ 7 → (wd i = wo ↔ kindL wo = i)) := fun i a b => kindL_iff wo i a b
    obtain ⟨K, hK⟩ : ∃ K, kindL wo = K := ⟨_, rfl⟩
    rw [hK] at hkr HKI hG
    have HPl0 : Hid (Place s.data.toList T0) := hpl0
    have HG : Hid (D = c0 K (hA K) (hB K) (hC K) C (O s.data.toList T0)) := hG
    obtain ⟨S2, hS2⟩ : ∃ S2, ba wo = S2 := ⟨_, rfl⟩
    have HW2 : Hid (S2.toList = wo) := by show _ = _; rw [← hS2, ls_eq, ba_list]
    rw [hS2]
    clear hG hwo hT0 hK hpl0 hS2
    go_wp2_with fail
    go_loopw [10] (fun v wr => ∃ i : Int, 1 ≤ i ∧ i ≤ 8 ∧ v = .int .i64 i ∧ Blk wr (w.heap.size + 1) #[.int .i64 (kl K i), .int .i64 0, .int .i64 0, .int .i64 0, .int .i64 0, .string ⟨#[]⟩, .int .i64 C] 23 ∧ Blk wr w.heap.size #[.int .i64 0, .int .i64 0, .int .i64 0, .int .i64 0, .int .i64 0, .string ⟨#[]⟩, .int .i64 0] 23 ∧ Below w.heap.size w wr ∧ w.heap.size + 2 ≤ wr.heap.size) (fun v _ => (8 - intOf v).toNat)
    case atStart => exact ⟨1, by decide, by decide, rfl, by rw [show kl K 1 = 0 by unfold kl; split <;> omega]; exact HX.out, HZ.out, HB.out, hsz⟩
    case round =>
      obtain ⟨i, hi1, hi8, rfl, hxb, hzb, hbl, hsr⟩ := hrel
      have HXi : Hid (Blk wr (w.heap.size + 1) #[.int .i64 (kl K i), .int .i64 0, .int .i64 0, .int .i64 0, .int .i64 0, .string ⟨#[]⟩, .int .i64 C] 23) := hxb
      have HZi : Hid (Blk wr w.heap.size #[.int .i64 0, .int .i64 0, .int .i64 0, .int .i64 0, .int .i64 0, .string ⟨#[]⟩, .int .i64 0] 23) := hzb
      have HBi : Hid (Below w.heap.size w wr) := hbl
      clear hxb hzb hbl HX HZ HB hsz
      by_cases h7 : i ≤ 7
      · have HWi : Hid (∀ W, Calls Tryd.prog 16 #[.int .i64 i] W fun e w' => e = .returned (.tuple #[.string (ba (wd i)), .bool (hA i), .bool (hB i), .bool (hC i)]) ∧ w' = W) := fun W => HWD.out i W
        have hki := HKI.out i hi1 h7
        by_cases hwi : wd i = wo
        · have hKi : K = i := hki.1 hwi
          have hq : ((ba (wd i)).toList == S2.toList) = true := by rw [HW2.out, ls_eq, ba_list, hwi]; exact beq_self_eq_true _
          have c0 : wr.cell? ⟨w.heap.size + 1, 0, none⟩ = some (.int .i64 (kl K i)) := HXi.out.cell 0
          have f0 : wr.frozen? ⟨w.heap.size + 1, 0, none⟩ = false := HXi.out.free 0
          have HX2 : Hid (Blk (wr.setCell ⟨w.heap.size + 1, 0, none⟩ (.int .i64 i)) (w.heap.size + 1) #[.int .i64 (kl K (i + 1)), .int .i64 0, .int .i64 0, .int .i64 0, .int .i64 0, .string ⟨#[]⟩, .int .i64 C] 23) := by
            have e : kl K (i + 1) = i := by unfold kl; rw [hKi, if_pos (by omega)]
            show Blk _ _ _ _
            rw [e]
            exact HXi.out.set 0 _
          have HZ2 : Hid (Blk (wr.setCell ⟨w.heap.size + 1, 0, none⟩ (.int .i64 i)) w.heap.size #[.int .i64 0, .int .i64 0, .int .i64 0, .int .i64 0, .int .i64 0, .string ⟨#[]⟩, .int .i64 0] 23) := HZi.out.other _ _ (by omega)
          have HB2 : Hid (Below w.heap.size w (wr.setCell ⟨w.heap.size + 1, 0, none⟩ (.int .i64 i))) := bel_set HBi.out _ _ _ (by omega)
          have hs2 : w.heap.size + 2 ≤ (wr.setCell ⟨w.heap.size + 1, 0, none⟩ (.int .i64 i)).heap.size := by simp [World.setCell]; omega
          clear HXi HZi HBi hki hwi hKi
          go_wp2_with fail
          refine (HWi.out _).mono ?_
          rintro e W2 ⟨rfl, rfl⟩
          generalize ba (wd i) = S1 at *
          go_wp2_with fail
          go_roundw
          case rel => exact ⟨i + 1, by omega, by omega, by go_num, HX2.out, HZ2.out, HB2.out, hs2⟩
          case measure => simp [intOf]; omega
        · have hKi : K ≠ i := fun h => hwi (hki.2 h)
          have hq : ((ba (wd i)).toList == S2.toList) = false := by
            rw [HW2.out, ls_eq, ba_list, beq_eq_false_iff_ne]; exact hwi
          have HX2 : Hid (Blk wr (w.heap.size + 1) #[.int .i64 (kl K (i + 1)), .int .i64 0, .int .i64 0, .int .i64 0, .int .i64 0, .string ⟨#[]⟩, .int .i64 C] 23) := by
            have e : kl K (i + 1) = kl K i := by
              unfold kl
              by_cases h : K < i
              · rw [if_pos h, if_pos (by omega)]
              · rw [if_neg h, if_neg (by omega)]
            show Blk _ _ _ _
            rw [e]
            exact HXi.out
          clear HXi hki hwi hKi
          go_wp2_with fail
          refine (HWi.out _).mono ?_
          rintro e W2 ⟨rfl, rfl⟩
          generalize ba (wd i) = S1 at *
          go_wp2_with fail
          go_roundw
          case rel => exact ⟨i + 1, by omega, by omega, by go_num, HX2.out, HZi.out, HBi.out, hsr⟩
          case measure => simp [intOf]; omega
      · have hi : i = 8 := by omega
        have HXk : Hid (Blk wr (w.heap.size + 1) #[.int .i64 K, .int .i64 0, .int .i64 0, .int .i64 0, .int .i64 0, .string ⟨#[]⟩, .int .i64 C] 23) := by
          have h := HXi.out
          rw [hi, show kl K 8 = K by unfold kl; rw [if_pos (by omega)]] at h
          exact h
        have x0 : wr.cell? ⟨w.heap.size + 1, 0, none⟩ = some (.int .i64 K) := HXk.out.cell 0
        have HWK : Hid (∀ W, Calls Tryd.prog 16 #[.int .i64 K] W fun e w' => e = .returned (.tuple #[.string (ba (wd K)), .bool (hA K), .bool (hB K), .bool (hC K)]) ∧ w' = W) := fun W => HWD.out K W
        have hk6 : (K == 6) = hT K := rfl
        clear HXi HKI HWD
        go_wp2_with fail
        refine (HWK.out _).mono ?_
        rintro e W2 ⟨rfl, rfl⟩
        generalize hA K = ha at *
        generalize hB K = hb at *
        generalize hC K = hc at *
        generalize ba (wd K) = fs at *
        clear HWK x0
        have HS3 : Hid (Blk ((W2.alloc (.cells #[.bool true, .bool ha, .bool hb, .bool hc] 4)).alloc (.cells #[.int .i64 0, .int .i64 0, .int .i64 0, .int .i64 0] 51)) W2.heap.size #[.bool true, .bool ha, .bool hb, .bool hc] 4) := (Blk.new _ _ _).alloc _
        have HA3 : Hid (Blk ((W2.alloc (.cells #[.bool true, .bool ha, .bool hb, .bool hc] 4)).alloc (.cells #[.int .i64 0, .int .i64 0, .int .i64 0, .int .i64 0] 51)) (W2.heap.size + 1) #[.int .i64 0, .int .i64 0, .int .i64 0, .int .i64 0] 51) := Blk.new1 _ _ _ _
        have HX3 : Hid (Blk ((W2.alloc (.cells #[.bool true, .bool ha, .bool hb, .bool hc] 4)).alloc (.cells #[.int .i64 0, .int .i64 0, .int .i64 0, .int .i64 0] 51)) (w.heap.size + 1) #[.int .i64 K, .int .i64 0, .int .i64 0, .int .i64 0, .int .i64 0, .string ⟨#[]⟩, .int .i64 C] 23) := (HXk.out.alloc _).alloc _
        have HZ3 : Hid (Blk ((W2.alloc (.cells #[.bool true, .bool ha, .bool hb, .bool hc] 4)).alloc (.cells #[.int .i64 0, .int .i64 0, .int .i64 0, .int .i64 0] 51)) w.heap.size #[.int .i64 0, .int .i64 0, .int .i64 0, .int .i64 0, .int .i64 0, .string ⟨#[]⟩, .int .i64 0] 23) := (HZi.out.alloc _).alloc _
        have HB3 : Hid (Below w.heap.size w ((W2.alloc (.cells #[.bool true, .bool ha, .bool hb, .bool hc] 4)).alloc (.cells #[.int .i64 0, .int .i64 0, .int .i64 0, .int .i64 0] 51))) := (HBi.out.alloc HBi.out.size _).alloc (by have := HBi.out.size; simp; omega) _
        have hg3 : W2.heap.size + 2 ≤ ((W2.alloc (.cells #[.bool true, .bool ha, .bool hb, .bool hc] 4)).alloc (.cells #[.int .i64 0, .int .i64 0, .int .i64 0, .int .i64 0] 51)).heap.size := by simp
        clear HXk HZi HBi
        go_upto_region 22 with fail
        generalize (W2.alloc (.cells #[.bool true, .bool ha, .bool hb, .bool hc] 4)).alloc (.cells #[.int .i64 0, .int .i64 0, .int .i64 0, .int .i64 0] 51) = W3 at *
        generalize W2.heap.size = g at *
        go_wp2_with fail
        go_loopw [7, 21] (fun v7 v21 wr => ∃ (i : Nat) (T n0 n1 n2 n3 : Int), i ≤ 4 ∧ v21 = .int .i64 (i : Int) ∧ v7 = .int .i64 T ∧ Place s.data.toList T ∧ InvR D K ha hb hc C s.data.toList n0 n1 n2 n3 T i ∧ Blk wr (g + 1) #[.int .i64 n0, .int .i64 n1, .int .i64 n2, .int .i64 n3] 51 ∧ Blk wr g #[.bool true, .bool ha, .bool hb, .bool hc] 4 ∧ Blk wr (w.heap.size + 1) #[.int .i64 K, .int .i64 0, .int .i64 0, .int .i64 0, .int .i64 0, .string ⟨#[]⟩, .int .i64 C] 23 ∧ Blk wr w.heap.size #[.int .i64 0, .int .i64 0, .int .i64 0, .int .i64 0, .int .i64 0, .string ⟨#[]⟩, .int .i64 0] 23 ∧ Below w.heap.size w wr) (fun _ v _ => 4 - (intOf v).toNat)
        case atStart => exact ⟨0, T0, 0, 0, 0, 0, by decide, rfl, rfl, HPl0.out, ⟨HG.out, rfl, rfl, rfl, rfl⟩, HA3.out, HS3.out, HX3.out, HZ3.out, HB3.out⟩
        case round =>
          obtain ⟨i, T, n0, n1, n2, n3, hi, rfl, rfl, hpl, hinv, hab, hsb, hxb, hzb, hbl⟩ := hrel
          have HAi : Hid (Blk wr (g + 1) #[.int .i64 n0, .int .i64 n1, .int .i64 n2, .int .i64 n3] 51) := hab
          have HSi : Hid (Blk wr g #[.bool true, .bool ha, .bool hb, .bool hc] 4) := hsb
          have HXj : Hid (Blk wr (w.heap.size + 1) #[.int .i64 K, .int .i64 0, .int .i64 0, .int .i64 0, .int .i64 0, .string ⟨#[]⟩, .int .i64 C] 23) := hxb
          have HZj : Hid (Blk wr w.heap.size #[.int .i64 0, .int .i64 0, .int .i64 0, .int .i64 0, .int .i64 0, .string ⟨#[]⟩, .int .i64 0] 23) := hzb
          have HBj : Hid (Below w.heap.size w wr) := hbl
          clear hab hsb hxb hzb hbl HA3 HS3 HX3 HZ3 HB3 HG HPl0
          have hi5 : i = 0 ∨ i = 1 ∨ i = 2 ∨ i = 3 ∨ i = 4 := by omega
          rcases hi5 with rfl | rfl | rfl | rfl | rfl
          · have ci : wr.cell? ⟨g, 0, none⟩ = some (.bool true) := HSi.out.cell 0
            rcases hpl with rfl | ⟨p, rfl, hp⟩
            · have hDn : D = none := by obtain ⟨h, _⟩ := hinv; rw [h]; rfl
              have HRI : Hid (ReadIs s ac0 3) := HNO.out (fun y hy => by rw [hDn] at hy; cases hy)
              clear hDn hinv HNO HYE HSH HNX HPL HPN HXj HAi HSi
              go_wp2_with (first | (refine wp_letAll rfl 23 _ _ rfl w.heap.size rfl #[.int .i64 0, .int .i64 0, .int .i64 0, .int .i64 0, .int .i64 0, .string ⟨#[]⟩, .int .i64 0] rfl (by kernel_rfl) (by simp [Value.oneCell']) #[.int .i64 0, .int .i64 0, .int .i64 0, .int .i64 0, .int .i64 0, .string ⟨#[]⟩, .int .i64 0] 23 HZj.out rfl ?_) | fail)
              intro WF hUF
              have HBF : Hid (Below w.heap.size w WF) := hUF.bel _ _ (Nat.le_refl _) HBj.out
              have R0 : Hid (WF.cell? ⟨w.heap.size, 0, none⟩ = some (.int .i64 0)) := hUF.blk.cell 0
              have R1 : Hid (WF.cell? ⟨w.heap.size, 1, none⟩ = some (.int .i64 0)) := hUF.blk.cell 1
              have R2 : Hid (WF.cell? ⟨w.heap.size, 2, none⟩ = some (.int .i64 0)) := hUF.blk.cell 2
              have R3 : Hid (WF.cell? ⟨w.heap.size, 3, none⟩ = some (.int .i64 0)) := hUF.blk.cell 3
              have R4 : Hid (WF.cell? ⟨w.heap.size, 4, none⟩ = some (.int .i64 0)) := hUF.blk.cell 4
              have R5 : Hid (WF.cell? ⟨w.heap.size, 5, none⟩ = some (.string ⟨#[]⟩)) := hUF.blk.cell 5
              have R6 : Hid (WF.cell? ⟨w.heap.size, 6, none⟩ = some (.int .i64 0)) := hUF.blk.cell 6
              clear hUF
              go_wp2_with fail
              exact bodyPost_ret (v := .tuple #[.agg #[.int .i64 0, .int .i64 0, .int .i64 0, .int .i64 0, .int .i64 0, .string ⟨#[]⟩, .int .i64 0], .int .i64 3]) (by simp [results, Tryd.results10, R0.out, R1.out, R2.out, R3.out, R4.out, R5.out, R6.out, go_sem]) rfl ⟨ac0, 3, rfl, HRI.out, HBF.out⟩
            · have hps : p ≤ s.size := by omega
              have HNp : Hid (Calls Tryd.prog 21 #[.string s, .int .i64 (p : Int)] wr fun e w' => e = .returned (.tuple #[.string (ba (cutB (s.data.toList.drop p)).1), .int .i64 (nextI s.data.toList p)]) ∧ w' = wr) := HNX.out p wr hps
              have HPp : Hid (Calls Tryd.prog 22 #[.string (ba (cutB (s.data.toList.drop p)).1)] wr fun e w' => e = .returned (.int .i64 (plainV (cutB (s.data.toList.drop p)).1)) ∧ w' = wr) := HPL.out _ wr
              have hpp := (HPN.out p hps).1
              have hst := dstep_at s.data.toList p hp
              have cz : wr.cell? ⟨g + 1, 0, none⟩ = some (.int .i64 n0) := HAi.out.cell 0
              have fz : wr.frozen? ⟨g + 1, 0, none⟩ = false := HAi.out.free 0
              generalize plainV (cutB (s.data.toList.drop p)).1 = m at *
              generalize nextI s.data.toList p = T' at *
              generalize ba (cutB (s.data.toList.drop p)).1 = S1 at *
              have HIN2 : Hid (InvR D K ha hb hc C s.data.toList m n1 n2 n3 T' 1) := by
                obtain ⟨h0, h1⟩ := hinv
                unfold c0 at h0
                rw [hst] at h0
                exact ⟨h0, h1.2⟩
              have HPl2 : Hid (Place s.data.toList T') := hpp
              have HA2 : Hid (Blk (wr.setCell ⟨g + 1, 0, none⟩ (.int .i64 m)) (g + 1) #[.int .i64 m, .int .i64 n1, .int .i64 n2, .int .i64 n3] 51) := HAi.out.set 0 _
              have HS2 : Hid (Blk (wr.setCell ⟨g + 1, 0, none⟩ (.int .i64 m)) g #[.bool true, .bool ha, .bool hb, .bool hc] 4) := HSi.out.other _ _ (by omega)
              have HX2 : Hid (Blk (wr.setCell ⟨g + 1, 0, none⟩ (.int .i64 m)) (w.heap.size + 1) #[.int .i64 K, .int .i64 0, .int .i64 0, .int .i64 0, .int .i64 0, .string ⟨#[]⟩, .int .i64 C] 23) := HXj.out.other _ _ (by omega)
              have HZ2 : Hid (Blk (wr.setCell ⟨g + 1, 0, none⟩ (.int .i64 m)) w.heap.size #[.int .i64 0, .int .i64 0, .int .i64 0, .int .i64 0, .int .i64 0, .string ⟨#[]⟩, .int .i64 0] 23) := HZj.out.other _ _ (by omega)
              have HB2 : Hid (Below w.heap.size w (wr.setCell ⟨g + 1, 0, none⟩ (.int .i64 m))) := bel_set HBj.out _ _ _ (by omega)
              clear hinv hst hpp HAi HSi HXj HZj HBj
              go_wp2_with fail
              refine HNp.out.mono ?_
              rintro e W4 ⟨rfl, rfl⟩
              go_wp2_with fail
              refine HPp.out.mono ?_
              rintro e W5 ⟨rfl, rfl⟩
              clear HNp HPp
              go_wp2_with fail
              go_roundw
              case rel => exact ⟨1, T', m, n1, n2, n3, by decide, rfl, rfl, HPl2.out, HIN2.out, HA2.out, HS2.out, HX2.out, HZ2.out, HB2.out⟩
              case measure => decide
          · cases ha with
            | true =>
              have ci : wr.cell? ⟨g, 1, none⟩ = some (.bool true) := HSi.out.cell 1
              rcases hpl with rfl | ⟨p, rfl, hp⟩
              · have hDn : D = none := by obtain ⟨h, _⟩ := hinv; rw [h]; rfl
                have HRI : Hid (ReadIs s ac0 3) := HNO.out (fun y hy => by rw [hDn] at hy; cases hy)
                clear hDn hinv HNO HYE HSH HNX HPL HPN HXj HAi HSi
                go_wp2_with (first | (refine wp_letAll rfl 23 _ _ rfl w.heap.size rfl #[.int .i64 0, .int .i64 0, .int .i64 0, .int .i64 0, .int .i64 0, .string ⟨#[]⟩, .int .i64 0] rfl (by kernel_rfl) (by simp [Value.oneCell']) #[.int .i64 0, .int .i64 0, .int .i64 0, .int .i64 0, .int .i64 0, .string ⟨#[]⟩, .int .i64 0] 23 HZj.out rfl ?_) | fail)
                intro WF hUF
                have HBF : Hid (Below w.heap.size w WF) := hUF.bel _ _ (Nat.le_refl _) HBj.out
                have R0 : Hid (WF.cell? ⟨w.heap.size, 0, none⟩ = some (.int .i64 0)) := hUF.blk.cell 0
                have R1 : Hid (WF.cell? ⟨w.heap.size, 1, none⟩ = some (.int .i64 0)) := hUF.blk.cell 1
                have R2 : Hid (WF.cell? ⟨w.heap.size, 2, none⟩ = some (.int .i64 0)) := hUF.blk.cell 2
                have R3 : Hid (WF.cell? ⟨w.heap.size, 3, none⟩ = some (.int .i64 0)) := hUF.blk.cell 3
                have R4 : Hid (WF.cell? ⟨w.heap.size, 4, none⟩ = some (.int .i64 0)) := hUF.blk.cell 4
                have R5 : Hid (WF.cell? ⟨w.heap.size, 5, none⟩ = some (.string ⟨#[]⟩)) := hUF.blk.cell 5
                have R6 : Hid (WF.cell? ⟨w.heap.size, 6, none⟩ = some (.int .i64 0)) := hUF.blk.cell 6
                clear hUF
                go_wp2_with fail
                exact bodyPost_ret (v := .tuple #[.agg #[.int .i64 0, .int .i64 0, .int .i64 0, .int .i64 0, .int .i64 0, .string ⟨#[]⟩, .int .i64 0], .int .i64 3]) (by simp [results, Tryd.results10, R0.out, R1.out, R2.out, R3.out, R4.out, R5.out, R6.out, go_sem]) rfl ⟨ac0, 3, rfl, HRI.out, HBF.out⟩
              · have hps : p ≤ s.size := by omega
                have HNp : Hid (Calls Tryd.prog 21 #[.string s, .int .i64 (p : Int)] wr fun e w' => e = .returned (.tuple #[.string (ba (cutB (s.data.toList.drop p)).1), .int .i64 (nextI s.data.toList p)]) ∧ w' = wr) := HNX.out p wr hps
                have HPp : Hid (Calls Tryd.prog 22 #[.string (ba (cutB (s.data.toList.drop p)).1)] wr fun e w' => e = .returned (.int .i64 (plainV (cutB (s.data.toList.drop p)).1)) ∧ w' = wr) := HPL.out _ wr
                have hpp := (HPN.out p hps).1
                have hst := dstep_at s.data.toList p hp
                have cz : wr.cell? ⟨g + 1, 1, none⟩ = some (.int .i64 n1) := HAi.out.cell 1
                have fz : wr.frozen? ⟨g + 1, 1, none⟩ = false := HAi.out.free 1
                generalize plainV (cutB (s.data.toList.drop p)).1 = m at *
                generalize nextI s.data.toList p = T' at *
                generalize ba (cutB (s.data.toList.drop p)).1 = S1 at *
                have HIN2 : Hid (InvR D K true hb hc C s.data.toList n0 m n2 n3 T' 2) := by
                  obtain ⟨h0, h1⟩ := hinv
                  unfold c1 at h0
                  rw [hst] at h0
                  exact ⟨h0, h1.2⟩
                have HPl2 : Hid (Place s.data.toList T') := hpp
                have HA2 : Hid (Blk (wr.setCell ⟨g + 1, 1, none⟩ (.int .i64 m)) (g + 1) #[.int .i64 n0, .int .i64 m, .int .i64 n2, .int .i64 n3] 51) := HAi.out.set 1 _
                have HS2 : Hid (Blk (wr.setCell ⟨g + 1, 1, none⟩ (.int .i64 m)) g #[.bool true, .bool true, .bool hb, .bool hc] 4) := HSi.out.other _ _ (by omega)
                have HX2 : Hid (Blk (wr.setCell ⟨g + 1, 1, none⟩ (.int .i64 m)) (w.heap.size + 1) #[.int .i64 K, .int .i64 0, .int .i64 0, .int .i64 0, .int .i64 0, .string ⟨#[]⟩, .int .i64 C] 23) := HXj.out.other _ _ (by omega)
                have HZ2 : Hid (Blk (wr.setCell ⟨g + 1, 1, none⟩ (.int .i64 m)) w.heap.size #[.int .i64 0, .int .i64 0, .int .i64 0, .int .i64 0, .int .i64 0, .string ⟨#[]⟩, .int .i64 0] 23) := HZj.out.other _ _ (by omega)
                have HB2 : Hid (Below w.heap.size w (wr.setCell ⟨g + 1, 1, none⟩ (.int .i64 m))) := bel_set HBj.out _ _ _ (by omega)
                clear hinv hst hpp HAi HSi HXj HZj HBj
                go_wp2_with fail
                refine HNp.out.mono ?_
                rintro e W4 ⟨rfl, rfl⟩
                go_wp2_with fail
                refine HPp.out.mono ?_
                rintro e W5 ⟨rfl, rfl⟩
                clear HNp HPp
                go_wp2_with fail
                go_roundw
                case rel => exact ⟨2, T', n0, m, n2, n3, by decide, rfl, rfl, HPl2.out, HIN2.out, HA2.out, HS2.out, HX2.out, HZ2.out, HB2.out⟩
                case measure => decide
            | false =>
              have ci : wr.cell? ⟨g, 1, none⟩ = some (.bool false) := HSi.out.cell 1
              have HIN2 : Hid (InvR D K false hb hc C s.data.toList n0 n1 n2 n3 T 2) := by
                obtain ⟨h0, h1⟩ := hinv
                unfold c1 at h0
                rw [dstep_no] at h0
                obtain ⟨e, h2⟩ := h1
                subst e
                exact ⟨h0, h2⟩
              have HPl2 : Hid (Place s.data.toList T) := hpl
              clear hinv hpl
              go_wp2_with fail
              go_roundw
              case rel => exact ⟨2, T, n0, n1, n2, n3, by decide, rfl, rfl, HPl2.out, HIN2.out, HAi.out, HSi.out, HXj.out, HZj.out, HBj.out⟩
              case measure => decide
          · cases hb with
            | true =>
              have ci : wr.cell? ⟨g, 2, none⟩ = some (.bool true) := HSi.out.cell 2
              rcases hpl with rfl | ⟨p, rfl, hp⟩
              · have hDn : D = none := by obtain ⟨h, _⟩ := hinv; rw [h]; rfl
                have HRI : Hid (ReadIs s ac0 3) := HNO.out (fun y hy => by rw [hDn] at hy; cases hy)
                clear hDn hinv HNO HYE HSH HNX HPL HPN HXj HAi HSi
                go_wp2_with (first | (refine wp_letAll rfl 23 _ _ rfl w.heap.size rfl #[.int .i64 0, .int .i64 0, .int .i64 0, .int .i64 0, .int .i64 0, .string ⟨#[]⟩, .int .i64 0] rfl (by kernel_rfl) (by simp [Value.oneCell']) #[.int .i64 0, .int .i64 0, .int .i64 0, .int .i64 0, .int .i64 0, .string ⟨#[]⟩, .int .i64 0] 23 HZj.out rfl ?_) | fail)
                intro WF hUF
                have HBF : Hid (Below w.heap.size w WF) := hUF.bel _ _ (Nat.le_refl _) HBj.out
                have R0 : Hid (WF.cell? ⟨w.heap.size, 0, none⟩ = some (.int .i64 0)) := hUF.blk.cell 0
                have R1 : Hid (WF.cell? ⟨w.heap.size, 1, none⟩ = some (.int .i64 0)) := hUF.blk.cell 1
                have R2 : Hid (WF.cell? ⟨w.heap.size, 2, none⟩ = some (.int .i64 0)) := hUF.blk.cell 2
                have R3 : Hid (WF.cell? ⟨w.heap.size, 3, none⟩ = some (.int .i64 0)) := hUF.blk.cell 3
                have R4 : Hid (WF.cell? ⟨w.heap.size, 4, none⟩ = some (.int .i64 0)) := hUF.blk.cell 4
                have R5 : Hid (WF.cell? ⟨w.heap.size, 5, none⟩ = some (.string ⟨#[]⟩)) := hUF.blk.cell 5
                have R6 : Hid (WF.cell? ⟨w.heap.size, 6, none⟩ = some (.int .i64 0)) := hUF.blk.cell 6
                clear hUF
                go_wp2_with fail
                exact bodyPost_ret (v := .tuple #[.agg #[.int .i64 0, .int .i64 0, .int .i64 0, .int .i64 0, .int .i64 0, .string ⟨#[]⟩, .int .i64 0], .int .i64 3]) (by simp [results, Tryd.results10, R0.out, R1.out, R2.out, R3.out, R4.out, R5.out, R6.out, go_sem]) rfl ⟨ac0, 3, rfl, HRI.out, HBF.out⟩
              · have hps : p ≤ s.size := by omega
                have HNp : Hid (Calls Tryd.prog 21 #[.string s, .int .i64 (p : Int)] wr fun e w' => e = .returned (.tuple #[.string (ba (cutB (s.data.toList.drop p)).1), .int .i64 (nextI s.data.toList p)]) ∧ w' = wr) := HNX.out p wr hps
                have HPp : Hid (Calls Tryd.prog 22 #[.string (ba (cutB (s.data.toList.drop p)).1)] wr fun e w' => e = .returned (.int .i64 (plainV (cutB (s.data.toList.drop p)).1)) ∧ w' = wr) := HPL.out _ wr
                have hpp := (HPN.out p hps).1
                have hst := dstep_at s.data.toList p hp
                have cz : wr.cell? ⟨g + 1, 2, none⟩ = some (.int .i64 n2) := HAi.out.cell 2
                have fz : wr.frozen? ⟨g + 1, 2, none⟩ = false := HAi.out.free 2
                generalize plainV (cutB (s.data.toList.drop p)).1 = m at *
                generalize nextI s.data.toList p = T' at *
                generalize ba (cutB (s.data.toList.drop p)).1 = S1 at *
                have HIN2 : Hid (InvR D K ha true hc C s.data.toList n0 n1 m n3 T' 3) := by
                  obtain ⟨h0, h1⟩ := hinv
                  unfold c2 at h0
                  rw [hst] at h0
                  exact ⟨h0, h1.2⟩
                have HPl2 : Hid (Place s.data.toList T') := hpp
                have HA2 : Hid (Blk (wr.setCell ⟨g + 1, 2, none⟩ (.int .i64 m)) (g + 1) #[.int .i64 n0, .int .i64 n1, .int .i64 m, .int .i64 n3] 51) := HAi.out.set 2 _
                have HS2 : Hid (Blk (wr.setCell ⟨g + 1, 2, none⟩ (.int .i64 m)) g #[.bool true, .bool ha, .bool true, .bool hc] 4) := HSi.out.other _ _ (by omega)
                have HX2 : Hid (Blk (wr.setCell ⟨g + 1, 2, none⟩ (.int .i64 m)) (w.heap.size + 1) #[.int .i64 K, .int .i64 0, .int .i64 0, .int .i64 0, .int .i64 0, .string ⟨#[]⟩, .int .i64 C] 23) := HXj.out.other _ _ (by omega)
                have HZ2 : Hid (Blk (wr.setCell ⟨g + 1, 2, none⟩ (.int .i64 m)) w.heap.size #[.int .i64 0, .int .i64 0, .int .i64 0, .int .i64 0, .int .i64 0, .string ⟨#[]⟩, .int .i64 0] 23) := HZj.out.other _ _ (by omega)
                have HB2 : Hid (Below w.heap.size w (wr.setCell ⟨g + 1, 2, none⟩ (.int .i64 m))) := bel_set HBj.out _ _ _ (by omega)
                clear hinv hst hpp HAi HSi HXj HZj HBj
                go_wp2_with fail
                refine HNp.out.mono ?_
                rintro e W4 ⟨rfl, rfl⟩
                go_wp2_with fail
                refine HPp.out.mono ?_
                rintro e W5 ⟨rfl, rfl⟩
                clear HNp HPp
                go_wp2_with fail
                go_roundw
                case rel => exact ⟨3, T', n0, n1, m, n3, by decide, rfl, rfl, HPl2.out, HIN2.out, HA2.out, HS2.out, HX2.out, HZ2.out, HB2.out⟩
                case measure => decide
            | false =>
              have ci : wr.cell? ⟨g, 2, none⟩ = some (.bool false) := HSi.out.cell 2
              have HIN2 : Hid (InvR D K ha false hc C s.data.toList n0 n1 n2 n3 T 3) := by
                obtain ⟨h0, h1⟩ := hinv
                unfold c2 at h0
                rw [dstep_no] at h0
                obtain ⟨e, h2⟩ := h1
                subst e
                exact ⟨h0, h2⟩
              have HPl2 : Hid (Place s.data.toList T) := hpl
              clear hinv hpl
              go_wp2_with fail
              go_roundw
              case rel => exact ⟨3, T, n0, n1, n2, n3, by decide, rfl, rfl, HPl2.out, HIN2.out, HAi.out, HSi.out, HXj.out, HZj.out, HBj.out⟩
              case measure => decide
          · cases hc with
            | true =>
              have ci : wr.cell? ⟨g, 3, none⟩ = some (.bool true) := HSi.out.cell 3
              rcases hpl with rfl | ⟨p, rfl, hp⟩
              · have hDn : D = none := by obtain ⟨h, _⟩ := hinv; rw [h]; rfl
                have HRI : Hid (ReadIs s ac0 3) := HNO.out (fun y hy => by rw [hDn] at hy; cases hy)
                clear hDn hinv HNO HYE HSH HNX HPL HPN HXj HAi HSi
                go_wp2_with (first | (refine wp_letAll rfl 23 _ _ rfl w.heap.size rfl #[.int .i64 0, .int .i64 0, .int .i64 0, .int .i64 0, .int .i64 0, .string ⟨#[]⟩, .int .i64 0] rfl (by kernel_rfl) (by simp [Value.oneCell']) #[.int .i64 0, .int .i64 0, .int .i64 0, .int .i64 0, .int .i64 0, .string ⟨#[]⟩, .int .i64 0] 23 HZj.out rfl ?_) | fail)
                intro WF hUF
                have HBF : Hid (Below w.heap.size w WF) := hUF.bel _ _ (Nat.le_refl _) HBj.out
                have R0 : Hid (WF.cell? ⟨w.heap.size, 0, none⟩ = some (.int .i64 0)) := hUF.blk.cell 0
                have R1 : Hid (WF.cell? ⟨w.heap.size, 1, none⟩ = some (.int .i64 0)) := hUF.blk.cell 1
                have R2 : Hid (WF.cell? ⟨w.heap.size, 2, none⟩ = some (.int .i64 0)) := hUF.blk.cell 2
                have R3 : Hid (WF.cell? ⟨w.heap.size, 3, none⟩ = some (.int .i64 0)) := hUF.blk.cell 3
                have R4 : Hid (WF.cell? ⟨w.heap.size, 4, none⟩ = some (.int .i64 0)) := hUF.blk.cell 4
                have R5 : Hid (WF.cell? ⟨w.heap.size, 5, none⟩ = some (.string ⟨#[]⟩)) := hUF.blk.cell 5
                have R6 : Hid (WF.cell? ⟨w.heap.size, 6, none⟩ = some (.int .i64 0)) := hUF.blk.cell 6
                clear hUF
                go_wp2_with fail
                exact bodyPost_ret (v := .tuple #[.agg #[.int .i64 0, .int .i64 0, .int .i64 0, .int .i64 0, .int .i64 0, .string ⟨#[]⟩, .int .i64 0], .int .i64 3]) (by simp [results, Tryd.results10, R0.out, R1.out, R2.out, R3.out, R4.out, R5.out, R6.out, go_sem]) rfl ⟨ac0, 3, rfl, HRI.out, HBF.out⟩
              · have hps : p ≤ s.size := by omega
                have HNp : Hid (Calls Tryd.prog 21 #[.string s, .int .i64 (p : Int)] wr fun e w' => e = .returned (.tuple #[.string (ba (cutB (s.data.toList.drop p)).1), .int .i64 (nextI s.data.toList p)]) ∧ w' = wr) := HNX.out p wr hps
                have HPp : Hid (Calls Tryd.prog 22 #[.string (ba (cutB (s.data.toList.drop p)).1)] wr fun e w' => e = .returned (.int .i64 (plainV (cutB (s.data.toList.drop p)).1)) ∧ w' = wr) := HPL.out _ wr
                have hpp := (HPN.out p hps).1
                have hst := dstep_at s.data.toList p hp
                have cz : wr.cell? ⟨g + 1, 3, none⟩ = some (.int .i64 n3) := HAi.out.cell 3
                have fz : wr.frozen? ⟨g + 1, 3, none⟩ = false := HAi.out.free 3
                generalize plainV (cutB (s.data.toList.drop p)).1 = m at *
                generalize nextI s.data.toList p = T' at *
                generalize ba (cutB (s.data.toList.drop p)).1 = S1 at *
                have HIN2 : Hid (InvR D K ha hb true C s.data.toList n0 n1 n2 m T' 4) := by
                  obtain ⟨h0, h1⟩ := hinv
                  unfold c3 at h0
                  rw [hst] at h0
                  exact h0
                have HPl2 : Hid (Place s.data.toList T') := hpp
                have HA2 : Hid (Blk (wr.setCell ⟨g + 1, 3, none⟩ (.int .i64 m)) (g + 1) #[.int .i64 n0, .int .i64 n1, .int .i64 n2, .int .i64 m] 51) := HAi.out.set 3 _
                have HS2 : Hid (Blk (wr.setCell ⟨g + 1, 3, none⟩ (.int .i64 m)) g #[.bool true, .bool ha, .bool hb, .bool true] 4) := HSi.out.other _ _ (by omega)
                have HX2 : Hid (Blk (wr.setCell ⟨g + 1, 3, none⟩ (.int .i64 m)) (w.heap.size + 1) #[.int .i64 K, .int .i64 0, .int .i64 0, .int .i64 0, .int .i64 0, .string ⟨#[]⟩, .int .i64 C] 23) := HXj.out.other _ _ (by omega)
                have HZ2 : Hid (Blk (wr.setCell ⟨g + 1, 3, none⟩ (.int .i64 m)) w.heap.size #[.int .i64 0, .int .i64 0, .int .i64 0, .int .i64 0, .int .i64 0, .string ⟨#[]⟩, .int .i64 0] 23) := HZj.out.other _ _ (by omega)
                have HB2 : Hid (Below w.heap.size w (wr.setCell ⟨g + 1, 3, none⟩ (.int .i64 m))) := bel_set HBj.out _ _ _ (by omega)
                clear hinv hst hpp HAi HSi HXj HZj HBj
                go_wp2_with fail
                refine HNp.out.mono ?_
                rintro e W4 ⟨rfl, rfl⟩
                go_wp2_with fail
                refine HPp.out.mono ?_
                rintro e W5 ⟨rfl, rfl⟩
                clear HNp HPp
                go_wp2_with fail
                go_roundw
                case rel => exact ⟨4, T', n0, n1, n2, m, by decide, rfl, rfl, HPl2.out, HIN2.out, HA2.out, HS2.out, HX2.out, HZ2.out, HB2.out⟩
                case measure => decide
            | false =>
              have ci : wr.cell? ⟨g, 3, none⟩ = some (.bool false) := HSi.out.cell 3
              have HIN2 : Hid (InvR D K ha hb false C s.data.toList n0 n1 n2 n3 T 4) := by
                obtain ⟨h0, h1⟩ := hinv
                unfold c3 at h0
                rw [dstep_no] at h0
                subst h1
                exact h0
              have HPl2 : Hid (Place s.data.toList T) := hpl
              clear hinv hpl
              go_wp2_with fail
              go_roundw
              case rel => exact ⟨4, T, n0, n1, n2, n3, by decide, rfl, rfl, HPl2.out, HIN2.out, HAi.out, HSi.out, HXj.out, HZj.out, HBj.out⟩
              case measure => decide
          · have HD4 : Hid (D = c4 K C n0 n1 n2 n3 (O s.data.toList T)) := hinv
            have a0 : wr.cell? ⟨g + 1, 0, none⟩ = some (.int .i64 n0) := HAi.out.cell 0
            have a1 : wr.cell? ⟨g + 1, 1, none⟩ = some (.int .i64 n1) := HAi.out.cell 1
            have a2 : wr.cell? ⟨g + 1, 2, none⟩ = some (.int .i64 n2) := HAi.out.cell 2
            have a3 : wr.cell? ⟨g + 1, 3, none⟩ = some (.int .i64 n3) := HAi.out.cell 3
            have x0 : wr.cell? ⟨w.heap.size + 1, 0, none⟩ = some (.int .i64 K) := HXj.out.cell 0
            have x1 : wr.cell? ⟨w.heap.size + 1, 1, none⟩ = some (.int .i64 0) := HXj.out.cell 1
            have fx1 : wr.frozen? ⟨w.heap.size + 1, 1, none⟩ = false := HXj.out.free 1
            have x2 : wr.cell? ⟨w.heap.size + 1, 2, none⟩ = some (.int .i64 0) := HXj.out.cell 2
            have fx2 : wr.frozen? ⟨w.heap.size + 1, 2, none⟩ = false := HXj.out.free 2
            have x3 : wr.cell? ⟨w.heap.size + 1, 3, none⟩ = some (.int .i64 0) := HXj.out.cell 3
            have fx3 : wr.frozen? ⟨w.heap.size + 1, 3, none⟩ = false := HXj.out.free 3
            have x4 : wr.cell? ⟨w.heap.size + 1, 4, none⟩ = some (.int .i64 0) := HXj.out.cell 4
            have fx4 : wr.frozen? ⟨w.heap.size + 1, 4, none⟩ = false := HXj.out.free 4
            have HX5 : Hid (Blk ((((wr.setCell ⟨w.heap.size + 1, 1, none⟩ (.int .i64 n0)).setCell ⟨w.heap.size + 1, 2, none⟩ (.int .i64 n1)).setCell ⟨w.heap.size + 1, 3, none⟩ (.int .i64 n2)).setCell ⟨w.heap.size + 1, 4, none⟩ (.int .i64 n3)) (w.heap.size + 1) #[.int .i64 K, .int .i64 n0, .int .i64 n1, .int .i64 n2, .int .i64 n3, .string ⟨#[]⟩, .int .i64 C] 23) := ((((HXj.out.set 1 (.int .i64 n0)).set 2 (.int .i64 n1)).set 3 (.int .i64 n2)).set 4 (.int .i64 n3))
            have HZ5 : Hid (Blk ((((wr.setCell ⟨w.heap.size + 1, 1, none⟩ (.int .i64 n0)).setCell ⟨w.heap.size + 1, 2, none⟩ (.int .i64 n1)).setCell ⟨w.heap.size + 1, 3, none⟩ (.int .i64 n2)).setCell ⟨w.heap.size + 1, 4, none⟩ (.int .i64 n3)) w.heap.size #[.int .i64 0, .int .i64 0, .int .i64 0, .int .i64 0, .int .i64 0, .string ⟨#[]⟩, .int .i64 0] 23) := ((((HZj.out.other 1 (.int .i64 n0) (by omega)).other 2 (.int .i64 n1) (by omega)).other 3 (.int .i64 n2) (by omega)).other 4 (.int .i64 n3) (by omega))
            have HB5 : Hid (Below w.heap.size w ((((wr.setCell ⟨w.heap.size + 1, 1, none⟩ (.int .i64 n0)).setCell ⟨w.heap.size + 1, 2, none⟩ (.int .i64 n1)).setCell ⟨w.heap.size + 1, 3, none⟩ (.int .i64 n2)).setCell ⟨w.heap.size + 1, 4, none⟩ (.int .i64 n3))) := (bel_set (bel_set (bel_set (bel_set HBj.out (w.heap.size + 1) 1 (.int .i64 n0) (by omega)) (w.heap.size + 1) 2 (.int .i64 n1) (by omega)) (w.heap.size + 1) 3 (.int .i64 n2) (by omega)) (w.heap.size + 1) 4 (.int .i64 n3) (by omega))
            clear HXj HZj HBj HAi HSi hinv HNX HPL HPN
            go_upto_region 35 with fail
            clear a0 a1 a2 a3 x0 x1 x2 x3 x4 fx1 fx2 fx3 fx4
            generalize ((((wr.setCell ⟨w.heap.size + 1, 1, none⟩ (.int .i64 n0)).setCell ⟨w.heap.size + 1, 2, none⟩ (.int .i64 n1)).setCell ⟨w.heap.size + 1, 3, none⟩ (.int .i64 n2)).setCell ⟨w.heap.size + 1, 4, none⟩ (.int .i64 n3)) = W5 at *
            have x0 : W5.cell? ⟨w.heap.size + 1, 0, none⟩ = some (.int .i64 K) := HX5.out.cell 0
            obtain ⟨ht, hht⟩ : ∃ b, hT K = b := ⟨_, rfl⟩
            rw [hht] at hk6
            have HHT : Hid (hT K = ht) := hht
            clear hht
            go_upto_region 35 with fail
            obtain ⟨B9, hB9⟩ : ∃ B, (ht && decide (0 ≤ T)) = B := ⟨_, rfl⟩
            have HQ9 : Hid ((ht && decide (0 ≤ T)) = B9) := hB9
            clear hB9
            go_cut [127] (fun v127 wc => wc = W5 ∧ v127 = .bool B9)
            case first =>
              clear HX5 HZ5 HB5 HD4 HNO HYE HSH HHT hpl
              cases ht with
              | false =>
                have HBf : Hid (B9 = false) := by show _ = _; rw [← HQ9.out]; rfl
                go_wp2_with fail
                all_goals first
                  | (rename_i q1 q2; exact absurd q1 (by simp [undef]))
                  | (go_meet; case rel => exact ⟨by first | rfl | trivial, by first | (rw [HBf.out]; done) | (rw [HBf.out]; rfl)⟩)
              | true =>
                cases hq9 : decide (0 ≤ T) with
                | true =>
                  have HBf : Hid (B9 = true) := by show _ = _; rw [← HQ9.out, hq9]; rfl
                  go_wp2_with fail
                  all_goals first
                    | (rename_i q1 q2; exact absurd q1 (by simp [undef]))
                    | (go_meet; case rel => exact ⟨by first | rfl | trivial, by first | (rw [HBf.out]; done) | (rw [HBf.out]; rfl)⟩)
                | false =>
                  have HBf : Hid (B9 = false) := by show _ = _; rw [← HQ9.out, hq9]; rfl
                  go_wp2_with fail
                  all_goals first
                    | (rename_i q1 q2; exact absurd q1 (by simp [undef]))
                    | (go_meet; case rel => exact ⟨by first | rfl | trivial, by first | (rw [HBf.out]; done) | (rw [HBf.out]; rfl)⟩)
            case rest =>
            obtain ⟨hw1, rfl⟩ := hcut
            replace hw1 := hw1.symm
            subst hw1
            go_upto_if 127 with fail
            go_cut [] (fun wc => ∃ TV : ByteArray, TV.size ≤ 140737488354304 ∧ D = some ⟨K, n0, n1, n2, n3, TV, C⟩ ∧ Blk wc (w.heap.size + 1) #[.int .i64 K, .int .i64 n0, .int .i64 n1, .int .i64 n2, .int .i64 n3, .string TV, .int .i64 C] 23 ∧ Blk wc w.heap.size #[.int .i64 0, .int .i64 0, .int .i64 0, .int .i64 0, .int .i64 0, .string ⟨#[]⟩, .int .i64 0] 23 ∧ Below w.heap.size w wc)
            case first =>
              clear HNO HYE HSH
              have HDD : D = c4 K C n0 n1 n2 n3 (O s.data.toList T) := HD4.out
              unfold c4 at HDD
              rw [HHT.out] at HDD
              cases ht with
              | false =>
                have HDh : Hid (D = some ⟨K, n0, n1, n2, n3, ⟨#[]⟩, C⟩) := HDD
                have hBf : B9 = false := by rw [← HQ9.out]; rfl
                subst hBf
                clear HDD HD4 HQ9
                go_wp2_with fail
                go_meet
                case rel => exact ⟨⟨#[]⟩, by decide, HDh.out, HX5.out, HZ5.out, HB5.out⟩
              | true =>
                rcases hpl with rfl | ⟨p, rfl, hp⟩
                · have HDh : Hid (D = some ⟨K, n0, n1, n2, n3, ⟨#[]⟩, C⟩) := HDD
                  have hBf : B9 = false := by rw [← HQ9.out]; rfl
                  subst hBf
                  clear HDD HD4 HQ9
                  go_wp2_with fail
                  go_meet
                  case rel => exact ⟨⟨#[]⟩, by decide, HDh.out, HX5.out, HZ5.out, HB5.out⟩
                · have hps : p ≤ s.size := by omega
                  have c5 : W5.cell? ⟨w.heap.size + 1, 5, none⟩ = some (.string ⟨#[]⟩) := HX5.out.cell 5
                  have f5 : W5.frozen? ⟨w.heap.size + 1, 5, none⟩ = false := HX5.out.free 5
                  have HX6 : Hid (Blk (W5.setCell ⟨w.heap.size + 1, 5, none⟩ (.string (s.extract p s.size))) (w.heap.size + 1) #[.int .i64 K, .int .i64 n0, .int .i64 n1, .int .i64 n2, .int .i64 n3, .string (s.extract p s.size), .int .i64 C] 23) := HX5.out.set 5 _
                  have HZ6 : Hid (Blk (W5.setCell ⟨w.heap.size + 1, 5, none⟩ (.string (s.extract p s.size))) w.heap.size #[.int .i64 0, .int .i64 0, .int .i64 0, .int .i64 0, .int .i64 0, .string ⟨#[]⟩, .int .i64 0] 23) := HZ5.out.other _ _ (by omega)
                  have HB6 : Hid (Below w.heap.size w (W5.setCell ⟨w.heap.size + 1, 5, none⟩ (.string (s.extract p s.size)))) := bel_set HB5.out _ _ _ (by omega)
                  have HDh : Hid (D = some ⟨K, n0, n1, n2, n3, s.extract p s.size, C⟩) := by
                    have hxt : s.extract p s.size = ⟨(s.data.toList.drop p).toArray⟩ := by
                      rw [ext_list s p s.size (Nat.le_refl _), List.take_of_length_le (by rw [List.length_drop]; omega)]; rfl
                    have h0 : ¬ ((p : Int) < 0) := by omega
                    unfold O at HDD
                    rw [if_neg h0, Int.toNat_natCast] at HDD
                    rw [hxt]
                    exact HDD
                  have hxs : (s.extract p s.size).size ≤ 140737488354304 := by rw [ByteArray.size_extract]; omega
                  have hBf : B9 = true := by rw [← HQ9.out]; simp
                  subst hBf
                  clear HDD HD4 HX5 HZ5 HB5 HQ9
                  go_wp2_with fail
                  go_meet
                  case rel => exact ⟨_, hxs, HDh.out, HX6.out, HZ6.out, HB6.out⟩
            case rest =>
            obtain ⟨TV, hty, HDY, hx9, hz9, hb9⟩ := hcut
            have HX9 : Hid (Blk wc (w.heap.size + 1) #[.int .i64 K, .int .i64 n0, .int .i64 n1, .int .i64 n2, .int .i64 n3, .string TV, .int .i64 C] 23) := hx9
            have HZ9 : Hid (Blk wc w.heap.size #[.int .i64 0, .int .i64 0, .int .i64 0, .int .i64 0, .int .i64 0, .string ⟨#[]⟩, .int .i64 0] 23) := hz9
            have HB9 : Hid (Below w.heap.size w wc) := hb9
            clear hx9 hz9 hb9 HX5 HZ5 HB5 HD4 HHT x0 HQ9
            have HS6 : Hid (∀ W, Calls Tryd.prog 8 #[.agg #[.int .i64 K, .int .i64 n0, .int .i64 n1, .int .i64 n2, .int .i64 n3, .string TV, .int .i64 C]] W fun e w' => e = .returned (.tuple #[.string (ba (shown ⟨K, n0, n1, n2, n3, TV, C⟩)), .int .i64 (err ⟨K, n0, n1, n2, n3, TV, C⟩)]) ∧ Below W.heap.size W w') := fun W => HSH.out ⟨K, n0, n1, n2, n3, TV, C⟩ W hty
            have HNO2 : Hid (err ⟨K, n0, n1, n2, n3, TV, C⟩ ≠ 0 ∨ shown ⟨K, n0, n1, n2, n3, TV, C⟩ ≠ s.data.toList → ReadIs s ac0 3) := fun h => HNO.out (fun y hy => by rw [HDY] at hy; rw [← Option.some.inj hy]; exact h)
            have HYE2 : Hid (err ⟨K, n0, n1, n2, n3, TV, C⟩ = 0 → shown ⟨K, n0, n1, n2, n3, TV, C⟩ = s.data.toList → ReadIs s ⟨K, n0, n1, n2, n3, TV, C⟩ 0) := HYE.out ⟨K, n0, n1, n2, n3, TV, C⟩
            clear HDY hty HSH HNO HYE
            generalize err ⟨K, n0, n1, n2, n3, TV, C⟩ = E at *
            obtain ⟨SH, hSH⟩ : ∃ l, shown ⟨K, n0, n1, n2, n3, TV, C⟩ = l := ⟨_, rfl⟩
            rw [hSH] at HS6 HNO2 HYE2
            clear hSH
            go_upto_region 37 with fail
            go_wp2_with (first | (refine wp_whole rfl 23 _ rfl (w.heap.size + 1) rfl 23 _ _ HX9.out Tryd.underlying23 rfl (by kernel_rfl) ?_) | fail)
            refine (HS6.out _).mono ?_
            rintro e W7 ⟨rfl, hb7⟩
            have HZ7 : Hid (Blk W7 w.heap.size #[.int .i64 0, .int .i64 0, .int .i64 0, .int .i64 0, .int .i64 0, .string ⟨#[]⟩, .int .i64 0] 23) := HZ9.out.next hb7
            have HX7 : Hid (Blk W7 (w.heap.size + 1) #[.int .i64 K, .int .i64 n0, .int .i64 n1, .int .i64 n2, .int .i64 n3, .string TV, .int .i64 C] 23) := HX9.out.next hb7
            have HB7 : Hid (Below w.heap.size w W7) := bel_step HB9.out hb7
            clear HZ9 HX9 HB9 hb7 HS6
            by_cases hE : E = 0
            · have hq1 : (E != 0) = false := by simpa using hE
              by_cases hS : SH = s.data.toList
              · have HRI : Hid (ReadIs s ⟨K, n0, n1, n2, n3, TV, C⟩ 0) := HYE2.out hE hS
                have hq2 : ((ba SH).toList == s.toList) = true := by rw [hS]; simp [ba]
                clear HYE2 HNO2 hE hS
                go_upto_region 40 with fail
                go_wp2_with (first | (refine wp_whole rfl 23 _ rfl (w.heap.size + 1) rfl 23 _ _ HX7.out Tryd.underlying23 rfl (by kernel_rfl) ?_) | (refine wp_letAll rfl 23 _ _ rfl w.heap.size rfl #[.int .i64 K, .int .i64 n0, .int .i64 n1, .int .i64 n2, .int .i64 n3, .string TV, .int .i64 C] rfl (by kernel_rfl) (by simp [Value.oneCell']) #[.int .i64 0, .int .i64 0, .int .i64 0, .int .i64 0, .int .i64 0, .string ⟨#[]⟩, .int .i64 0] 23 HZ7.out rfl ?_) | fail)
                intro WF hUF
                have HBF : Hid (Below w.heap.size w WF) := hUF.bel _ _ (Nat.le_refl _) HB7.out
                have R0 : Hid (WF.cell? ⟨w.heap.size, 0, none⟩ = some (.int .i64 K)) := hUF.blk.cell 0
                have R1 : Hid (WF.cell? ⟨w.heap.size, 1, none⟩ = some (.int .i64 n0)) := hUF.blk.cell 1
                have R2 : Hid (WF.cell? ⟨w.heap.size, 2, none⟩ = some (.int .i64 n1)) := hUF.blk.cell 2
                have R3 : Hid (WF.cell? ⟨w.heap.size, 3, none⟩ = some (.int .i64 n2)) := hUF.blk.cell 3
                have R4 : Hid (WF.cell? ⟨w.heap.size, 4, none⟩ = some (.int .i64 n3)) := hUF.blk.cell 4
                have R5 : Hid (WF.cell? ⟨w.heap.size, 5, none⟩ = some (.string TV)) := hUF.blk.cell 5
                have R6 : Hid (WF.cell? ⟨w.heap.size, 6, none⟩ = some (.int .i64 C)) := hUF.blk.cell 6
                clear hUF
                go_wp2_with fail
                exact bodyPost_ret (v := .tuple #[.agg #[.int .i64 K, .int .i64 n0, .int .i64 n1, .int .i64 n2, .int .i64 n3, .string TV, .int .i64 C], .int .i64 0]) (by simp [results, Tryd.results10, R0.out, R1.out, R2.out, R3.out, R4.out, R5.out, R6.out, go_sem]) rfl ⟨⟨K, n0, n1, n2, n3, TV, C⟩, 0, rfl, HRI.out, HBF.out⟩
              · have HRI : Hid (ReadIs s ac0 3) := HNO2.out (.inr hS)
                have hq2 : ((ba SH).toList == s.toList) = false := by
                  rw [ls_eq, ls_eq, ba_list, beq_eq_false_iff_ne]; exact hS
                clear HYE2 HNO2 hE hS HX7
                go_wp2_with (first | (refine wp_letAll rfl 23 _ _ rfl w.heap.size rfl #[.int .i64 0, .int .i64 0, .int .i64 0, .int .i64 0, .int .i64 0, .string ⟨#[]⟩, .int .i64 0] rfl (by kernel_rfl) (by simp [Value.oneCell']) #[.int .i64 0, .int .i64 0, .int .i64 0, .int .i64 0, .int .i64 0, .string ⟨#[]⟩, .int .i64 0] 23 HZ7.out rfl ?_) | fail)
                intro WF hUF
                have HBF : Hid (Below w.heap.size w WF) := hUF.bel _ _ (Nat.le_refl _) HB7.out
                have R0 : Hid (WF.cell? ⟨w.heap.size, 0, none⟩ = some (.int .i64 0)) := hUF.blk.cell 0
                have R1 : Hid (WF.cell? ⟨w.heap.size, 1, none⟩ = some (.int .i64 0)) := hUF.blk.cell 1
                have R2 : Hid (WF.cell? ⟨w.heap.size, 2, none⟩ = some (.int .i64 0)) := hUF.blk.cell 2
                have R3 : Hid (WF.cell? ⟨w.heap.size, 3, none⟩ = some (.int .i64 0)) := hUF.blk.cell 3
                have R4 : Hid (WF.cell? ⟨w.heap.size, 4, none⟩ = some (.int .i64 0)) := hUF.blk.cell 4
                have R5 : Hid (WF.cell? ⟨w.heap.size, 5, none⟩ = some (.string ⟨#[]⟩)) := hUF.blk.cell 5
                have R6 : Hid (WF.cell? ⟨w.heap.size, 6, none⟩ = some (.int .i64 0)) := hUF.blk.cell 6
                clear hUF
                go_wp2_with fail
                exact bodyPost_ret (v := .tuple #[.agg #[.int .i64 0, .int .i64 0, .int .i64 0, .int .i64 0, .int .i64 0, .string ⟨#[]⟩, .int .i64 0], .int .i64 3]) (by simp [results, Tryd.results10, R0.out, R1.out, R2.out, R3.out, R4.out, R5.out, R6.out, go_sem]) rfl ⟨ac0, 3, rfl, HRI.out, HBF.out⟩
            · have hq1 : (E != 0) = true := by simpa using hE
              have HRI : Hid (ReadIs s ac0 3) := HNO2.out (.inl hE)
              clear HYE2 HNO2 hE HX7
              go_wp2_with (first | (refine wp_letAll rfl 23 _ _ rfl w.heap.size rfl #[.int .i64 0, .int .i64 0, .int .i64 0, .int .i64 0, .int .i64 0, .string ⟨#[]⟩, .int .i64 0] rfl (by kernel_rfl) (by simp [Value.oneCell']) #[.int .i64 0, .int .i64 0, .int .i64 0, .int .i64 0, .int .i64 0, .string ⟨#[]⟩, .int .i64 0] 23 HZ7.out rfl ?_) | fail)
              intro WF hUF
              have HBF : Hid (Below w.heap.size w WF) := hUF.bel _ _ (Nat.le_refl _) HB7.out
              have R0 : Hid (WF.cell? ⟨w.heap.size, 0, none⟩ = some (.int .i64 0)) := hUF.blk.cell 0
              have R1 : Hid (WF.cell? ⟨w.heap.size, 1, none⟩ = some (.int .i64 0)) := hUF.blk.cell 1
              have R2 : Hid (WF.cell? ⟨w.heap.size, 2, none⟩ = some (.int .i64 0)) := hUF.blk.cell 2
              have R3 : Hid (WF.cell? ⟨w.heap.size, 3, none⟩ = some (.int .i64 0)) := hUF.blk.cell 3
              have R4 : Hid (WF.cell? ⟨w.heap.size, 4, none⟩ = some (.int .i64 0)) := hUF.blk.cell 4
              have R5 : Hid (WF.cell? ⟨w.heap.size, 5, none⟩ = some (.string ⟨#[]⟩)) := hUF.blk.cell 5
              have R6 : Hid (WF.cell? ⟨w.heap.size, 6, none⟩ = some (.int .i64 0)) := hUF.blk.cell 6
              clear hUF
              go_wp2_with fail
              exact bodyPost_ret (v := .tuple #[.agg #[.int .i64 0, .int .i64 0, .int .i64 0, .int .i64 0, .int .i64 0, .string ⟨#[]⟩, .int .i64 0], .int .i64 3]) (by simp [results, Tryd.results10, R0.out, R1.out, R2.out, R3.out, R4.out, R5.out, R6.out, go_sem]) rfl ⟨ac0, 3, rfl, HRI.out, HBF.out⟩

end Go.Proofs.YtlianhienbhbgaaDoor.odr
