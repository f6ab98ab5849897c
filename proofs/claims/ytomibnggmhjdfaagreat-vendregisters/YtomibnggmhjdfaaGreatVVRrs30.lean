import Derived.Test.YtomibnggmhjdfaaGreatVVRrs29
set_option linter.unusedVariables false
set_option linter.unusedSimpArgs false
namespace Go.Proofs.YtomibnggmhjdfaaGreat
namespace cents
open Go.RowKit
def Row (w : World) (a : Option Addr) (len : Nat) (zs : List Int) : Prop :=
 zs.length = len ∧ (len = 0 ∨ ∃ b off, a = some ⟨b, off, none⟩ ∧ ∀ i, i < len → w.cell? ⟨b, off + i, none⟩ = some (.int .i64 (zs.getD i 0)))
def okAll (lo hi : Int) (l : List Int) : Bool := l.all fun n => decide (lo ≤ n) && decide (n ≤ hi)
theorem okAll_step (lo hi : Int) (zs : List Int) (k : Nat) (hk : k < zs.length) (h : okAll lo hi (zs.take k) = true) (h1 : lo ≤ zs.getD k 0) (h2 : zs.getD k 0 ≤ hi) : okAll lo hi (zs.take (k + 1)) = true := by
 unfold okAll at *
 rw [List.take_add_one, List.all_append, h]
 simp only [List.getD, List.getElem?_eq_getElem hk, Option.getD] at h1 h2 ⊢
 simp [h1, h2]
theorem okAll_no (lo hi : Int) (zs : List Int) (k : Nat) (hk : k < zs.length) (h : zs.getD k 0 < lo ∨ hi < zs.getD k 0) : okAll lo hi zs = false := by
 unfold okAll
 rw [List.all_eq_false]
 refine ⟨zs[k], List.getElem_mem hk, ?_⟩
 simp only [List.getD, List.getElem?_eq_getElem hk, Option.getD] at h
 simp; omega
theorem ret_bool {a b : Bool} (h : a = b) : Ending.returned (.bool a) = .returned (.bool b) := by rw [h]
set_option maxHeartbeats 400000 in
theorem within_any (lo hi : Int) (a : Option Addr) (len cap : Nat) (zs : List Int) (w : World) (hr : Row w a len zs) (hl : len ≤ maxLen) :
  Calls Tryz.prog 120 #[.int .i64 lo, .int .i64 hi, .slice a len cap] w fun e w' => e = .returned (.bool (okAll lo hi zs)) ∧ w' = w := by
 unfold maxLen at hl
 obtain ⟨hz, hr⟩ := hr
 go_enter Tryz.func120, Tryz.ntmps120
 go_wp2
 go_loop [11] (fun i => ∃ k : Nat, k ≤ len ∧ i = .int .i64 k ∧ okAll lo hi (zs.take k) = true) (fun i => len - (intOf i).toNat)
 case atStart => exact ⟨0, Nat.zero_le _, rfl, rfl⟩
 case round =>
  obtain ⟨k, hk, rfl, hok⟩ := hrel
  have HK : Hid (okAll lo hi (zs.take k) = true) := hok
  clear hok
  by_cases hlt : k < len
  ·rcases hr with h0 | ⟨b, off, rfl, hc⟩
   ·omega
   have hcell := hc k hlt
   clear hc
   generalize hzk : zs.getD k 0 = z at hcell
   have HZ : Hid (zs.getD k 0 = z) := hzk
   clear hzk
   by_cases h1 : z < lo
   ·go_wp2
    go_ret
    exact ⟨ret_bool (okAll_no lo hi zs k (by omega) (.inl (by rw [HZ.out]; exact h1))).symm, rfl⟩
   ·by_cases h2 : hi < z
    ·go_wp2
     go_ret
     exact ⟨ret_bool (okAll_no lo hi zs k (by omega) (.inr (by rw [HZ.out]; exact h2))).symm, rfl⟩
    ·go_wp2
     go_round
     case rel => exact ⟨k + 1, by omega, by go_num, okAll_step lo hi zs k (by omega) HK.out (by rw [HZ.out]; omega) (by rw [HZ.out]; omega)⟩
     case measure => simp [intOf]; omega
  ·go_wp2
   go_ret
   refine ⟨ret_bool ?_, rfl⟩
   have := HK.out
   rw [List.take_of_length_le (by omega)] at this
   exact this.symm
theorem row_one (w : World) (z : Int) (t : TypeId) : Row (w.alloc (.cells #[.int .i64 z] t)) (some ⟨w.heap.size, 0, none⟩) 1 [z] := by
 refine ⟨rfl, .inr ⟨_, _, rfl, fun i hi => ?_⟩⟩
 obtain rfl : i = 0 := by omega
 simp
theorem okAll_yes {lo hi z : Int} (h1 : lo ≤ z) (h2 : z ≤ hi) : okAll lo hi [z] = true := by simp [okAll, h1, h2]
theorem okAll_not {lo hi z : Int} (h : z < lo ∨ hi < z) : okAll lo hi [z] = false := by simp [okAll]; omega
theorem within_one_yes (lo hi z : Int) (w : World) (b : Nat) (hb : b = w.heap.size) (h1 : lo ≤ z) (h2 : z ≤ hi) :
  Calls Tryz.prog 120 #[.int .i64 lo, .int .i64 hi, .slice (some ⟨b, 0, none⟩) 1 1] (w.alloc (.cells #[.int .i64 z] 3)) fun e w' => e = .returned (.bool true) ∧ w' = w.alloc (.cells #[.int .i64 z] 3) := by
 have h := within_any lo hi _ 1 1 [z] _ (row_one w z 3) (by decide)
 rw [okAll_yes h1 h2] at h
 rw [hb]
 exact h
theorem within_one_no (lo hi z : Int) (w : World) (b : Nat) (hb : b = w.heap.size) (h0 : z < lo ∨ hi < z) :
  Calls Tryz.prog 120 #[.int .i64 lo, .int .i64 hi, .slice (some ⟨b, 0, none⟩) 1 1] (w.alloc (.cells #[.int .i64 z] 3)) fun e w' => e = .returned (.bool false) ∧ w' = w.alloc (.cells #[.int .i64 z] 3) := by
 have h := within_any lo hi _ 1 1 [z] _ (row_one w z 3) (by decide)
 rw [okAll_not h0] at h
 rw [hb]
 exact h
theorem prod_bd (a b A B : Int) (h1 : 0 ≤ a) (h2 : a ≤ A) (h3 : 0 ≤ b) (h4 : b ≤ B) : 0 ≤ a * b ∧ a * b ≤ A * B :=
 ⟨Int.mul_nonneg h1 h3, Int.mul_le_mul h2 h4 h3 (by omega)⟩
theorem bel1 (w : World) (o : Obj) : Below w.heap.size w (w.alloc o) := (Below.refl _ _).alloc (Nat.le_refl _) _
theorem bel2 (w : World) (o o' : Obj) : Below w.heap.size w ((w.alloc o).alloc o') := (bel1 w o).alloc (by simp) _
set_option maxHeartbeats 400000 in
theorem part_yes (a b : Int) (w : World) (h1 : 0 ≤ a) (h2 : a ≤ 1000000000000) (h3 : 0 ≤ b) (h4 : b ≤ 10000) :
  Calls Tryz.prog 115 #[.int .i64 a, .int .i64 b] w fun e w' => e = .returned (.tuple #[.int .i64 (a * b / 10000), .int .i64 0]) ∧ Below w.heap.size w w' := by
 obtain ⟨hp1, hp2⟩ := prod_bd a b _ _ h1 h2 h3 h4
 go_enter Tryz.func115, Tryz.ntmps115
 go_wp2_with fail
 refine (within_one_yes _ _ _ _ _ rfl h1 h2).mono ?_
 rintro e w' ⟨rfl, rfl⟩
 go_wp2_with fail
 refine (within_one_yes _ _ _ _ _ (by simp) h3 h4).mono ?_
 rintro e w' ⟨rfl, rfl⟩
 go_wp2
 go_ret2
 exact ⟨rfl, bel2 _ _ _⟩
set_option maxHeartbeats 400000 in
theorem part_no (a b : Int) (w : World) (h : (a < 0 ∨ 1000000000000 < a) ∨ (b < 0 ∨ 10000 < b)) :
  Calls Tryz.prog 115 #[.int .i64 a, .int .i64 b] w fun e w' => e = .returned (.tuple #[.int .i64 0, .int .i64 2]) ∧ Below w.heap.size w w' := by
 by_cases h0 : a < 0 ∨ 1000000000000 < a
 ·clear h
  go_enter Tryz.func115, Tryz.ntmps115
  go_wp2_with fail
  refine (within_one_no _ _ _ _ _ rfl h0).mono ?_
  rintro e w' ⟨rfl, rfl⟩
  go_wp2
  go_ret2
  exact ⟨rfl, bel1 _ _⟩
 ·have h5 : b < 0 ∨ 10000 < b := by omega
  have h1 : 0 ≤ a := by omega
  have h2 : a ≤ 1000000000000 := by omega
  clear h h0
  go_enter Tryz.func115, Tryz.ntmps115
  go_wp2_with fail
  refine (within_one_yes _ _ _ _ _ rfl h1 h2).mono ?_
  rintro e w' ⟨rfl, rfl⟩
  go_wp2_with fail
  refine (within_one_no _ _ _ _ _ (by simp) h5).mono ?_
  rintro e w' ⟨rfl, rfl⟩
  go_wp2
  go_ret2
  exact ⟨rfl, bel2 _ _ _⟩
end cents
namespace tar
open Go.RowKit
theorem run_min (x y m : Int) (h : min x y = m) (w : World) : (Builtin.min_ #[3, 3] 3 #[.int .i64 x, .int .i64 y]).run Tryz.prog w = .ok (.int .i64 m) w := by
 subst h
 unfold Builtin.min_
 by_cases h : y < x
 ·rw [show min x y = y by omega]
  simp [Builtin.min2, go_sem]
  omega
 ·rw [show min x y = x by omega]
  simp [Builtin.min2, go_sem]
  omega
end tar
namespace deb
open tar (Du du0 Came RowD Ld ErrPost TwoPost PairT GaveD)
open Go.RowKit
set_option maxRecDepth 100000
theorem grow_more {b x : Int} (hx : 0 ≤ x) (hx1 : x ≤ 1000000000) (hb : 0 ≤ b) : grow b x = x + min (x * b / 10000) (1000000000 - x) := by
 unfold grow
 have := Int.mul_nonneg hx hb
 generalize x * b = p at *
 omega
set_option maxHeartbeats 2000000 in
theorem pgrowth (x b : Int) (w : World) (hx : 0 ≤ x ∧ x ≤ 1000000000) (hb : 0 ≤ b ∧ b ≤ 10000) : Calls Tryz.prog 124 #[.agg #[.int .i64 x, .int .i64 b]] w fun e w' => e = .returned (.int .i64 (min (x * b / 10000) (1000000000 - x))) ∧ Below w.heap.size w w' := by
 have HPA : Hid (∀ W, Calls Tryz.prog 115 #[.int .i64 x, .int .i64 b] W fun e w' => e = .returned (.tuple #[.int .i64 (x * b / 10000), .int .i64 0]) ∧ Below W.heap.size W w') := fun W => cents.part_yes x b W hx.1 (by omega) hb.1 hb.2
 have HBX : Hid (Blk (w.alloc (.cells #[.int .i64 x, .int .i64 b] 43)) w.heap.size #[.int .i64 x, .int .i64 b] 43) := Blk.new w _ _
 have HBW : Hid (Below w.heap.size w (w.alloc (.cells #[.int .i64 x, .int .i64 b] 43))) := (Below.refl _ _).alloc (Nat.le_refl _) _
 obtain ⟨hx0, hx1⟩ := hx
 clear hb
 have hmin := tar.run_min (x * b / 10000) (1000000000 - x) _ rfl
 generalize x * b / 10000 = q at *
 generalize min q (1000000000 - x) = m at *
 go_enter Tryz.func124, Tryz.ntmps124
 go_wp2_with fail
 refine (HPA.out _).mono ?_
 rintro e w1 ⟨rfl, hb1⟩
 have HB1 := shB HBW hb1
 have c0 : w1.cell? ⟨w.heap.size, 0, none⟩ = some (.int .i64 x) := (HBX.out.next hb1).cell 0
 have c1 : w1.cell? ⟨w.heap.size, 1, none⟩ = some (.int .i64 b) := (HBX.out.next hb1).cell 1
 clear hb1 HPA HBX HBW
 go_wp2_with fail
 go_ret
 exact ⟨rfl, HB1.out⟩
def mixK (l : List Du) (m k : Nat) : List Du := ageAll (l.take k) m ++ l.drop k
theorem mix_all (l : List Du) (m k : Nat) (h : l.length = k) : mixK l m k = ageAll l m := by
 subst h
 unfold mixK
 rw [List.take_length, List.drop_length, List.append_nil]
theorem mix_len (l : List Du) (m k : Nat) (hk : k ≤ l.length) : (mixK l m k).length = l.length := by
 unfold mixK
 rw [List.length_append, ageAll_len, List.length_take, List.length_drop]; omega
theorem drop_one (l : List Du) (k : Nat) (hk : k < l.length) : l.drop k = l.getD k du0 :: l.drop (k + 1) := by
 rw [List.drop_eq_getElem_cons hk]
 simp [List.getD, List.getElem?_eq_getElem hk]
theorem mix_at (l : List Du) (m k : Nat) (hk : k < l.length) : (mixK l m k).getD k du0 = l.getD k du0 := by
 unfold mixK
 have e : (ageAll (l.take k) m).length = k := by rw [ageAll_len, List.length_take]; omega
 rw [drop_one l k hk, List.getD, List.getElem?_append_right (by omega), e, Nat.sub_self]; simp
theorem mix_set (l : List Du) (m k : Nat) (hk : k < l.length) (d : Du) : (mixK l m k).set k d = ageAll (l.take k) m ++ d :: l.drop (k + 1) := by
 unfold mixK
 have e : (ageAll (l.take k) m).length = k := by rw [ageAll_len, List.length_take]; omega
 rw [drop_one l k hk, List.set_append_right _ _ (by omega), e, Nat.sub_self, List.set_cons_zero]
theorem mix_next (l : List Du) (m k : Nat) (hk : k < l.length) : (mixK l m k).set k ⟨growN (l.getD k du0).b m (l.getD k du0).a, (l.getD k du0).b⟩ = mixK l m (k + 1) := by
 rw [mix_set l m k hk]
 unfold mixK
 rw [ageAll_take l m k hk]; simp
theorem mix_same (l : List Du) (m k : Nat) (hk : k < l.length) : (mixK l m k).set k ⟨growN (l.getD k du0).b 0 (l.getD k du0).a, (l.getD k du0).b⟩ = mixK l m k := by
 rw [mix_set l m k hk]
 show ageAll (l.take k) m ++ l.getD k du0 :: l.drop (k + 1) = mixK l m k
 unfold mixK
 rw [drop_one l k hk]
theorem cells_set (l : List Du) (k : Nat) (hk : k < l.length) (x b : Int) (hb : (l.getD k du0).b = b) : tar.cellsD (l.set k ⟨x, b⟩) = (tar.cellsD l).set (k * 2) (.int .i64 x) := by
 induction l generalizing k with
 | nil => simp at hk
 | cons d l ih =>
  cases k with
  | zero =>
   have e : d.b = b := by simpa using hb
   subst e; rfl
  | succ k =>
   rw [show (k + 1) * 2 = k * 2 + 1 + 1 by omega]
   have h1 : k < l.length := by simpa using hk
   have h2 := ih k h1 (by simpa using hb)
   show tar.cellsD (d :: l.set k ⟨x, b⟩) = _
   simp only [tar.cellsD, List.set_cons_succ, h2]
theorem ld_put {T : TypeId} {w W : World} {base g n cap : Nat} {l : List Du} {cur : Array Value} (h : Ld T w base (.slice (some ⟨g, 0, none⟩) n cap) l) (hB : Blk w g cur T) (k : Nat) (hk : k < l.length) (x b : Int) (hb : (l.getD k du0).b = b) (hU : Upd w W g (cur.setIfInBounds (k * 2) (.int .i64 x)) T) : Ld T W base (.slice (some ⟨g, 0, none⟩) n cap) (l.set k ⟨x, b⟩) := by
 unfold Ld at *
 rw [List.length_set, cells_set l k hk x b hb]
 refine ⟨by rw [List.length_set]; exact h.1, ?_⟩
 rcases h.2 with ⟨h', _⟩ | ⟨g', cap', cur', hv, hg, hc, hn, hm, hz, ht⟩
 ·cases h'
 ·simp only [Value.slice.injEq, Option.some.injEq, Addr.mk.injEq, and_true] at hv
  obtain ⟨rfl, rfl, rfl⟩ := hv
  have e : cur' = cur := by
   have h1 : w.heap[g]? = some (.cells cur T (0, 0)) := hB
   rw [h1] at hc
   injection hc with hc
   injection hc with hc
   exact hc.symm
  subst e
  exact .inr ⟨g, cap, _, rfl, hg, hU.blk, hn, hm, by simpa using hz, by rw [Array.toList_setIfInBounds, ← ht, List.take_set]⟩
theorem ld_lies {T : TypeId} {w : World} {base n cap : Nat} {a : Option Addr} {l : List Du} (h : Ld T w base (.slice a n cap) l) (hn : 0 < n) : ∃ g cur, a = some ⟨g, 0, none⟩ ∧ base ≤ g ∧ Blk w g cur T ∧ n * 2 ≤ cur.size ∧ (∀ k, k < l.length → w.cell? ⟨g, k * 2, none⟩ = some (.int .i64 (l.getD k du0).a) ∧ w.cell? ⟨g, k * 2 + 1, none⟩ = some (.int .i64 (l.getD k du0).b)) := by
 rcases h.2 with ⟨h', h0⟩ | ⟨g, cap', cur, hv, hg, hc, hle, hm, hz, ht⟩
 ·simp only [Value.slice.injEq] at h'; omega
 ·simp only [Value.slice.injEq] at hv
  obtain ⟨rfl, rfl, rfl⟩ := hv
  refine ⟨g, cur, rfl, hg, hc, by omega, fun k hk => ?_⟩
  have e1 := World.ownsRow.cellAt h (k * 2) (by omega)
  have e2 := World.ownsRow.cellAt h (k * 2 + 1) (by omega)
  rw [e1, e2]
  exact tar.cellsD_at l k hk
set_option maxHeartbeats 4000000 in
theorem kage : KdAge := by
 intro w a len cap ls mo hcame hmw
 have hr := hcame.row
 have HBY : Hid (len * 16 ≤ 140737488351232) := hcame.bytes
 have HNIL : Hid (a = none → cap = 0) := hcame.nil
 have HFA : Hid (Calls Tryz.prog 100 #[.slice a len cap] w fun e w' => ∃ f, e = .returned (.int .i64 f) ∧ FaultIs ls f ∧ Below w.heap.size w w') := pcheck a len cap ls w hr hcame.most
 have HIM : Hid (∀ W, Calls Tryz.prog 107 #[.int .i64 0, .int .i64 2400, .int .i64 mo] W fun e w' => e = .returned (.bool (decide (0 ≤ mo ∧ mo ≤ 2400))) ∧ w' = W) := fun W => dwithin 0 2400 mo W
 have HROW0 : Hid (RowD w a len ls) := hr
 clear hcame hr hmw
 go_enter Tryz.func122, Tryz.ntmps122
 go_wp2_with fail
 go_step3
 go_wp2_with fail
 refine HFA.out.mono ?_
 rintro e w1 ⟨f, rfl, hf, hb1⟩
 have HB1 : Hid (Below w.heap.size w w1) := hb1
 have HF : Hid (FaultIs ls f) := hf
 clear hb1 HFA
 by_cases h0 : f = 0
 ·subst h0
  have hm := hf.ok.1 rfl
  have HM : Hid (Mays ls) := hm
  have HROW : Hid (RowD w1 a len ls) := HROW0.out.below HB1.out
  have HLEN : Hid (ls.length = len) := HROW.out.1
  have hl8 : len ≤ 8 := by have := hm.1; have := HLEN.out; omega
  clear hf hm HROW0 HF
  by_cases hmm : 0 ≤ mo ∧ mo ≤ 2400
  ·rw [decide_eq_true hmm] at HIM
   have HMO : Hid (0 ≤ mo ∧ mo ≤ 2400) := hmm
   obtain ⟨m, rfl⟩ := Int.eq_ofNat_of_zero_le hmm.1
   have hm2 : m ≤ 2400 := by omega
   have HMT : Hid ((m : Int).toNat = m) := by show _ = _; omega
   clear hmm
   go_wp2_with fail
   refine (HIM.out _).mono ?_
   rintro e w2 ⟨rfl, hw2⟩
   subst hw2
   clear HIM
   cases a with
   | none =>
    have hc0 := HNIL.out rfl
    have hl0 : len = 0 := by rcases HROW.out.2 with h | ⟨b, off, h, _⟩; exact h; cases h
    subst hc0 hl0
    have happ : ∀ w : World, (Builtin.append_ #[57, 57] 57 #[.slice none 0 0, .slice none 0 0]).run Tryz.prog w = .ok (.slice none 0 0) w := fun w => by kernel_rfl
    have HAI : Hid (AgeIs ls (m : Int) (ageAll ls m) 0) := .inr (.inr ⟨HM.out, HMO.out, rfl, by rw [HMT.out]⟩)
    have HZ : Hid (ageAll ls m = []) := by
     obtain rfl : ls = [] := List.eq_nil_of_length_eq_zero HLEN.out
     rfl
    go_wp2_with fail
    go_step3
    go_wp2_with fail
    go_loopg [22] 0 (fun g z wr => z = .int .i64 0 ∧ wr = w2)
    case atStart => exact ⟨rfl, rfl⟩
    case round =>
     obtain ⟨rfl, rfl⟩ := hrel
     go_wp2_with fail
     try rw [Exit.noGoto_ret]
     go_ret2
     exact ⟨none, 0, 0, _, 0, rfl, HAI.out, by rw [HZ.out]; exact fresh_nil _ _, HB1.out⟩
   | some A =>
    go_wp2_with (first
     | (at_builtin; refine tar.wp_pairs debtT rfl _ _ rfl w2.heap.size A len cap ls rfl rfl HROW.out HBY.out (Nat.le_refl _) ?_)
     | fail)
    intro v3 w3 hown hg
    obtain ⟨a3, cap3, hv3, hcm⟩ := ld_mays hown HM.out
    rw [HLEN.out] at hv3
    subst hv3
    have HL3 : Hid (Ld 43 w3 w2.heap.size (.slice a3 len cap3) ls) := hown
    have HB3 : Hid (Below w2.heap.size w2 w3) := (Below.refl _ _).grown hg (Nat.le_refl _) (fun k hk => by cases hk)
    clear hown hg hcm
    go_wp2_with fail
    go_step3
    go_wp2_with fail
    have HMIX : Hid (Ld 43 w3 w2.heap.size (.slice a3 len cap3) (mixK ls m 0)) := HL3.out
    go_loopg [22] len (fun g z wr => ∃ k : Nat, k + g = len ∧ z = .int .i64 (k : Int) ∧ Ld 43 wr w2.heap.size (.slice a3 len cap3) (mixK ls m k) ∧ Below w2.heap.size w2 wr)
    case atStart => exact ⟨0, by omega, rfl, HMIX.out, HB3.out⟩
    case round =>
     obtain ⟨k, hkg, rfl, hl, hb⟩ := hrel
     have HLK : Hid (Ld 43 wr w2.heap.size (.slice a3 len cap3) (mixK ls m k)) := hl
     have HBK : Hid (Below w2.heap.size w2 wr) := hb
     clear hl hb HMIX HL3 HB3
     cases gk with
     | zero =>
      obtain rfl : k = len := by omega
      have hdl : decide ((k : Int) < (k : Int)) = false := by simp
      have HAI : Hid (AgeIs ls (m : Int) (ageAll ls m) 0) := .inr (.inr ⟨HM.out, HMO.out, rfl, by rw [HMT.out]⟩)
      have HLE : Hid (Ld 43 wr w2.heap.size (.slice a3 k cap3) (ageAll ls m)) := by have := HLK.out; rw [mix_all ls m k HLEN.out] at this; exact this
      have HCM : Hid (Fresh wr w.heap.size a3 k cap3 (ageAll ls m)) := by
       obtain ⟨a4, cap4, hv4, hcm⟩ := ld_fresh HLE.out (ageAll_mays HM.out m)
       have e : (ageAll ls m).length = k := by rw [ageAll_len]; exact HLEN.out
       rw [e] at hv4 hcm
       simp only [Value.slice.injEq, true_and] at hv4
       obtain ⟨rfl, rfl⟩ := hv4
       exact hcm.low HB1.out.size
      have HB9 : Hid (Below w.heap.size w wr) := HB1.out.trans (HBK.out.mono HB1.out.size)
      clear HLK HLE
      generalize ageAll ls m = Z at *
      go_wp2_with fail
      try rw [Exit.noGoto_ret]
      go_ret2
      exact ⟨a3, k, cap3, Z, 0, rfl, HAI.out, HCM.out, HB9.out⟩
     | succ g =>
      have hlt : k < len := by omega
      have hdl : decide ((k : Int) < (len : Int)) = true := by simp; omega
      have hkl : k < ls.length := by rw [HLEN.out]; exact hlt
      have ho := HM.out.2 k hkl
      have HML : Hid ((mixK ls m k).length = len) := by show _ = _; rw [mix_len ls m k (by omega)]; exact HLEN.out
      have HSM : Hid ((mixK ls m k).set k ⟨growN (ls.getD k du0).b 0 (ls.getD k du0).a, (ls.getD k du0).b⟩ = mixK ls m k) := mix_same ls m k hkl
      have HNX : Hid ((mixK ls m k).set k ⟨growN (ls.getD k du0).b m (ls.getD k du0).a, (ls.getD k du0).b⟩ = mixK ls m (k + 1)) := mix_next ls m k hkl
      have hx0 := ho.1.1
      have hx1 := ho.1.2
      have hy0 := ho.2.1
      have hy1 := ho.2.2
      clear ho hkl
      generalize (ls.getD k du0).a = x at *
      generalize (ls.getD k du0).b = y at *
      go_wp2_with fail
      go_loopg [26] m (fun g2 z wy => ∃ j : Nat, j + g2 = m ∧ z = .int .i64 (j : Int) ∧ Ld 43 wy w2.heap.size (.slice a3 len cap3) ((mixK ls m k).set k ⟨growN y j x, y⟩) ∧ Below w2.heap.size w2 wy)
      case atStart => exact ⟨0, by omega, rfl, by rw [HSM.out]; exact HLK.out, HBK.out⟩
      case round =>
       rename_i wo
       obtain ⟨j, hjg, rfl, hl, hb⟩ := hrel
       have HLJ : Hid (Ld 43 wr w2.heap.size (.slice a3 len cap3) ((mixK ls m k).set k ⟨growN y j x, y⟩)) := hl
       have HBJ : Hid (Below w2.heap.size w2 wr) := hb
       clear hl hb HLK HBK HSM
       cases gk with
       | zero =>
        obtain rfl : j = m := by omega
        have hdj : decide ((j : Int) < (j : Int)) = false := by simp
        have HLN : Hid (Ld 43 wr w2.heap.size (.slice a3 len cap3) (mixK ls j (k + 1))) := by have := HLJ.out; rw [HNX.out] at this; exact this
        clear HLJ HNX
        go_wp2_with fail
        go_roundg g
        case measure => omega
        case rel => exact ⟨k + 1, by omega, by first | rfl | go_num, HLN.out, HBJ.out⟩
       | succ g2 =>
        have hdj : decide ((j : Int) < (m : Int)) = true := by simp; omega
        have hjm : j < m := by omega
        obtain ⟨gg, cur, hga, hgb, hblk, hcs, hcc⟩ := ld_lies HLJ.out (by omega)
        have hcell := hcc k (by rw [List.length_set, HML.out]; exact hlt)
        have hat : ((mixK ls m k).set k ⟨growN y j x, y⟩).getD k du0 = ⟨growN y j x, y⟩ := by
         have : k < (mixK ls m k).length := by rw [HML.out]; exact hlt
         simp [List.getD, this]
        rw [hat] at hcell
        obtain ⟨off, hoff⟩ : ∃ off : Nat, off = 0 := ⟨0, rfl⟩
        have HOFF : Hid (off = 0) := hoff
        have hga2 : a3 = some ⟨gg, off, none⟩ := by rw [hga, hoff]
        have c0 : wr.cell? ⟨gg, off + k * 2, none⟩ = some (.int .i64 (growN y j x)) := by rw [hoff, Nat.zero_add]; exact hcell.1
        have c1 : wr.cell? ⟨gg, off + k * 2 + 1, none⟩ = some (.int .i64 y) := by rw [hoff, Nat.zero_add]; exact hcell.2
        have HBL : Hid (Blk wr gg cur 43) := hblk
        have hin : off + k * 2 < cur.size := by omega
        have HGB : Hid (w2.heap.size ≤ gg) := hgb
        clear hcell hat hcc hblk hgb hga hcs hoff
        subst hga2
        have hgn := growN_bd hy0 hy1 hx0 hx1 j
        have hu0 : 0 ≤ growN y j x := by omega
        have hu1 := hgn.2
        have HGS : Hid (growN y (j + 1) x = grow y (growN y j x)) := rfl
        have HGR : Hid (∀ W, Calls Tryz.prog 124 #[.agg #[.int .i64 (growN y j x), .int .i64 y]] W fun e w' => e = .returned (.int .i64 (min (growN y j x * y / 10000) (1000000000 - growN y j x))) ∧ Below W.heap.size W w') := fun W => pgrowth _ _ W ⟨hu0, hu1⟩ ⟨hy0, hy1⟩
        have HMO2 : Hid (grow y (growN y j x) = growN y j x + min (growN y j x * y / 10000) (1000000000 - growN y j x)) := grow_more hu0 hu1 hy0
        have hv0 : 0 ≤ min (growN y j x * y / 10000) (1000000000 - growN y j x) := by
         have := Int.mul_nonneg hu0 hy0
         generalize growN y j x * y = pp at *
         omega
        have hv1 : min (growN y j x * y / 10000) (1000000000 - growN y j x) ≤ 1000000000 - growN y j x := Int.min_le_right _ _
        generalize min (growN y j x * y / 10000) (1000000000 - growN y j x) = v at *
        clear hgn
        by_cases hz : v = 0
        ·have hvz : (v == 0) = true := by simpa using hz
         have HST : Hid (growN y m x = growN y j x) := by
          have h1 : grow y (growN y j x) = growN y j x := by rw [HMO2.out, hz]; omega
          have h2 := growN_still h1 (m - j)
          rw [growN_add, show j + (m - j) = m by omega] at h2
          exact h2
         have HLN : Hid (Ld 43 wr w2.heap.size (.slice (some ⟨gg, off, none⟩) len cap3) (mixK ls m (k + 1))) := by have := HLJ.out; rw [← HST.out, HNX.out] at this; exact this
         clear hz HST HNX HLJ
         generalize growN y j x = u at *
         go_wp2_with fail
         refine (HGR.out _).mono ?_
         rintro e w5 ⟨rfl, hb5⟩
         have HL5 : Hid (Ld 43 w5 w2.heap.size (.slice (some ⟨gg, off, none⟩) len cap3) (mixK ls m (k + 1))) := HLN.out.next hb5
         have HB5 := shB HBJ hb5
         clear hb5 HGR HLN c0 c1
         go_wp2_with fail
         go_roundg g
         case measure => omega
         case rel => exact ⟨k + 1, by omega, by first | rfl | go_num, HL5.out, HB5.out⟩
        ·have hvz : (v == 0) = false := by simpa using hz
         have HSS : Hid (((mixK ls m k).set k ⟨growN y j x, y⟩).set k ⟨growN y j x + v, y⟩ = (mixK ls m k).set k ⟨growN y (j + 1) x, y⟩) := by show _ = _; rw [List.set_set, HGS.out, HMO2.out]
         have HAT : Hid ((((mixK ls m k).set k ⟨growN y j x, y⟩).getD k du0).b = y) := by
          have : k < (mixK ls m k).length := by rw [HML.out]; exact hlt
          show _ = _
          simp [List.getD, this]
         have HKL : Hid (k < ((mixK ls m k).set k ⟨growN y j x, y⟩).length) := by show _ < _; rw [List.length_set, HML.out]; exact hlt
         clear hz HGS HMO2
         generalize (mixK ls m k).set k ⟨growN y j x, y⟩ = Z at *
         generalize growN y j x = u at *
         go_wp2_with fail
         refine (HGR.out _).mono ?_
         rintro e w5 ⟨rfl, hb5⟩
         have HL5 : Hid (Ld 43 w5 w2.heap.size (.slice (some ⟨gg, off, none⟩) len cap3) Z) := HLJ.out.next hb5
         have HB5 := shB HBJ hb5
         have HK5 := shN HBL hb5
         have e0 : w5.cell? ⟨gg, off + k * 2, none⟩ = some (.int .i64 u) := (hb5.cell (p := ⟨gg, off + k * 2, none⟩) HBL.out.lt).trans c0
         clear hb5 HGR HLJ c0 c1 HBL HBJ
         go_wp2_with (first
          | (refine wp_let1 rfl 3 _ _ rfl gg (off + k * 2) rfl .i64 (u + v) rfl (by kernel_rfl) cur 43 HK5.out hin ?_)
          | fail)
         intro W6 hU
         have HL6 : Hid (Ld 43 W6 w2.heap.size (.slice (some ⟨gg, off, none⟩) len cap3) ((mixK ls m k).set k ⟨growN y (j + 1) x, y⟩)) := by
          obtain rfl := HOFF.out
          rw [Nat.zero_add] at hU
          show Ld _ _ _ _ _
          rw [← HSS.out]
          exact ld_put HL5.out HK5.out k HKL.out _ _ HAT.out hU
         have HB6 : Hid (Below w2.heap.size w2 W6) := hU.bel _ _ HGB.out HB5.out
         clear hU HL5 HK5 HB5 e0
         go_wp2_with fail
         go_roundg g2
         case measure => omega
         case rel => exact ⟨j + 1, by omega, by first | rfl | go_num, HL6.out, HB6.out⟩
  ·rw [decide_eq_false hmm] at HIM
   have HMO : Hid (¬ (0 ≤ mo ∧ mo ≤ 2400)) := hmm
   clear hmm
   go_wp2_with fail
   refine (HIM.out _).mono ?_
   rintro e w2 ⟨rfl, hw2⟩
   subst hw2
   go_wp2_with fail
   try rw [Exit.noGoto_ret]
   go_ret2
   exact ⟨none, 0, 0, [], 2, rfl, .inr (.inl ⟨HM.out, HMO.out, rfl, rfl⟩), fresh_nil _ _, HB1.out⟩
 ·have hne : (f != 0) = true := by simpa using h0
  have HN : Hid (¬ Mays ls) := fun h => h0 (hf.ok.2 h)
  clear hf h0 HIM
  go_wp2_with fail
  try rw [Exit.noGoto_ret]
  go_ret2
  exact ⟨none, 0, 0, [], f, rfl, .inl ⟨HN.out, HF.out, rfl⟩, fresh_nil _ _, HB1.out⟩
end deb
end Go.Proofs.YtomibnggmhjdfaaGreat
