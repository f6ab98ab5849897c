import Derived.Test.YtomibnggmhjdfaaGreatVVRrs30
set_option linter.unusedVariables false
set_option linter.unusedSimpArgs false
namespace Go.Proofs.YtomibnggmhjdfaaGreat
namespace acc
open tar (Du du0 Came RowD Ld PairT)
open Go.RowKit
set_option maxRecDepth 100000
def NumPost (w : World) (g : Nat) (x : Ac) (b : Bi) (p : Option Addr) (len cap : Nat) (e : Ending) (w' : World) : Prop :=
 Chg w w' g ∧ ((¬ x.nx ≤ 1048575 ∧ e = .returned (.int .i64 20) ∧ Blk w' g (wcs x b p len cap) 121) ∨ (x.nx ≤ 1048575 ∧ e = .returned (.int .i64 0) ∧ Blk w' g (wcs { x with nx := x.nx + 1 } { b with id := x.nx } p len cap) 121))
set_option maxHeartbeats 2000000 in
theorem pnum (g : Nat) (x : Ac) (b : Bi) (p : Option Addr) (len cap : Nat) (w : World) (hw : Blk w g (wcs x b p len cap) 121) (hn : 1 ≤ x.nx ∧ x.nx ≤ 1048576) : Calls Tryz.prog 117 #[.pointer (some ⟨g, 0, none⟩)] w fun e w' => NumPost w g x b p len cap e w' := by
 obtain ⟨me, rv, nx, mo, bo, fr, ds⟩ := x
 obtain ⟨id, te, de, fe, pr, ch, un⟩ := b
 simp only [] at hn
 have HI : Hid (Blk w g #[.int .i64 me, .int .i64 rv, .int .i64 nx, .int .i64 mo, .int .i64 bo, .int .i64 fr, .slice p len cap, .int .i64 id, .int .i64 te, .int .i64 de, .int .i64 fe, .int .i64 pr, .int .i64 ch, .int .i64 un] 121) := hw
 have q2 : w.cell? ⟨g, 2, none⟩ = some (.int .i64 nx) := HI.out.cell 2
 clear hw
 by_cases h1 : nx ≤ 1048575
 ·have d1 : decide (1048575 < nx) = false := decide_eq_false (by omega)
  have hwr : IntKind.i64.wrap (nx + 1) = nx + 1 := by rw [IntKind.wrap_i64]; omega
  have H1 : Hid (nx ≤ 1048575) := h1
  go_enter Tryz.func117, Tryz.ntmps117
  go_wp2_with (first | (refine wp_let1 rfl 3 _ _ rfl g 7 rfl .i64 nx rfl (by kernel_rfl) #[.int .i64 me, .int .i64 rv, .int .i64 nx, .int .i64 mo, .int .i64 bo, .int .i64 fr, .slice p len cap, .int .i64 id, .int .i64 te, .int .i64 de, .int .i64 fe, .int .i64 pr, .int .i64 ch, .int .i64 un] 121 HI.out (by simp) ?_) | fail)
  intro W1 hU1
  have HI1 : Hid (Blk W1 g #[.int .i64 me, .int .i64 rv, .int .i64 nx, .int .i64 mo, .int .i64 bo, .int .i64 fr, .slice p len cap, .int .i64 nx, .int .i64 te, .int .i64 de, .int .i64 fe, .int .i64 pr, .int .i64 ch, .int .i64 un] 121) := hU1.blk
  have HC1 : Hid (Chg w W1 g) := .upd hU1
  have q2' : W1.cell? ⟨g, 2, none⟩ = some (.int .i64 nx) := HI1.out.cell 2
  clear hU1 q2 HI d1
  go_wp2_with (first | (refine wp_let1 rfl 3 _ _ rfl g 2 rfl .i64 (nx + 1) rfl (by kernel_rfl) #[.int .i64 me, .int .i64 rv, .int .i64 nx, .int .i64 mo, .int .i64 bo, .int .i64 fr, .slice p len cap, .int .i64 nx, .int .i64 te, .int .i64 de, .int .i64 fe, .int .i64 pr, .int .i64 ch, .int .i64 un] 121 HI1.out (by simp) ?_) | fail)
  intro W2 hU2
  have HI2 : Hid (Blk W2 g #[.int .i64 me, .int .i64 rv, .int .i64 (nx + 1), .int .i64 mo, .int .i64 bo, .int .i64 fr, .slice p len cap, .int .i64 nx, .int .i64 te, .int .i64 de, .int .i64 fe, .int .i64 pr, .int .i64 ch, .int .i64 un] 121) := hU2.blk
  have HC2 : Hid (Chg w W2 g) := HC1.out.trans (.upd hU2)
  clear hU2 q2' HI1 HC1
  go_wp2_with fail
  go_ret
  exact ⟨HC2.out, .inr ⟨H1.out, rfl, HI2.out⟩⟩
 ·have d1 : decide (1048575 < nx) = true := decide_eq_true (by omega)
  have H1 : Hid (¬ nx ≤ 1048575) := h1
  clear h1 hn
  go_enter Tryz.func117, Tryz.ntmps117
  go_wp2_with fail
  go_ret
  exact ⟨Chg.refl _ _, .inl ⟨Int.not_le.2 H1.out, rfl, HI.out⟩⟩
end acc
namespace deb
open tar (Du du0 Came TwoPost)
open Go.RowKit
def KdRec : Prop := ∀ (W : World) (a : Option Addr) (len cap : Nat) (ls : List Du) (t bp : Int), Came W a len cap ls → (Lit.int .i64 t).wf = true → (Lit.int .i64 bp).wf = true → Calls Tryz.prog 114 #[.slice a len cap, .int .i64 t, .int .i64 bp] W fun e w' => RecPost W ls t bp e w'
open tar (RowD Ld ErrPost PairT GaveD)
set_option maxRecDepth 100000
def SharePost (ls : List Du) (t bp : Int) (w : World) (e : Ending) (w' : World) : Prop := ∃ s f, e = .returned (.tuple #[.int .i64 s, .int .i64 f]) ∧ ((¬ Mays ls ∧ FaultIs ls f ∧ s = 0) ∨ (Mays ls ∧ ShareIs t bp s f)) ∧ Below w.heap.size w w'
set_option maxHeartbeats 2000000 in
theorem pshare (a : Option Addr) (len cap : Nat) (ls : List Du) (t bp : Int) (w : World) (hr : RowD w a len ls) (hl : len ≤ maxLen) : Calls Tryz.prog 119 #[.slice a len cap, .int .i64 t, .int .i64 bp] w fun e w' => SharePost ls t bp w e w' := by
 have HFA : Hid (Calls Tryz.prog 100 #[.slice a len cap] w fun e w' => ∃ f, e = .returned (.int .i64 f) ∧ FaultIs ls f ∧ Below w.heap.size w w') := pcheck a len cap ls w hr hl
 have HIT : Hid (∀ W, Calls Tryz.prog 107 #[.int .i64 0, .int .i64 100000000, .int .i64 t] W fun e w' => e = .returned (.bool (decide (0 ≤ t ∧ t ≤ 100000000))) ∧ w' = W) := fun W => dwithin 0 100000000 t W
 clear hr hl
 go_enter Tryz.func119, Tryz.ntmps119
 go_wp2_with fail
 refine HFA.out.mono ?_
 rintro e w1 ⟨f, rfl, hf, hb1⟩
 have HB1 : Hid (Below w.heap.size w w1) := hb1
 have HF : Hid (FaultIs ls f) := hf
 clear hb1 HFA
 by_cases h0 : f = 0
 ·subst h0
  have HM : Hid (Mays ls) := hf.ok.1 rfl
  clear hf HF
  by_cases ht : 0 ≤ t ∧ t ≤ 100000000
  ·rw [decide_eq_true ht] at HIT
   by_cases hb : 0 ≤ bp ∧ bp ≤ 10000
   ·have HPA : Hid (∀ W, Calls Tryz.prog 115 #[.int .i64 t, .int .i64 bp] W fun e w' => e = .returned (.tuple #[.int .i64 (t * bp / 10000), .int .i64 0]) ∧ Below W.heap.size W w') := fun W => cents.part_yes t bp W ht.1 (by omega) hb.1 hb.2
    have HT : Hid (TMay t bp) := ⟨ht, hb⟩
    clear ht hb
    go_wp2_with fail
    refine (HIT.out _).mono ?_
    rintro e w2 ⟨rfl, hw2⟩
    subst hw2
    go_wp2_with fail
    refine (HPA.out _).mono ?_
    rintro e w3 ⟨rfl, hb3⟩
    have HB3 := shB HB1 hb3
    clear hb3
    go_wp2_with fail
    go_ret2
    exact ⟨_, _, rfl, .inr ⟨HM.out, .inl ⟨HT.out, rfl, rfl⟩⟩, HB3.out⟩
   ·have HPA : Hid (∀ W, Calls Tryz.prog 115 #[.int .i64 t, .int .i64 bp] W fun e w' => e = .returned (.tuple #[.int .i64 0, .int .i64 2]) ∧ Below W.heap.size W w') := fun W => cents.part_no t bp W (.inr (by omega))
    have HT : Hid (¬ TMay t bp) := fun h => hb h.2
    clear ht hb
    go_wp2_with fail
    refine (HIT.out _).mono ?_
    rintro e w2 ⟨rfl, hw2⟩
    subst hw2
    go_wp2_with fail
    refine (HPA.out _).mono ?_
    rintro e w3 ⟨rfl, hb3⟩
    have HB3 := shB HB1 hb3
    clear hb3
    go_wp2_with fail
    go_ret2
    exact ⟨_, _, rfl, .inr ⟨HM.out, .inr ⟨HT.out, rfl, rfl⟩⟩, HB3.out⟩
  ·rw [decide_eq_false ht] at HIT
   have HT : Hid (¬ TMay t bp) := fun h => ht h.1
   clear ht
   go_wp2_with fail
   refine (HIT.out _).mono ?_
   rintro e w2 ⟨rfl, hw2⟩
   subst hw2
   go_wp2_with fail
   go_ret2
   exact ⟨_, _, rfl, .inr ⟨HM.out, .inr ⟨HT.out, rfl, rfl⟩⟩, HB1.out⟩
 ·have hne : (f != 0) = true := by simpa using h0
  have HN : Hid (¬ Mays ls) := fun h => h0 (hf.ok.2 h)
  clear hf h0 HIT
  go_wp2_with fail
  go_ret2
  exact ⟨_, _, rfl, .inl ⟨HN.out, HF.out, rfl⟩, HB1.out⟩
set_option maxHeartbeats 4000000 in
theorem krec : KdRec := by
 intro w a len cap ls t bp hcame ht0 hb0
 have hr := hcame.row
 have HSH : Hid (Calls Tryz.prog 119 #[.slice a len cap, .int .i64 t, .int .i64 bp] w fun e w' => SharePost ls t bp w e w') := pshare a len cap ls t bp w hr hcame.most
 have HROW0 : Hid (RowD w a len ls) := hr
 clear hcame hr ht0 hb0
 go_enter Tryz.func114, Tryz.ntmps114
 go_wp2_with fail
 refine HSH.out.mono ?_
 rintro e w1 ⟨s, f, rfl, hf, hb1⟩
 have HB1 : Hid (Below w.heap.size w w1) := hb1
 clear hb1 HSH
 rcases hf with ⟨hm, hf, rfl⟩ | ⟨hm, ⟨ht, hse, hg⟩ | ⟨ht, rfl, rfl⟩⟩
 ·have hne : (f != 0) = true := by simpa using fun h => hm (hf.ok.1 h)
  have HN : Hid (¬ Mays ls) := hm
  have HF : Hid (FaultIs ls f) := hf
  clear hf hm
  go_wp2_with fail
  go_ret3
  exact ⟨none, 0, 0, [], 0, f, rfl, .inl ⟨HN.out, HF.out, rfl, rfl⟩, fresh_nil _ _, HB1.out⟩
 ·subst hg
  have HT : Hid (TMay t bp) := ht
  have hsb := share_bd ht
  rw [← hse] at hsb
  have HSE : Hid (s = t * bp / 10000) := hse
  have HM : Hid (Mays ls) := hm
  have HROW : Hid (RowD w1 a len ls) := HROW0.out.below HB1.out
  have HLEN : Hid (ls.length = len) := HROW.out.1
  have hl8 : len ≤ 8 := by have := hm.1; have := HLEN.out; omega
  clear ht hse hm HROW0
  go_wp2_with fail
  go_loopw [11, 12, 29] (fun u v x wr => ∃ (k : Nat) (V : Value), k ≤ len ∧ x = .int .i64 (k : Int) ∧ v = .int .i64 (max 0 (s - sumK ls k)) ∧ V = u ∧ Ld 43 wr w1.heap.size V (recK ls s k) ∧ Below w1.heap.size w1 wr) (fun _ _ x _ => len - (intOf x).toNat)
  case atStart => exact ⟨0, _, Nat.zero_le _, rfl, by show _ = Value.int .i64 (max 0 (s - 0)); rw [show max 0 (s - 0) = s by omega], rfl, tar.Ld.zero _ _ _, Below.refl _ _⟩
  case round =>
   obtain ⟨k, V, hk, rfl, rfl, hV, hu, hb⟩ := hrel
   subst hV
   have HBW : Hid (Below w1.heap.size w1 wr) := hb
   have HU : Hid (Ld 43 wr w1.heap.size V (recK ls s k)) := hu
   have hsk := sumK_bd HM.out k (by rw [HLEN.out]; exact hk)
   by_cases hlt : k < len
   ·have hdl : decide ((k : Int) < (len : Int)) = true := by simp; omega
    obtain ⟨b, off, rfl, hbl, hc⟩ := HROW.out.at (by omega)
    have c0 : wr.cell? ⟨b, off + k * 2, none⟩ = some (.int .i64 (ls.getD k du0).a) := (hb.cell (p := ⟨b, off + k * 2, none⟩) hbl).trans (hc k hlt).1
    have c1 : wr.cell? ⟨b, off + k * 2 + 1, none⟩ = some (.int .i64 (ls.getD k du0).b) := (hb.cell (p := ⟨b, off + k * 2 + 1, none⟩) hbl).trans (hc k hlt).2
    have ho := HM.out.2 k (by rw [HLEN.out]; exact hlt)
    have ho1 := ho.1.1
    have ho2 := ho.1.2
    have HN : Hid (sumK ls k + (ls.getD k du0).a = sumK ls (k + 1)) := (sumK_next ls k).symm
    have HY : Hid (0 < left (ls.getD k du0).a (sumK ls k + (ls.getD k du0).a) s → recK ls s (k + 1) = recK ls s k ++ [⟨left (ls.getD k du0).a (sumK ls k + (ls.getD k du0).a) s, (ls.getD k du0).b⟩]) := recK_yes ls s k
    have HZ : Hid (¬ 0 < left (ls.getD k du0).a (sumK ls k + (ls.getD k du0).a) s → recK ls s (k + 1) = recK ls s k) := recK_no ls s k
    have hzl : (recK ls s k).length ≤ 1000000 := by have := recK_len ls s k; omega
    clear hc hb hu ho
    generalize recK ls s k = Z at *
    generalize hq1 : sumK ls k = q at *
    generalize (ls.getD k du0).a = x at *
    generalize (ls.getD k du0).b = y at *
    have HBX : Hid (Blk (wr.alloc (.cells #[.int .i64 x, .int .i64 y] 43)) wr.heap.size #[.int .i64 x, .int .i64 y] 43) := Blk.new wr _ _
    generalize hR : max 0 (s - q) = R at *
    have hR0 : 0 ≤ R := by omega
    have hR1 : R ≤ 100000000 := by omega
    have hmin := tar.run_min R x _ rfl
    generalize hp : min R x = p at *
    have hp0 : 0 ≤ p := by omega
    have hp1 : p ≤ x := by omega
    have hp2 : p ≤ R := by omega
    by_cases hpos : 0 < x - p
    ·
     have HRN : Hid (R - p = max 0 (s - sumK ls (k + 1))) := by show _ = _; rw [← HN.out]; omega
     have hd2 : decide (0 < x - p) = true := decide_eq_true hpos
     have hle : left x (q + x) s = x - p := by unfold left; omega
     rw [hle] at HY
     have HZ2 : Hid (recK ls s (k + 1) = Z ++ [⟨x - p, y⟩]) := HY.out hpos
     clear HY HZ hle
     clear hq1 hR hp hsk HN
     go_wp2_with (first
      | (refine wp_let1 rfl 3 _ _ rfl (wr.heap.size) 0 rfl .i64 (x - p) rfl (by kernel_rfl) #[.int .i64 x, .int .i64 y] 43 HBX.out (by simp) ?_)
      | fail)
     intro W1 hU1
     have HX1 : Hid (Blk W1 wr.heap.size #[.int .i64 (x - p), .int .i64 y] 43) := hU1.blk
     have hbw : Below wr.heap.size wr W1 := hU1.bel _ _ (Nat.le_refl _) ((Below.refl _ _).alloc (Nat.le_refl _) _)
     have HBW1 := shB HBW hbw
     have HU1 : Hid (Ld 43 W1 w1.heap.size V Z) := HU.out.next hbw
     have d0 : W1.cell? ⟨wr.heap.size, 0, none⟩ = some (.int .i64 (x - p)) := HX1.out.cell 0
     have d1 : W1.cell? ⟨wr.heap.size, 1, none⟩ = some (.int .i64 y) := HX1.out.cell 1
     clear hU1 hbw HBX HBW HU c0 c1
     have HBA : Hid (Below w1.heap.size w1 (W1.alloc (.cells #[.int .i64 (x - p), .int .i64 y] 43))) := HBW1.out.alloc HBW1.out.size _
     have HZA : Hid (Ld 43 (W1.alloc (.cells #[.int .i64 (x - p), .int .i64 y] 43)) w1.heap.size V Z) := HU1.out.alloc _
     have HCA : Hid ((W1.alloc (.cells #[.int .i64 (x - p), .int .i64 y] 43)).cell? ⟨W1.heap.size, 0, none⟩ = some (.int .i64 (x - p)) ∧ (W1.alloc (.cells #[.int .i64 (x - p), .int .i64 y] 43)).cell? ⟨W1.heap.size, 1, none⟩ = some (.int .i64 y)) := ⟨(Blk.new W1 _ _).cell 0, (Blk.new W1 _ _).cell 1⟩
     go_wp2_with (first
      | (at_builtin; refine tar.wp_pair debtT rfl _ _ rfl w1.heap.size (W1.heap.size) V Z ⟨x - p, y⟩ rfl rfl HZA.out HCA.out hzl HBA.out.size ?_)
      | fail)
     intro v3 w3 h3 hg3
     have HB3 : Hid (Below w1.heap.size w1 w3) := tar.own_bel HZA.out hg3 HBA.out (Nat.le_refl _) HBA.out.size
     have H3 : Hid (Ld 43 w3 w1.heap.size v3 (Z ++ [⟨x - p, y⟩])) := h3
     clear h3 hg3 HZA HCA HBA HU1 d0 d1
     go_wp2_with fail
     go_roundw
     case rel => exact ⟨k + 1, v3, by omega, by go_num, by rw [← HRN.out], by first | rfl | trivial, by rw [HZ2.out]; exact H3.out, HB3.out⟩
     case measure => simp [intOf]; omega
    ·
     have HRN : Hid (R - p = max 0 (s - sumK ls (k + 1))) := by show _ = _; rw [← HN.out]; omega
     have hd2 : decide (0 < x - p) = false := decide_eq_false hpos
     have hle : ¬ 0 < left x (q + x) s := by unfold left; omega
     have HZ2 : Hid (recK ls s (k + 1) = Z) := HZ.out hle
     clear HY HZ hle
     clear hq1 hR hp hsk HN
     go_wp2_with (first
      | (refine wp_let1 rfl 3 _ _ rfl (wr.heap.size) 0 rfl .i64 (x - p) rfl (by kernel_rfl) #[.int .i64 x, .int .i64 y] 43 HBX.out (by simp) ?_)
      | fail)
     intro W1 hU1
     have HX1 : Hid (Blk W1 wr.heap.size #[.int .i64 (x - p), .int .i64 y] 43) := hU1.blk
     have hbw : Below wr.heap.size wr W1 := hU1.bel _ _ (Nat.le_refl _) ((Below.refl _ _).alloc (Nat.le_refl _) _)
     have HBW1 := shB HBW hbw
     have HU1 : Hid (Ld 43 W1 w1.heap.size V Z) := HU.out.next hbw
     have d0 : W1.cell? ⟨wr.heap.size, 0, none⟩ = some (.int .i64 (x - p)) := HX1.out.cell 0
     have d1 : W1.cell? ⟨wr.heap.size, 1, none⟩ = some (.int .i64 y) := HX1.out.cell 1
     clear hU1 hbw HBX HBW HU c0 c1
     go_wp2_with fail
     go_roundw
     case rel => exact ⟨k + 1, V, by omega, by go_num, by rw [← HRN.out], by first | rfl | trivial, by rw [HZ2.out]; exact HU1.out, HBW1.out⟩
     case measure => simp [intOf]; omega
   ·obtain rfl : k = len := by omega
    have hdl : decide ((k : Int) < (k : Int)) = false := by simp
    have HV : Hid (sumK ls k = sumD ls) := by have := sumK_all ls; rw [HLEN.out] at this; exact this
    have HRE : Hid (recK ls s k = recK ls (t * bp / 10000) ls.length) := by show _ = _; rw [HLEN.out, HSE.out]
    have hmz : Mays (recK ls s k) := ⟨Nat.le_trans (recK_len ls s k) hl8, fits_mem fun d hd => (recK_ok HM.out s k (by rw [HLEN.out]; exact Nat.le_refl _) d hd).1⟩
    obtain ⟨a3, cap3, hv3, hcm⟩ := ld_fresh hu hmz
    subst hv3
    have HCM : Hid (Fresh wr w.heap.size a3 (recK ls s k).length cap3 (recK ls s k)) := hcm.low HB1.out.size
    have HB9 : Hid (Below w.heap.size w wr) := HB1.out.trans (HBW.out.mono HB1.out.size)
    have HP : Hid (s - max 0 (s - sumK ls k) = min (t * bp / 10000) (sumD ls)) := by show _ = _; rw [← HSE.out, ← HV.out]; omega
    clear hb hu hmz hcm HU
    generalize (recK ls s k).length = len3 at *
    generalize recK ls s k = Z at *
    generalize hq : max 0 (s - sumK ls k) = q at *
    have hq0 : 0 ≤ q := by omega
    have hq1 : q ≤ s := by omega
    clear hq hsk
    go_wp2_with fail
    go_ret3
    exact ⟨a3, len3, cap3, Z, s - q, 0, rfl, .inr (.inr ⟨HM.out, HT.out, rfl, HRE.out, HP.out⟩), HCM.out, HB9.out⟩
 ·have HM : Hid (Mays ls) := hm
  have HT : Hid (¬ TMay t bp) := ht
  clear ht hm
  go_wp2_with fail
  go_ret3
  exact ⟨none, 0, 0, [], 0, 2, rfl, .inr (.inl ⟨HM.out, HT.out, rfl, rfl, rfl⟩), fresh_nil _ _, HB1.out⟩
end deb
namespace tar
open Go.RowKit
abbrev Ln := { t : Tr // LineOk t }
def encL (t : Ln) : Array Value := #[.agg #[.int .i64 t.1.a, .int .i64 t.1.b, .int .i64 t.1.c]]
def lns (l : List Ln) : List Tr := l.map (fun t => t.1)
theorem lns_app (l m : List Ln) : lns (l ++ m) = lns l ++ lns m := by unfold lns; rw [List.map_append]
theorem lns_len (l : List Ln) : (lns l).length = l.length := by unfold lns; rw [List.length_map]
theorem lns_ok (l : List Ln) : ∀ t ∈ lns l, LineOk t := fun t ht => by
 unfold lns at ht
 obtain ⟨s, _, rfl⟩ := List.mem_map.1 ht
 exact s.2
def Kq (n lo hi : Nat) (W W' : World) : Prop := Below n W W' ∧ ∀ j, lo ≤ j → j < hi → W'.heap[j]? = W.heap[j]?
theorem Kq.trans {n lo hi : Nat} {A B C : World} (h : Kq n lo hi A B) (k : Kq n lo hi B C) : Kq n lo hi A C := ⟨h.1.trans k.1, fun j a b => (k.2 j a b).trans (h.2 j a b)⟩
theorem nxt_yes {l : List Du} (h : Right l) (x y : Int) (hx : 0 ≤ x) (hxy : x ≤ y) (k : Nat) (hk : k < l.length) (hp : 0 < min (l.getD k du0).a y - (x + manyK l x y k)) : min (l.getD k du0).a y - (x + manyK l x y k) = ov (low l k) (l.getD k du0).a x y := by
 have h1 := many_eq h x y hx hxy k (by omega)
 have h2 := h.rise k hk
 have h3 := h.low_pos k (by omega)
 rw [h1] at hp ⊢
 unfold ov
 omega
theorem nxt_no {l : List Du} (h : Right l) (x y : Int) (hx : 0 ≤ x) (hxy : x ≤ y) (k : Nat) (hk : k < l.length) (hp : ¬ 0 < min (l.getD k du0).a y - (x + manyK l x y k)) : ov (low l k) (l.getD k du0).a x y = 0 := by
 have h1 := many_eq h x y hx hxy k (by omega)
 have h2 := h.rise k hk
 have h3 := h.low_pos k (by omega)
 rw [h1] at hp
 unfold ov
 omega
theorem many_next (l : List Du) (x y : Int) (k : Nat) : manyK l x y (k + 1) = manyK l x y k + ov (low l k) (l.getD k du0).a x y := rfl
theorem many_bd {l : List Du} (h : Right l) (x y : Int) (hx : 0 ≤ x) (hxy : x ≤ y) (k : Nat) (hk : k ≤ l.length) : 0 ≤ manyK l x y k ∧ manyK l x y k ≤ y - x := by
 rw [many_eq h x y hx hxy k hk]; omega
theorem line_ok {l : List Du} (h : Right l) (x y : Int) (k : Nat) (hk : k < l.length) (hp : 0 < ov (low l k) (l.getD k du0).a x y) : LineOk ⟨ov (low l k) (l.getD k du0).a x y, (l.getD k du0).b, ov (low l k) (l.getD k du0).a x y * (l.getD k du0).b⟩ := by
 have h1 := h.price k hk
 have h2 := h.upto k hk
 have h3 := h.low_pos k (by omega)
 exact ⟨by show 1 ≤ ov _ _ _ _; omega, ov_le _ _ _ _ h3 h2.2, h1.1, h1.2, rfl⟩
theorem bill_prefix (l : List Du) (x y : Int) (k m : Nat) (hkm : k ≤ m) : billK l x y k <+: billK l x y m := by
 induction m with
 | zero => have : k = 0 := by omega
           subst this; exact List.prefix_refl _
 | succ m ih =>
  by_cases e : k = m + 1
  ·subst e; exact List.prefix_refl _
  ·exact (ih (by omega)).trans (List.prefix_append (billK l x y m) (if 0 < ov (low l m) (l.getD m du0).a x y then [⟨ov (low l m) (l.getD m du0).a x y, (l.getD m du0).b, ov (low l m) (l.getD m du0).a x y * (l.getD m du0).b⟩] else []))
open Go.Shelf
set_option maxRecDepth 100000
attribute [local go_sem] Oper.semAt_some
theorem boxed_same {W W' : World} {B : Nat} {t : TypeId} {v : Value} (h : Boxed W B t v) (e : W'.heap[B]? = W.heap[B]?) : Boxed W' B t v := e.trans h
set_option maxHeartbeats 2000000 in
theorem lines1_in (F : Fence) (n : Nat) (hF : F.fn 123) (hro : F.round = none) (hn : 1 ≤ n) (l Bf Bt Bu n₀ lo hi b off len cap B0 : Nat) (ls : List Du) (x u : Int) (J Jx : List Ln → World → Prop)
  (hR : Right ls) (hlen : ls.length = len) (hx : 0 ≤ x ∧ x ≤ 10000000) (hu : 0 ≤ u ∧ x + u ≤ 10000000) (hJ : AbidesFrom B0 J)
  (hY : ∀ pre t W, J pre W → pre.length < len → YieldAt F (n - 1) Tryz.prog l (encL t) W fun e W' =>
   (e = .returned (.bool true) ∧ J (pre ++ [t]) W' ∧ Kq n₀ lo hi W W') ∨ (e = .returned (.bool false) ∧ Jx (pre ++ [t]) W'))
  (W : World) (hf : Boxed W Bf 3 (.int .i64 x)) (ht : Boxed W Bt 22 (.slice (some ⟨b, off, none⟩) len cap)) (hun : Boxed W Bu 3 (.int .i64 u)) (h1 : lo ≤ Bf ∧ Bf < hi) (h2 : lo ≤ Bu ∧ Bu < hi) (hb : b < n₀) (hnW : n₀ ≤ W.heap.size)
  (hc : ∀ i, i < len → W.cell? ⟨b, off + i * 2, none⟩ = some (.int .i64 (ls.getD i du0).a) ∧ W.cell? ⟨b, off + i * 2 + 1, none⟩ = some (.int .i64 (ls.getD i du0).b)) (h0 : J [] W) :
  CallsIn F n Tryz.prog 123 #[.func (.yield l) #[] #[], .pointer (some ⟨Bf, 0, none⟩), .pointer (some ⟨Bt, 0, none⟩), .pointer (some ⟨Bu, 0, none⟩)] W fun e W' => (∃ v, e = .returned v) ∧
   ((∃ ys, lns ys = billK ls x (x + u) len ∧ J ys W') ∨ (∃ pre, lns pre <+: billK ls x (x + u) len ∧ Jx pre W')) := by
 have HR : Hid (Right ls) := hR
 have HY : Hid (∀ pre t W, J pre W → pre.length < len → YieldAt F (n - 1) Tryz.prog l (encL t) W fun e W' =>
   (e = .returned (.bool true) ∧ J (pre ++ [t]) W' ∧ Kq n₀ lo hi W W') ∨ (e = .returned (.bool false) ∧ Jx (pre ++ [t]) W')) := hY
 have HJ : Hid (AbidesFrom B0 J) := hJ
 have HC : Hid (∀ i, i < len → W.cell? ⟨b, off + i * 2, none⟩ = some (.int .i64 (ls.getD i du0).a) ∧ W.cell? ⟨b, off + i * 2 + 1, none⟩ = some (.int .i64 (ls.getD i du0).b)) := hc
 have HLEN : Hid (ls.length = len) := hlen
 have hl8 : len ≤ 8 := by have := hR.1.2; omega
 have ct := ht.cell
 have cf := hf.cell
 obtain ⟨hx0, hx1⟩ := hx
 obtain ⟨hu0, hu1⟩ := hu
 have HX : Hid (0 ≤ x ∧ x ≤ x + u ∧ x + u ≤ 10000000) := ⟨hx0, by omega, hu1⟩
 clear hR hY hJ hc hlen
 refine callsIn_of_wp Tryz.func123 rfl hF ?_ hro
 simp only [Tryz.ntmps123, List.size_toArray, List.length_cons, List.length_nil, Nat.reduceAdd, Nat.reduceSub, Array.replicate_succ, Array.replicate_zero, List.push_toArray, List.append_toArray, List.nil_append, List.cons_append]
 gi_wp2
 gi_loopw [5, 12] (fun r i wr => ∃ (k : Nat) (pre : List Ln), k ≤ len ∧ i = .int .i64 (k : Int) ∧ r = .int .i64 (x + manyK ls x (x + u) k) ∧ lns pre = billK ls x (x + u) k ∧ J pre wr ∧ Boxed wr Bf 3 (.int .i64 x) ∧ Boxed wr Bu 3 (.int .i64 u) ∧ Below n₀ W wr) (fun _ i _ => len - (intOf i).toNat)
 case atStart => exact ⟨0, [], Nat.zero_le _, rfl, by show _ = Value.int .i64 (x + 0); rw [Int.add_zero], rfl, h0, hf, hun, Below.refl _ _⟩
 case round =>
  obtain ⟨k, pre, hk, rfl, rfl, hpre, hj, hbf, hbu, hbl⟩ := hrel
  have HPRE : Hid (lns pre = billK ls x (x + u) k) := hpre
  have HJP : Hid (J pre wr) := hj
  have HBF : Hid (Boxed wr Bf 3 (.int .i64 x)) := hbf
  have HBU : Hid (Boxed wr Bu 3 (.int .i64 u)) := hbu
  have HBL : Hid (Below n₀ W wr) := hbl
  clear hpre hj hf hun ht ct cf
  by_cases hlt : k < len
  ·have hdl : decide ((k : Int) < (len : Int)) = true := by simp; omega
   have c0 : wr.cell? ⟨b, off + k * 2, none⟩ = some (.int .i64 (ls.getD k du0).a) := (hbl.cell (p := ⟨b, off + k * 2, none⟩) hb).trans (HC.out k hlt).1
   have c1 : wr.cell? ⟨b, off + k * 2 + 1, none⟩ = some (.int .i64 (ls.getD k du0).b) := (hbl.cell (p := ⟨b, off + k * 2 + 1, none⟩) hb).trans (HC.out k hlt).2
   have hkl : k < ls.length := by rw [HLEN.out]; exact hlt
   have hpr := HR.out.price k hkl
   have hup := HR.out.upto k hkl
   have hmb := many_bd HR.out x (x + u) hx0 (by omega) k (by omega)
   have hmin := run_min (ls.getD k du0).a (x + u) _ rfl
   have hpl : pre.length < len := by
    have e1 := lns_len pre
    have e2 := bill_len ls x (x + u) k
    rw [HPRE.out] at e1
    omega
   have HBA : Hid (∀ o, Below n₀ W (wr.alloc o)) := fun o => hbl.alloc (Nat.le_trans hnW hbl.size) o
   have cf : ∀ o, (wr.alloc o).cell? ⟨Bf, 0, none⟩ = some (.int .i64 x) := fun o => (hbf.alloc o).cell
   have cu : ∀ o, (wr.alloc o).cell? ⟨Bu, 0, none⟩ = some (.int .i64 u) := fun o => (hbu.alloc o).cell
   have HFA : Hid (∀ o, Boxed (wr.alloc o) Bf 3 (.int .i64 x)) := fun o => hbf.alloc o
   have HUA : Hid (∀ o, Boxed (wr.alloc o) Bu 3 (.int .i64 u)) := fun o => hbu.alloc o
   have HJA : Hid (∀ o, J pre (wr.alloc o)) := fun o => HJ.out pre wr _ none HJP.out (World.grownBy_alloc wr o none) (fun r e => by cases e)
   clear hbf hbu hbl
   by_cases hp : 0 < min (ls.getD k du0).a (x + u) - (x + manyK ls x (x + u) k)
   ·have ho := nxt_yes HR.out x (x + u) hx0 (by omega) k hkl hp
    have hp2 := hp
    rw [ho] at hp2
    have hok := line_ok HR.out x (x + u) k hkl hp2
    have HN : Hid (billK ls x (x + u) (k + 1) = billK ls x (x + u) k ++ [⟨ov (low ls k) (ls.getD k du0).a x (x + u), (ls.getD k du0).b, ov (low ls k) (ls.getD k du0).a x (x + u) * (ls.getD k du0).b⟩]) := billK_yes ls x (x + u) k hp2
    have HM : Hid (manyK ls x (x + u) (k + 1) = manyK ls x (x + u) k + ov (low ls k) (ls.getD k du0).a x (x + u)) := many_next ls x (x + u) k
    have hm2 := many_bd HR.out x (x + u) hx0 (by omega) (k + 1) (by omega)
    rw [HM.out] at hm2
    have hle := ov_le (low ls k) (ls.getD k du0).a x (x + u) (HR.out.low_pos k (by omega)) hup.2
    have hpb := prod_bd (Int.le_of_lt hp2) hle hpr.1 hpr.2
    generalize ov (low ls k) (ls.getD k du0).a x (x + u) = o at *
    generalize manyK ls x (x + u) k = mk at *
    generalize (ls.getD k du0).a = up at *
    generalize (ls.getD k du0).b = p at *
    generalize min up (x + u) = m at *
    have hm : m - (x + mk) = o := ho
    have hdo : decide (o ≤ 0) = false := by simp; omega
    have HQ : Hid (∀ C, YieldAt F (n - 1) Tryz.prog l (encL ⟨⟨o, p, o * p⟩, hok⟩) (wr.alloc C) fun e W' =>
     (e = .returned (.bool true) ∧ J (pre ++ [⟨⟨o, p, o * p⟩, hok⟩]) W' ∧ Kq n₀ lo hi (wr.alloc C) W') ∨ (e = .returned (.bool false) ∧ Jx (pre ++ [⟨⟨o, p, o * p⟩, hok⟩]) W')) := fun C => HY.out pre ⟨⟨o, p, o * p⟩, hok⟩ _ (HJA.out C) hpl
    obtain ⟨fn, tmps, assign, body, hy, hRd⟩ := HQ.out (.cells #[.int .i64 up, .int .i64 p] 136)
    have HNX : Hid (lns (pre ++ [⟨⟨o, p, o * p⟩, hok⟩]) = billK ls x (x + u) (k + 1)) := by
     show _ = _
     rw [lns_app, HPRE.out, HN.out]; rfl
    have hpb0 := hpb.1
    have hpb1 := hpb.2
    have hxm0 : 0 ≤ x + mk := by omega
    have hxm1 : x + mk ≤ 10000000 := by omega
    have hm0 : 0 ≤ m := by omega
    have hm1 : m ≤ 20000000 := by omega
    have hs1 : x + mk + o ≤ 10000000 := by omega
    have ho0 : 0 ≤ o := by omega
    simp only [encL] at hy
    clear ho hp HQ hmb hm2 hpb hpr hup
    gi_wp2
    refine hRd.mono ?_
    rintro e W3 (⟨rfl, hJ3, hk3⟩ | ⟨rfl, hJx3⟩)
    ·have HB3 : Hid (Below n₀ W W3) := (HBA.out _).trans hk3.1
     have HF3 : Hid (Boxed W3 Bf 3 (.int .i64 x)) := boxed_same (HFA.out _) (hk3.2 Bf h1.1 h1.2)
     have HU3 : Hid (Boxed W3 Bu 3 (.int .i64 u)) := boxed_same (HUA.out _) (hk3.2 Bu h2.1 h2.2)
     have HJ3 : Hid (J (pre ++ [⟨⟨o, p, o * p⟩, hok⟩]) W3) := hJ3
     clear hk3 hJ3
     gi_wp2
     go_roundw
     case rel => exact ⟨k + 1, pre ++ [⟨⟨o, p, o * p⟩, hok⟩], by omega, by go_num, by rw [HM.out, Int.add_assoc], HNX.out, HJ3.out, HF3.out, HU3.out, HB3.out⟩
     case measure => simp [intOf]; omega
    ·have HJX : Hid (Jx (pre ++ [⟨⟨o, p, o * p⟩, hok⟩]) W3) := hJx3
     clear hJx3
     gi_wp2
     refine bodyPost_ret (results_none rfl _ _ _) rfl ?_
     exact ⟨⟨_, rfl⟩, .inr ⟨pre ++ [⟨⟨o, p, o * p⟩, hok⟩], by rw [HNX.out]; exact bill_prefix ls x (x + u) (k + 1) len (by omega), HJX.out⟩⟩
   ·have ho := nxt_no HR.out x (x + u) hx0 (by omega) k hkl hp
    have hmz : 0 ≤ min (ls.getD k du0).a (x + u) := by omega
    have HN : Hid (billK ls x (x + u) (k + 1) = billK ls x (x + u) k) := billK_no ls x (x + u) k (by omega)
    have HM : Hid (manyK ls x (x + u) (k + 1) = manyK ls x (x + u) k) := by show _ = _; rw [many_next, ho, Int.add_zero]
    generalize manyK ls x (x + u) k = mk at *
    generalize (ls.getD k du0).a = up at *
    generalize (ls.getD k du0).b = p at *
    generalize min up (x + u) = m at *
    have hxm0 : 0 ≤ x + mk := by omega
    have hxm1 : x + mk ≤ 10000000 := by omega
    have hdo : decide (m - (x + mk) ≤ 0) = true := by simp; omega
    have hm0 : 0 ≤ m := hmz
    have hm1 : m ≤ 20000000 := by omega
    clear ho hp hmb hpr hup
    gi_wp2
    go_roundw
    case rel => exact ⟨k + 1, pre, by omega, by go_num, by rw [HM.out], by rw [HN.out]; exact HPRE.out, HJA.out _, HFA.out _, HUA.out _, HBA.out _⟩
    case measure => simp [intOf]; omega
  ·obtain rfl : k = len := by omega
   have hdl : decide ((k : Int) < (k : Int)) = false := by simp
   clear hbf hbu hbl
   gi_wp2
   go_end0
   exact ⟨⟨_, rfl⟩, .inl ⟨pre, HPRE.out, HJP.out⟩⟩
attribute [local go_sem] Oper.semAt_some
theorem blk_own {β : Type} (B : Nat) (t : TypeId) (f : β → Array Value) : Own (fun s W => Blk W B (f s) t) := fun s X Y row hs hg hrow => by
 have hl := hs.lt
 refine (hg.block B hl fun e' => ?_).trans hs
 obtain ⟨o, ho, hc⟩ := hrow B e'.symm
 rw [show X.heap[B]? = _ from hs] at ho; cases ho; cases hc
def boxes (w : World) (v : Value) (x u : Int) : World := ((w.alloc (.cells #[v] 22)).alloc (.cells #[.int .i64 x] 3)).alloc (.cells #[.int .i64 u] 3)
theorem boxes_size (w : World) (v : Value) (x u : Int) : (boxes w v x u).heap.size = w.heap.size + 3 := by unfold boxes; simp
theorem boxes_t (w : World) (v : Value) (x u : Int) : Boxed (boxes w v x u) w.heap.size 22 v := ((Boxed.new w _ v).alloc _).alloc _
theorem boxes_x (w : World) (v : Value) (x u : Int) : Boxed (boxes w v x u) (w.heap.size + 1) 3 (.int .i64 x) := by
 have h := (Boxed.new (w.alloc (.cells #[v] 22)) 3 (.int .i64 x)).alloc (.cells #[.int .i64 u] 3)
 rw [World.size_alloc] at h
 exact h
theorem boxes_u (w : World) (v : Value) (x u : Int) : Boxed (boxes w v x u) (w.heap.size + 1 + 1) 3 (.int .i64 u) := by
 have h := Boxed.new ((w.alloc (.cells #[v] 22)).alloc (.cells #[.int .i64 x] 3)) 3 (.int .i64 u)
 rw [World.size_alloc, World.size_alloc] at h
 exact h
theorem boxes_bel {n : Nat} {w0 w : World} (h : Below n w0 w) (hn : n ≤ w.heap.size) (v : Value) (x u : Int) : Below n w0 (boxes w v x u) := ((h.alloc hn _).alloc (by simp; omega) _).alloc (by simp; omega) _
theorem boxes_boxed {w : World} {B : Nat} {t : TypeId} {o : Value} (h : Boxed w B t o) (v : Value) (x u : Int) : Boxed (boxes w v x u) B t o := ((h.alloc _).alloc _).alloc _
set_option maxHeartbeats 1000000 in
theorem lines_in (F : Fence) (n : Nat) (hF : F.fn 121) (hro : F.round = none) (a : Option Addr) (len cap : Nat) (x u : Int) (w : World) :
  CallsIn F n Tryz.prog 121 #[.slice a len cap, .int .i64 x, .int .i64 u] w fun e w' => e = .returned (.func (.func 123) #[] #[.pointer (some ⟨w.heap.size + 1, 0, none⟩), .pointer (some ⟨w.heap.size, 0, none⟩), .pointer (some ⟨w.heap.size + 1 + 1, 0, none⟩)]) ∧ w' = boxes w (.slice a len cap) x u := by
 refine callsIn_of_wp Tryz.func121 rfl hF ?_ hro
 simp only [Tryz.ntmps121, List.size_toArray, List.length_cons, List.length_nil, Nat.reduceAdd, Nat.reduceSub, Array.replicate_succ, Array.replicate_zero, List.push_toArray, List.append_toArray, List.nil_append, List.cons_append]
 gi_wp2
 go_ret
 exact ⟨rfl, rfl⟩
structure Lnd (w : World) (n₀ B b off len cap : Nat) (ls : List Du) (x u : Int) : Prop where
 right : Right ls
 many : ls.length = len
 x0 : 0 ≤ x
 x1 : x ≤ 10000000
 u0 : 0 ≤ u
 u1 : x + u ≤ 10000000
 bt : Boxed w B 22 (.slice (some ⟨b, off, none⟩) len cap)
 bx : Boxed w (B + 1) 3 (.int .i64 x)
 bu : Boxed w (B + 1 + 1) 3 (.int .i64 u)
 hb : b < n₀
 hn : n₀ ≤ w.heap.size
 row : ∀ i, i < len → w.cell? ⟨b, off + i * 2, none⟩ = some (.int .i64 (ls.getD i du0).a) ∧ w.cell? ⟨b, off + i * 2 + 1, none⟩ = some (.int .i64 (ls.getD i du0).b)
theorem lines_stops (F : Fence) (n : Nat) (hF : F.fn 123) (hro : F.round = none) (hn : 1 ≤ n) (n₀ B b off len cap : Nat) (ls : List Du) (x u : Int) (w : World) (h : Lnd w n₀ B b off len cap ls x u) :
  SeqStopsK F n Tryz.prog 123 #[.pointer (some ⟨B + 1, 0, none⟩), .pointer (some ⟨B, 0, none⟩), .pointer (some ⟨B + 1 + 1, 0, none⟩)] encL (Kq n₀ B (B + 3)) (fun ys => lns ys = billK ls x (x + u) len) (fun pre => lns pre <+: billK ls x (x + u) len) len w := fun l J Jx W hW hJ _ hY h0 =>
 lines1_in F n hF hro hn l (B + 1) B (B + 1 + 1) n₀ B (B + 3) b off len cap W.heap.size ls x u J Jx h.right h.many ⟨h.x0, h.x1⟩ ⟨h.u0, h.u1⟩ hJ hY W
  (boxed_same h.bx (hW.block _ h.bx.lt)) (boxed_same h.bt (hW.block _ h.bt.lt)) (boxed_same h.bu (hW.block _ h.bu.lt)) ⟨by omega, by omega⟩ ⟨by omega, by omega⟩ h.hb (Nat.le_trans h.hn hW.size)
  (fun i hi => ⟨(hW.cell (p := ⟨b, off + i * 2, none⟩) (Nat.lt_of_lt_of_le h.hb h.hn)).trans (h.row i hi).1, (hW.cell (p := ⟨b, off + i * 2 + 1, none⟩) (Nat.lt_of_lt_of_le h.hb h.hn)).trans (h.row i hi).2⟩) h0
theorem Kq.refl (n lo hi : Nat) (W : World) : Kq n lo hi W W := ⟨Below.refl _ _, fun _ _ _ => rfl⟩
theorem Kq.alloc {n lo hi : Nat} {W W' : World} (h : Kq n lo hi W W') (o : Obj) (hn : n ≤ W'.heap.size) (hs : hi ≤ W'.heap.size) : Kq n lo hi W (W'.alloc o) := ⟨h.1.alloc hn o, fun j a b => (Below.heap_alloc W' o j (by omega)).trans (h.2 j a b)⟩
theorem Kq.set {n lo hi : Nat} {W W' : World} (h : Kq n lo hi W W') (B i : Nat) (v : Value) (hB : n ≤ B) (hl : B < lo ∨ hi ≤ B) : Kq n lo hi W (W'.setCell ⟨B, i, none⟩ v) := ⟨h.1.setCell (p := ⟨B, i, none⟩) hB v, fun j a b => (Below.heap_setCell W' ⟨B, i, none⟩ v j (by show j ≠ B; omega)).trans (h.2 j a b)⟩
theorem kq_b {n lo hi : Nat} {w : World} (hn : n ≤ w.heap.size) (hh : hi ≤ w.heap.size) (W : World) (l : Nat) (o o' : Obj) (hl : w.heap.size ≤ l) (h : W.heap[l]? = some o) (hc : o.isCells = false) (hw : o.isWalk = false) : Kq n lo hi W (W.putObj l o') := ⟨belowK_b hn W l o o' hl h hc hw, fun j a b => (grownBy_putObj' W l o').block j (by have := (Array.getElem?_eq_some_iff.1 h).1; omega) (fun e => by cases e; omega)⟩
theorem lnd_of {w w1 : World} (n₀ B b off len cap : Nat) {ls : List Du} {x u : Int} (hr : Right ls) (hl : ls.length = len) (hx : 0 ≤ x ∧ x ≤ 10000000) (hu : 0 ≤ u ∧ x + u ≤ 10000000) (hB : w1.heap.size = B) (hb : b < n₀) (hn : n₀ ≤ w1.heap.size)
  (hbel : Below n₀ w w1) (hc : ∀ i, i < len → w.cell? ⟨b, off + i * 2, none⟩ = some (.int .i64 (ls.getD i du0).a) ∧ w.cell? ⟨b, off + i * 2 + 1, none⟩ = some (.int .i64 (ls.getD i du0).b)) : Lnd (boxes w1 (.slice (some ⟨b, off, none⟩) len cap) x u) n₀ B b off len cap ls x u := by
 subst hB
 have h2 := boxes_bel hbel hn (.slice (some ⟨b, off, none⟩) len cap) x u
 exact ⟨hr, hl, hx.1, hx.2, hu.1, hu.2, boxes_t _ _ _ _, boxes_x _ _ _ _, boxes_u _ _ _ _, hb, by rw [boxes_size]; omega, fun i hi => ⟨(h2.cell (p := ⟨b, off + i * 2, none⟩) hb).trans (hc i hi).1, (h2.cell (p := ⟨b, off + i * 2 + 1, none⟩) hb).trans (hc i hi).2⟩⟩
end tar
end Go.Proofs.YtomibnggmhjdfaaGreat
