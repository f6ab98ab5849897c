/- What Put and the document's answer to it refuse; both together. -/
import Derived.Test.YtopbiamlmdpphaaBigPut
namespace Go.Proofs.Ytopbiamlmdpphaa.words
open Go.RowKit

set_option maxRecDepth 100000 in
set_option maxHeartbeats 1000000 in
theorem fieldPut_no (x y z lo n v : Int) (w : World) (h : ¬ IsF lo n) :
    Calls Try.prog 20 #[.agg #[.int .u32 x, .int .u32 y, .int .u32 z], .int .i64 lo, .int .i64 n, .int .u64 v] w fun e w' => PutPost w ⟨0, 0, 0⟩ 2 e w' := by
  have HI : Hid (∀ w, Calls Try.prog 40 #[.int .i64 lo, .int .i64 n] w fun e w' => e = .returned (.bool false) ∧ w' = w) := fun w => fieldMay_no lo n w h
  clear h
  have HR : Hid (Trio ((w.alloc (.cells #[.int .u32 x, .int .u32 y, .int .u32 z] 24)).alloc (.cells #[.int .u32 0, .int .u32 0, .int .u32 0] 24)) (w.heap.size + 1) (.int .u32 0) (.int .u32 0) (.int .u32 0)) := trio_b _ _ _ _ _
  have HB : Hid (Below w.heap.size w ((w.alloc (.cells #[.int .u32 x, .int .u32 y, .int .u32 z] 24)).alloc (.cells #[.int .u32 0, .int .u32 0, .int .u32 0] 24))) := bel2 _ _ _
  go_enter Try.func20, Try.ntmps20
  go_wp2_with fail
  refine (HI.out _).mono ?_
  rintro e w' ⟨rfl, rfl⟩
  go_wp2_with fail
  have RR := HR.out
  refine bodyPost_ret (v := .tuple #[.agg #[.int .u32 0, .int .u32 0, .int .u32 0], .int .i64 2]) (by simp [results, Try.results20, RR.c0, RR.c1, RR.c2, go_sem]) rfl ⟨rfl, HB.out⟩

set_option maxRecDepth 100000 in
set_option maxHeartbeats 1000000 in
theorem fieldPut_big (x y z lo : Int) (k u : Nat) (n v : Int) (w : World) (en : (k : Int) = n) (ev : (u : Int) = v) (h : IsF lo n) (hk : k < 64) (hu : 2 ^ k ≤ u) :
    Calls Try.prog 20 #[.agg #[.int .u32 x, .int .u32 y, .int .u32 z], .int .i64 lo, .int .i64 n, .int .u64 v] w fun e w' => PutPost w ⟨0, 0, 0⟩ 2 e w' := by
  have HI : Hid (∀ w, Calls Try.prog 40 #[.int .i64 lo, .int .i64 n] w fun e w' => e = .returned (.bool true) ∧ w' = w) := fun w => fieldMay_yes lo n w h
  subst en ev
  have hd : (k : Int) < 64 := by omega
  have hsh : ((u : Int) / 2 ^ k != 0) = true := by
    have h1 : 0 < u / 2 ^ k := Nat.div_pos hu (Nat.two_pow_pos k)
    have h2 : ((u / 2 ^ k : Nat) : Int) = (u : Int) / 2 ^ k := by rw [Int.natCast_ediv, Int.natCast_pow]; rfl
    rw [← h2, bne_iff_ne]
    omega
  obtain ⟨f1, f2, f3, f4⟩ := h
  clear hu f4
  have HR : Hid (Trio ((w.alloc (.cells #[.int .u32 x, .int .u32 y, .int .u32 z] 24)).alloc (.cells #[.int .u32 0, .int .u32 0, .int .u32 0] 24)) (w.heap.size + 1) (.int .u32 0) (.int .u32 0) (.int .u32 0)) := trio_b _ _ _ _ _
  have HB : Hid (Below w.heap.size w ((w.alloc (.cells #[.int .u32 x, .int .u32 y, .int .u32 z] 24)).alloc (.cells #[.int .u32 0, .int .u32 0, .int .u32 0] 24))) := bel2 _ _ _
  go_enter Try.func20, Try.ntmps20
  go_wp2_with fail
  refine (HI.out _).mono ?_
  rintro e w' ⟨rfl, rfl⟩
  go_wp2_with fail
  have RR := HR.out
  refine bodyPost_ret (v := .tuple #[.agg #[.int .u32 0, .int .u32 0, .int .u32 0], .int .i64 2]) (by simp [results, Try.results20, RR.c0, RR.c1, RR.c2, go_sem]) rfl ⟨rfl, HB.out⟩

set_option maxRecDepth 100000 in
set_option maxHeartbeats 1000000 in
theorem put_no (x y z lo n v : Int) (w : World) (h : ¬ IsF lo n) :
    Calls Try.prog 19 #[.agg #[.int .u32 x, .int .u32 y, .int .u32 z], .int .i64 lo, .int .i64 n, .int .u64 v] w fun e w' => PutPost w ⟨0, 0, 0⟩ 2 e w' := by
  have HI : Hid (∀ w, Calls Try.prog 37 #[.int .i64 lo, .int .i64 n] w fun e w' => e = .returned (.bool false) ∧ w' = w) := fun w => isField_no lo n w h
  clear h
  have HR : Hid (∀ q, Trio (((((w.alloc (.cells #[.int .u32 x, .int .u32 y, .int .u32 z] 24)).alloc (.cells #[.int .i64 n] 3)).alloc (.cells #[.int .u64 v] 34)).alloc (.cells #[.int .u32 0, .int .u32 0, .int .u32 0] 24)).drewN q) (w.heap.size + 1 + 1 + 1) (.int .u32 0) (.int .u32 0) (.int .u32 0)) := fun q => by
    have h := trio_new (((w.alloc (.cells #[.int .u32 x, .int .u32 y, .int .u32 z] 24)).alloc (.cells #[.int .i64 n] 3)).alloc (.cells #[.int .u64 v] 34)) (.int .u32 0) (.int .u32 0) (.int .u32 0)
    simp at h
    exact h
  have HB : Hid (∀ q, Below w.heap.size w (((((w.alloc (.cells #[.int .u32 x, .int .u32 y, .int .u32 z] 24)).alloc (.cells #[.int .i64 n] 3)).alloc (.cells #[.int .u64 v] 34)).alloc (.cells #[.int .u32 0, .int .u32 0, .int .u32 0] 24)).drewN q)) := fun q => below_drewN (bel4 w _ _ _ _) q
  go_enter Try.func19, Try.ntmps19
  go_wp2_with fail
  go_quiet ((go_at_call 37; exact Calls.quiet_of_same (HI.out _)))
  have RR := HR.out nq
  have r0 := RR.c0
  have r1 := RR.c1
  have r2 := RR.c2
  have g0 := RR.free 0
  have g1 := RR.free 1
  have g2 := RR.free 2
  clear RR
  go_wp2_with fail
  have R2 := (HR.out nq).put (.int .u32 0) (.int .u32 0) (.int .u32 0)
  refine bodyPost_ret (v := .tuple #[.agg #[.int .u32 0, .int .u32 0, .int .u32 0], .int .i64 2]) (by simp [results, Try.results19, R2.c0, R2.c1, R2.c2, go_sem]) rfl ⟨rfl, below_put3 (HB.out nq) _ _ _ _ (by omega)⟩

set_option maxRecDepth 100000 in
set_option maxHeartbeats 1000000 in
theorem put_big (x y z lo n v M : Int) (w : World) (h : IsF lo n) (HO : Hid (∀ w, Calls Try.prog 39 #[.int .i64 n] w fun e w' => e = .returned (.int .u64 M) ∧ w' = w)) (hM : M < v) :
    Calls Try.prog 19 #[.agg #[.int .u32 x, .int .u32 y, .int .u32 z], .int .i64 lo, .int .i64 n, .int .u64 v] w fun e w' => PutPost w ⟨0, 0, 0⟩ 2 e w' := by
  obtain ⟨f1, f2, f3, f4⟩ := h
  have HI : Hid (∀ w, Calls Try.prog 37 #[.int .i64 lo, .int .i64 n] w fun e w' => e = .returned (.bool true) ∧ w' = w) := fun w => isField_yes lo n w f1 f2 f3 (by omega)
  have HR : Hid (∀ q, Trio (((((w.alloc (.cells #[.int .u32 x, .int .u32 y, .int .u32 z] 24)).alloc (.cells #[.int .i64 n] 3)).alloc (.cells #[.int .u64 v] 34)).alloc (.cells #[.int .u32 0, .int .u32 0, .int .u32 0] 24)).drewN q) (w.heap.size + 1 + 1 + 1) (.int .u32 0) (.int .u32 0) (.int .u32 0)) := fun q => by
    have h := trio_new (((w.alloc (.cells #[.int .u32 x, .int .u32 y, .int .u32 z] 24)).alloc (.cells #[.int .i64 n] 3)).alloc (.cells #[.int .u64 v] 34)) (.int .u32 0) (.int .u32 0) (.int .u32 0)
    simp at h
    exact h
  have HB : Hid (∀ q, Below w.heap.size w (((((w.alloc (.cells #[.int .u32 x, .int .u32 y, .int .u32 z] 24)).alloc (.cells #[.int .i64 n] 3)).alloc (.cells #[.int .u64 v] 34)).alloc (.cells #[.int .u32 0, .int .u32 0, .int .u32 0] 24)).drewN q)) := fun q => below_drewN (bel4 w _ _ _ _) q
  go_enter Try.func19, Try.ntmps19
  go_wp2_with fail
  go_quiet (first
    | (go_at_call 37; exact (HI.out _).mono fun _ _ h => ⟨h.1, _, h.2⟩)
    | (go_at_call 39; exact (HO.out _).mono fun _ _ h => ⟨h.1, _, h.2⟩))
  have RR := HR.out nq
  have r0 := RR.c0
  have r1 := RR.c1
  have r2 := RR.c2
  have g0 := RR.free 0
  have g1 := RR.free 1
  have g2 := RR.free 2
  clear RR
  go_wp2_with fail
  have R2 := (HR.out nq).put (.int .u32 0) (.int .u32 0) (.int .u32 0)
  refine bodyPost_ret (v := .tuple #[.agg #[.int .u32 0, .int .u32 0, .int .u32 0], .int .i64 2]) (by simp [results, Try.results19, R2.c0, R2.c1, R2.c2, go_sem]) rfl ⟨rfl, below_put3 (HB.out nq) _ _ _ _ (by omega)⟩

theorem ok_nat {x y z : Nat} (hx : x < 2 ^ 32) (hy : y < 2 ^ 32) (hz : z < 2 ^ 32) : W3.ok ⟨(x : Int), (y : Int), (z : Int)⟩ := by
  unfold W3.ok
  simp only
  omega

/-- Put and the document's answer to it give the same. -/
theorem put_both (a b c v : Nat) (lo n : Int) (ha : a < 4294967296) (hb : b < 4294967296) (hc : c < 4294967296) (hv : v < 18446744073709551616) :
    ∃ (Y : W3) (k : Int), (∀ w, Calls Try.prog 19 #[.agg #[.int .u32 (a : Int), .int .u32 (b : Int), .int .u32 (c : Int)], .int .i64 lo, .int .i64 n, .int .u64 (v : Int)] w fun e w' => PutPost w Y k e w') ∧ (∀ w, Calls Try.prog 20 #[.agg #[.int .u32 (a : Int), .int .u32 (b : Int), .int .u32 (c : Int)], .int .i64 lo, .int .i64 n, .int .u64 (v : Int)] w fun e w' => PutPost w Y k e w') := by
  by_cases hf : IsF lo n
  · have hf' := hf
    obtain ⟨f1, f2, f3, f4⟩ := hf'
    obtain ⟨l, rfl⟩ := Int.eq_ofNat_of_zero_le f1
    obtain ⟨m, rfl⟩ := Int.eq_ofNat_of_zero_le (show 0 ≤ n by omega)
    by_cases hvm : v < 2 ^ m
    · have ha' : a < 2 ^ 32 := ha
      have hb' : b < 2 ^ 32 := hb
      have hc' : c < 2 ^ 32 := hc
      obtain ⟨p1, p2⟩ := put_val (lo := l) ha' hb' hc' hvm (by omega) (by omega)
      have pa := put_lt a v m l ha'
      have pb := put_lt b v m ((l : Int) - 32) hb'
      have pc := put_lt c v m ((l : Int) - 64) hc'
      have hVt := big96_top ha' hb' hc'
      have hWt := big96_top pa pb pc
      have hval := big96_val (a := putN a v m l) (b := putN b v m ((l : Int) - 32)) (c := putN c v m ((l : Int) - 64))
      have hfy := fun w => field_yes a b c l m w ha hb hc hf
      have hold : big96V a b c / 2 ^ l % 2 ^ m < 18446744073709551616 := Nat.lt_of_lt_of_le (Nat.mod_lt _ (Nat.two_pow_pos m)) (Nat.pow_le_pow_right (by decide) (by omega : m ≤ 64))
      have h96 : (2 : Nat) ^ 96 = 79228162514264337593543950336 := by decide
      have hl1 : v * 2 ^ l < 340282366920938463463374607431768211456 := by omega
      refine ⟨⟨(putN a v m l : Nat), (putN b v m ((l : Int) - 32) : Nat), (putN c v m ((l : Int) - 64) : Nat)⟩, 0, fun w => (put_any a b c v l m w ha' hb' hc' hvm (by omega) (by omega) (by omega)).mono fun e w' h => h, fun w => ?_⟩
      have hok : W3.ok ⟨(putN a v m l : Nat), (putN b v m ((l : Int) - 32) : Nat), (putN c v m ((l : Int) - 64) : Nat)⟩ := ok_nat pa pb pc
      have HL1 : ∀ z x w, Bg w x (big96V a b c / 2 ^ l % 2 ^ m) → Ob w z → x ≠ z → Calls Try.prog 42 #[.pointer (some ⟨z, 0, none⟩), .pointer (some ⟨x, 0, none⟩), .int .u64 (l : Int)] w fun e w' => OpPost w z (big96V a b c / 2 ^ l % 2 ^ m * 2 ^ l) e w' := fun z x w hx hz hxz => Lsh_any z x _ l w hx hz hxz (len100' (by omega)) (by omega)
      have HL2 : ∀ z x w, Bg w x v → Ob w z → x ≠ z → Calls Try.prog 42 #[.pointer (some ⟨z, 0, none⟩), .pointer (some ⟨x, 0, none⟩), .int .u64 (l : Int)] w fun e w' => OpPost w z (v * 2 ^ l) e w' := fun z x w hx hz hxz => Lsh_any z x _ l w hx hz hxz (len100' (by omega)) (by omega)
      have HW : ∀ n w, Bg w n (big96V a b c - big96V a b c / 2 ^ l % 2 ^ m * 2 ^ l + v * 2 ^ l) → Calls Try.prog 27 #[.pointer (some ⟨n, 0, none⟩)] w fun e w' => WPost w ⟨(putN a v m l : Nat), (putN b v m ((l : Int) - 32) : Nat), (putN c v m ((l : Int) - 64) : Nat)⟩ 0 e w' := fun n w hg => wide96_W n _ _ 0 w hg hok (by omega) (by omega) (by rw [← p2, ← hval]; omega)
      have HLn : (dig (big96V a b c)).length ≤ 100 ∧ (dig (big96V a b c / 2 ^ l % 2 ^ m * 2 ^ l)).length ≤ 100 ∧ (dig (big96V a b c - big96V a b c / 2 ^ l % 2 ^ m * 2 ^ l)).length ≤ 100 ∧ (dig (v * 2 ^ l)).length ≤ 100 := ⟨len100' (by omega), len100' (by omega), len100' (by omega), len100' hl1⟩
      by_cases hm : m < 64
      · exact fieldPut_lt a b c l m v _ _ _ _ _ _ _ w ha hb hc hf hm hvm rfl ⟨rfl, rfl⟩ p1 hold hv HLn hfy HL1 HL2 HW
      · exact fieldPut_64 a b c l m v _ _ _ _ _ _ _ w ha hb hc hf (by omega) rfl ⟨rfl, rfl⟩ p1 hold hv HLn hfy HL1 HL2 HW
    · have hm : m < 64 := by
        rcases Nat.lt_or_ge m 64 with h | h
        · exact h
        · have : m = 64 := by omega
          subst this
          exact absurd hv (by omega)
      have hge : 2 ^ m ≤ v := by omega
      have hpos := Nat.two_pow_pos m
      refine ⟨⟨0, 0, 0⟩, 2, fun w => put_big _ _ _ _ _ _ ((onesN m : Nat) : Int) w hf (fun w => ones_any m w (by omega) (by omega)) (by unfold onesN; omega), fun w => fieldPut_big _ _ _ _ m v _ _ w rfl rfl hf hm hge⟩
  · exact ⟨⟨0, 0, 0⟩, 2, fun w => put_no _ _ _ _ _ _ w hf, fun w => fieldPut_no _ _ _ _ _ _ w hf⟩

end Go.Proofs.Ytopbiamlmdpphaa.words
