/- What words.Put gives back. -/
import Derived.Test.YtlicdeppfhmfjaaGreatDoorField
import Derived.Deep.RegionWith
import Derived.Deep.DeepCutAuto
namespace Go.Proofs.YtlicdeppfhmfjaaGreatDoor.words
open Go.RowKit

theorem run_putStep (args : Array Value) (w : World) : (callFunc 162 args).run Tryz.prog w = .ok (.enter 162 args) w := by kernel_rfl

theorem low32 (s : Nat) : ((s : Nat) : Int) % 4294967296 = ((s % 2 ^ 32 : Nat) : Int) := by omega

theorem putStep_abs (N At V : Nat) (x v n k M s r f g z y : Int) (w : World) (hn : w.cell? ⟨N, 0, none⟩ = some (.int .i64 n)) (hat : w.cell? ⟨At, 0, none⟩ = some (.int .i64 k)) (hf : w.frozen? ⟨At, 0, none⟩ = false) (hv : w.cell? ⟨V, 0, none⟩ = some (.int .u64 v))
    (HO : Hid (∀ w, Calls Tryz.prog 133 #[.int .i64 n] w fun e w' => e = .returned (.int .u64 M) ∧ w' = w))
    (HS : Hid (∀ w, Calls Tryz.prog 132 #[.int .u64 M, .int .i64 k] w fun e w' => e = .returned (.int .u64 s) ∧ w' = w))
    (HT : Hid (∀ w, Calls Tryz.prog 132 #[.int .u64 v, .int .i64 k] w fun e w' => e = .returned (.int .u64 r) ∧ w' = w))
    (q1 : s % 4294967296 = f) (q2 : r % 4294967296 = g) (o1 : bits .andNot .u32 x f = z) (o2 : bits .or .u32 z g = y) (k0 : -64 ≤ k) (k1 : k ≤ 96) :
    Calls Tryz.prog 162 #[.int .u32 x, .pointer (some ⟨N, 0, none⟩), .pointer (some ⟨At, 0, none⟩), .pointer (some ⟨V, 0, none⟩)] w fun e w' => e = .returned (.int .u32 y) ∧ Acc w w' At (.int .i64 (k - 32)) := by
  have hA : Acc w w At (.int .i64 k) := Acc.refl hat hf
  have HA : Hid (Acc w w At (.int .i64 k)) := hA
  clear hA
  go_enter Tryz.func162, Tryz.ntmps162
  go_wp2_with fail
  go_quiet (first
    | (go_at_call 133; exact (HO.out _).mono fun _ _ h => ⟨h.1, _, h.2⟩)
    | (go_at_call_of 132 (Value.int .u64 M); exact (HS.out _).mono fun _ _ h => ⟨h.1, _, h.2⟩)
    | (go_at_call_of 132 (Value.int .u64 v); exact (HT.out _).mono fun _ _ h => ⟨h.1, _, h.2⟩))
  go_wp2_with fail
  go_ret
  exact ⟨rfl, (HA.out.drewN _).set _⟩

theorem putStep_any (N At V : Nat) (x v n : Nat) (k : Int) (w : World) (hn : w.cell? ⟨N, 0, none⟩ = some (.int .i64 (n : Int))) (hat : w.cell? ⟨At, 0, none⟩ = some (.int .i64 k)) (hf : w.frozen? ⟨At, 0, none⟩ = false) (hv : w.cell? ⟨V, 0, none⟩ = some (.int .u64 (v : Int)))
    (x1 : x < 2 ^ 32) (v1 : v < 2 ^ 64) (n0 : 1 ≤ n) (n1 : n ≤ 64) (k0 : -64 ≤ k) (k1 : k ≤ 96) :
    Calls Tryz.prog 162 #[.int .u32 (x : Int), .pointer (some ⟨N, 0, none⟩), .pointer (some ⟨At, 0, none⟩), .pointer (some ⟨V, 0, none⟩)] w fun e w' => e = .returned (.int .u32 (putN x v n k : Nat)) ∧ Acc w w' At (.int .i64 (k - 32)) := by
  have l1 : sh (onesN n) k % 2 ^ 32 < 2 ^ 32 := Nat.mod_lt _ (by decide)
  have l2 : sh v k % 2 ^ 32 < 2 ^ 32 := Nat.mod_lt _ (by decide)
  have l3 : x &&& (2 ^ 32 - 1 - sh (onesN n) k % 2 ^ 32) < 2 ^ 32 := Nat.lt_of_le_of_lt Nat.and_le_left x1
  exact putStep_abs N At V x v n k (onesN n : Nat) (sh (onesN n) k : Nat) (sh v k : Nat) _ _ _ _ w hn hat hf hv
    (fun w => ones_any n w n0 n1) (fun w => shift_any _ _ w (ones_lt n n1) (by omega) k1) (fun w => shift_any _ _ w v1 (by omega) k1)
    (low32 _) (low32 _) (andNot32 x _ x1 l1) (or32 _ _ l3 l2) k0 k1

/-- Five variables of a call, the fourth a wide number. -/
theorem five (w : World) (cs : Array Value) (T1 T2 T3 T5 : TypeId) (m v x y z u : Value) (q : Nat) :
    (((((((w.alloc (.cells cs T1)).alloc (.cells #[m] T2)).alloc (.cells #[v] T3)).alloc (.cells #[x, y, z] 85)).drewN q).alloc (.cells #[u] T5)).cell? ⟨w.heap.size + 1, 0, none⟩ = some m) ∧
    (((((((w.alloc (.cells cs T1)).alloc (.cells #[m] T2)).alloc (.cells #[v] T3)).alloc (.cells #[x, y, z] 85)).drewN q).alloc (.cells #[u] T5)).cell? ⟨w.heap.size + 1 + 1, 0, none⟩ = some v) ∧
    Trio ((((((w.alloc (.cells cs T1)).alloc (.cells #[m] T2)).alloc (.cells #[v] T3)).alloc (.cells #[x, y, z] 85)).drewN q).alloc (.cells #[u] T5)) (w.heap.size + 1 + 1 + 1) x y z ∧
    (((((((w.alloc (.cells cs T1)).alloc (.cells #[m] T2)).alloc (.cells #[v] T3)).alloc (.cells #[x, y, z] 85)).drewN q).alloc (.cells #[u] T5)).cell? ⟨w.heap.size + 1 + 1 + 1 + 1, 0, none⟩ = some u) ∧
    (((((((w.alloc (.cells cs T1)).alloc (.cells #[m] T2)).alloc (.cells #[v] T3)).alloc (.cells #[x, y, z] 85)).drewN q).alloc (.cells #[u] T5)).frozen? ⟨w.heap.size + 1 + 1 + 1 + 1, 0, none⟩ = false) := by
  have hh : ((((((w.alloc (.cells cs T1)).alloc (.cells #[m] T2)).alloc (.cells #[v] T3)).alloc (.cells #[x, y, z] 85)).drewN q).alloc (.cells #[u] T5)).heap = ((((w.heap.push (.cells cs T1)).push (.cells #[m] T2)).push (.cells #[v] T3)).push (.cells #[x, y, z] 85)).push (.cells #[u] T5) := rfl
  have s1 : w.heap.size + 1 = (w.heap.push (.cells cs T1)).size := by simp
  have s2 : w.heap.size + 1 + 1 = ((w.heap.push (.cells cs T1)).push (.cells #[m] T2)).size := by simp
  have s3 : w.heap.size + 1 + 1 + 1 = (((w.heap.push (.cells cs T1)).push (.cells #[m] T2)).push (.cells #[v] T3)).size := by simp
  have s4 : w.heap.size + 1 + 1 + 1 + 1 = ((((w.heap.push (.cells cs T1)).push (.cells #[m] T2)).push (.cells #[v] T3)).push (.cells #[x, y, z] 85)).size := by simp
  generalize ((((((w.alloc (.cells cs T1)).alloc (.cells #[m] T2)).alloc (.cells #[v] T3)).alloc (.cells #[x, y, z] 85)).drewN q).alloc (.cells #[u] T5)) = W at *
  have e1 : W.heap[w.heap.size + 1]? = some (.cells #[m] T2) := by
    rw [hh, Array.getElem?_push, if_neg (by simp), Array.getElem?_push, if_neg (by simp), Array.getElem?_push, if_neg (by simp), s1, Array.getElem?_push_size]
  have e2 : W.heap[w.heap.size + 1 + 1]? = some (.cells #[v] T3) := by
    rw [hh, Array.getElem?_push, if_neg (by simp), Array.getElem?_push, if_neg (by simp), s2, Array.getElem?_push_size]
  have e3 : W.heap[w.heap.size + 1 + 1 + 1]? = some (.cells #[x, y, z] 85) := by
    rw [hh, Array.getElem?_push, if_neg (by simp), s3, Array.getElem?_push_size]
  have e4 : W.heap[w.heap.size + 1 + 1 + 1 + 1]? = some (.cells #[u] T5) := by
    rw [hh, s4, Array.getElem?_push_size]
  refine ⟨?_, ?_, e3, ?_, ?_⟩
  · simp only [World.cell?, e1]; rfl
  · simp only [World.cell?, e2]; rfl
  · simp only [World.cell?, e4]; rfl
  · simp only [World.frozen?, e4]; rfl

theorem bel5 (w : World) (o1 o2 o3 o4 o5 : Obj) (q : Nat) : Below w.heap.size w (((((w.alloc o1).alloc o2).alloc o3).alloc o4).drewN q |>.alloc o5) :=
  (below_drewN (bel4 w o1 o2 o3 o4) q).alloc (by show _ ≤ ((((w.heap.push o1).push o2).push o3).push o4).size; simp; omega) _

set_option maxHeartbeats 1000000 in
theorem put_any (a b c v lo n : Nat) (w : World) (ha : a < 2 ^ 32) (hb : b < 2 ^ 32) (hc : c < 2 ^ 32) (hv : v < 2 ^ n) (n0 : 1 ≤ n) (n1 : n ≤ 64) (hl : lo + n ≤ 96) :
    Calls Tryz.prog 124 #[.agg #[.int .u32 (a : Int), .int .u32 (b : Int), .int .u32 (c : Int)], .int .i64 (lo : Int), .int .i64 (n : Int), .int .u64 (v : Int)] w fun e w' =>
      e = .returned (.tuple #[.agg #[.int .u32 (putN a v n lo : Nat), .int .u32 (putN b v n ((lo : Int) - 32) : Nat), .int .u32 (putN c v n ((lo : Int) - 64) : Nat)], .int .i64 0]) ∧ Below w.heap.size w w' := by
  have v1 : v < 2 ^ 64 := Nat.lt_of_lt_of_le hv (Nat.pow_le_pow_right (by decide) n1)
  have HI : Hid (∀ w, Calls Tryz.prog 131 #[.int .i64 (lo : Int), .int .i64 (n : Int)] w fun e w' => e = .returned (.bool true) ∧ w' = w) := fun w => isField_yes _ _ w (by omega) (by omega) (by omega) (by omega)
  have HO : Hid (∀ w, Calls Tryz.prog 133 #[.int .i64 (n : Int)] w fun e w' => e = .returned (.int .u64 (onesN n : Nat)) ∧ w' = w) := fun w => ones_any n w n0 n1
  have hd : decide (((onesN n : Nat) : Int) < (v : Int)) = false := decide_eq_false (by unfold onesN; omega)
  have e64 : (lo : Int) - 32 - 32 = (lo : Int) - 64 := by omega
  generalize ((onesN n : Nat) : Int) = M at *
  rw [← e64]
  go_enter Tryz.func124, Tryz.ntmps124
  go_wp2_with fail
  go_quiet (first
    | (go_at_call 131; exact (HI.out _).mono fun _ _ h => ⟨h.1, _, h.2⟩)
    | (go_at_call 133; exact (HO.out _).mono fun _ _ h => ⟨h.1, _, h.2⟩))
  go_wp2_with fail
  obtain ⟨f1, f2, f3, f4, f5⟩ := five w #[.int .u32 (a : Int), .int .u32 (b : Int), .int .u32 (c : Int)] 85 3 129 3 (.int .i64 (n : Int)) (.int .u64 (v : Int)) (.int .u32 0) (.int .u32 0) (.int .u32 0) (.int .i64 (lo : Int)) nq
  have hb5 := bel5 w (.cells #[.int .u32 (a : Int), .int .u32 (b : Int), .int .u32 (c : Int)] 85) (.cells #[.int .i64 (n : Int)] 3) (.cells #[.int .u64 (v : Int)] 129) (.cells #[.int .u32 0, .int .u32 0, .int .u32 0] 85) (.cells #[.int .i64 (lo : Int)] 3) nq
  refine (upward_any 162 #[.pointer (some ⟨w.heap.size + 1, 0, none⟩), .pointer (some ⟨w.heap.size + 1 + 1 + 1 + 1, 0, none⟩), .pointer (some ⟨w.heap.size + 1 + 1, 0, none⟩)] (w.heap.size + 1 + 1 + 1 + 1) (.int .i64 (lo : Int)) (.int .i64 ((lo : Int) - 32)) (.int .i64 ((lo : Int) - 32 - 32)) (.int .i64 ((lo : Int) - 32 - 32 - 32)) a b c
    (putN a v n lo : Nat) (putN b v n ((lo : Int) - 32) : Nat) (putN c v n ((lo : Int) - 32 - 32) : Nat) _ (Acc.refl f4 f5) run_putStep
    (fun w' h => putStep_any _ _ _ _ _ _ _ w' (h.keep f1 (by omega)) h.cell h.free (h.keep f2 (by omega)) ha v1 n0 n1 (by omega) (by omega))
    (fun w' h => putStep_any _ _ _ _ _ _ _ w' (h.keep f1 (by omega)) h.cell h.free (h.keep f2 (by omega)) hb v1 n0 n1 (by omega) (by omega))
    (fun w' h => putStep_any _ _ _ _ _ _ _ w' (h.keep f1 (by omega)) h.cell h.free (h.keep f2 (by omega)) hc v1 n0 n1 (by omega) (by omega))).mono ?_
  rintro e w1 ⟨he, hA⟩
  have hR := f3.acc hA (by omega)
  have HB : Hid (Below w.heap.size w w1) := hA.below hb5 (by omega)
  clear hA f1 f2 f3 f4 f5 hb5
  have HE2 : Hid (e = .returned (.agg #[.int .u32 (putN a v n lo : Nat), .int .u32 (putN b v n ((lo : Int) - 32) : Nat), .int .u32 (putN c v n ((lo : Int) - 32 - 32) : Nat)])) := he
  clear he
  obtain ⟨y0, h0⟩ : ∃ y0 : Int, y0 = (putN a v n lo : Nat) := ⟨_, rfl⟩
  obtain ⟨y1, h1⟩ : ∃ y1 : Int, y1 = (putN b v n ((lo : Int) - 32) : Nat) := ⟨_, rfl⟩
  obtain ⟨y2, h2⟩ : ∃ y2 : Int, y2 = (putN c v n ((lo : Int) - 32 - 32) : Nat) := ⟨_, rfl⟩
  have HH : Hid (y0 = (putN a v n lo : Nat) ∧ y1 = (putN b v n ((lo : Int) - 32) : Nat) ∧ y2 = (putN c v n ((lo : Int) - 32 - 32) : Nat)) := ⟨h0, h1, h2⟩
  rw [← h0, ← h1, ← h2] at HE2
  obtain rfl := HE2.out
  clear HE2 h0 h1 h2
  have r0 := hR.c0
  have r1 := hR.c1
  have r2 := hR.c2
  have g0 := hR.free 0
  have g1 := hR.free 1
  have g2 := hR.free 2
  have HR : Hid (Trio w1 (w.heap.size + 1 + 1 + 1) (.int .u32 0) (.int .u32 0) (.int .u32 0)) := hR
  clear hR
  go_wp2_with fail
  have RR := HR.out.put (.int .u32 y0) (.int .u32 y1) (.int .u32 y2)
  refine bodyPost_ret (v := .tuple #[.agg #[.int .u32 y0, .int .u32 y1, .int .u32 y2], .int .i64 0]) (by simp [results, Tryz.results124, RR.c0, RR.c1, RR.c2, go_sem]) rfl ⟨?_, ?_⟩
  · rw [HH.out.1, HH.out.2.1, HH.out.2.2]
  · exact below_put3 HB.out _ _ _ _ (by omega)

end Go.Proofs.YtlicdeppfhmfjaaGreatDoor.words
