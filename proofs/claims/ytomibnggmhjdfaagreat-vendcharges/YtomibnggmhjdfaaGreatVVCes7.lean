import Derived.Test.YtomibnggmhjdfaaGreatVVCes5
import Derived.Test.YtomibnggmhjdfaaGreatVVCes6
set_option linter.unusedVariables false
set_option linter.unusedSimpArgs false
namespace Go.Proofs.YtomibnggmhjdfaaGreat
namespace book
structure So where
 id : Int
 cl : Int
 am : Int
 tg : Int
 rv : Int
def so0 : So := ⟨0, 0, 0, 0, 0⟩
open acc (Ac Tm Bi TFault TRight OweIs SellIs GrantIs RekeyIs)
structure Cm where
 a : Ac
 so : List So
def cm0 : Cm := ⟨acc.ac0, []⟩
def billOf (v : Ev) : Bi := ⟨v.id, v.te, v.de, v.fe, v.pr, v.ch, v.un⟩
def soldOf (c : Cm) (v : Ev) : So := if v.kd = 4 then ⟨v.id, 2, c.a.rv + 1, v.tg, c.a.rv⟩ else ⟨v.id, 0, v.un, v.tg, c.a.rv⟩
def Tells (t : Tm) (c : Cm) (v : Ev) (b : Ac) (l : Bi) (e : Int) : Prop := (v.kd = 2 ∧ SellIs c.a t v.te v.mo b l e) ∨ (v.kd = 3 ∧ GrantIs c.a t v.mo b l e) ∨ (v.kd = 4 ∧ RekeyIs c.a b l e)
theorem Tells.one {t : Tm} {c : Cm} {v : Ev} {b b' : Ac} {l l' : Bi} {e e' : Int} (h : Tells t c v b l e) (h' : Tells t c v b' l' e') : b = b' ∧ l = l' ∧ e = e' := by
 rcases h with ⟨p, q⟩ | ⟨p, q⟩ | ⟨p, q⟩ <;> rcases h' with ⟨p', q'⟩ | ⟨p', q'⟩ | ⟨p', q'⟩ <;> first | exact q.one q' | omega
def HapIs (t : Tm) (c : Cm) (v : Ev) (c' : Cm) (f : Int) : Prop :=
 (v.kd = 5 ∧ ∃ b, OweIs c.a ⟨v.ow, v.bp⟩ b f ∧ (f = 0 → c' = ⟨b, c.so⟩)) ∨
 (v.kd ≠ 5 ∧ ∃ b l e, Tells t c v b l e ∧ ((e ≠ 0 ∧ f = e) ∨ (e = 0 ∧ l ≠ billOf v ∧ f = 8) ∨ (e = 0 ∧ l = billOf v ∧ f = 0 ∧ c' = ⟨b, c.so ++ [soldOf c v]⟩)))
theorem HapIs.one {t : Tm} {c c' d' : Cm} {v : Ev} {f g : Int} (h : HapIs t c v c' f) (h' : HapIs t c v d' g) : f = g ∧ (f = 0 → c' = d') := by
 rcases h with ⟨p, b, q, r⟩ | ⟨p, b, l, e, q, r⟩ <;> rcases h' with ⟨p', b', q', r'⟩ | ⟨p', b', l', e', q', r'⟩
 ·obtain ⟨rfl, rfl⟩ := q.one q'
  exact ⟨rfl, fun h => (r h).trans (r' h).symm⟩
 ·exact absurd p p'
 ·exact absurd p' p
 ·obtain ⟨rfl, rfl, rfl⟩ := q.one q'
  rcases r with ⟨x, rfl⟩ | ⟨x, y, rfl⟩ | ⟨x, y, rfl, z⟩ <;> rcases r' with ⟨x', rfl⟩ | ⟨x', y', rfl⟩ | ⟨x', y', rfl, z'⟩ <;> first | exact ⟨rfl, fun h => absurd h x⟩ | exact ⟨rfl, fun h => absurd h (by decide)⟩ | exact ⟨rfl, fun _ => z.trans z'.symm⟩ | contradiction
def FirstAt (bk : List Cm) (me : Int) (k : Nat) : Prop := k < bk.length ∧ (bk.getD k cm0).a.me = me ∧ ∀ j, j < k → (bk.getD j cm0).a.me ≠ me
def NoneAt (bk : List Cm) (me : Int) : Prop := ∀ j, j < bk.length → (bk.getD j cm0).a.me ≠ me
theorem FirstAt.one {bk : List Cm} {me : Int} {k k' : Nat} (h : FirstAt bk me k) (h' : FirstAt bk me k') : k = k' := by
 rcases Nat.lt_trichotomy k k' with c | c | c
 ·exact absurd h.2.1 (h'.2.2 k c)
 ·exact c
 ·exact absurd h'.2.1 (h.2.2 k' c)
theorem FirstAt.some {bk : List Cm} {me : Int} {k : Nat} (h : FirstAt bk me k) : ¬ NoneAt bk me := fun hn => hn k h.1 h.2.1
def StepIs (t : Tm) (bk : List Cm) (v : Ev) (bk' : List Cm) (f : Int) : Prop :=
 (¬ EMay v ∧ f = 5) ∨ (EMay v ∧ v.kd = 1 ∧ ¬ NoneAt bk v.me ∧ f = 21) ∨ (EMay v ∧ v.kd = 1 ∧ NoneAt bk v.me ∧ f = 0 ∧ bk' = bk ++ [⟨⟨v.me, 0, 1, 0, 0, -1, []⟩, []⟩]) ∨
 (EMay v ∧ v.kd ≠ 1 ∧ NoneAt bk v.me ∧ f = 18) ∨ (EMay v ∧ v.kd ≠ 1 ∧ ∃ k c', FirstAt bk v.me k ∧ HapIs t (bk.getD k cm0) v c' f ∧ (f = 0 → bk' = bk.set k c'))
theorem StepIs.one {t : Tm} {bk b b' : List Cm} {v : Ev} {f f' : Int} (h : StepIs t bk v b f) (h' : StepIs t bk v b' f') : f = f' ∧ (f = 0 → b = b') := by
 rcases h with ⟨p, rfl⟩ | ⟨p, q, r, rfl⟩ | ⟨p, q, r, rfl, s⟩ | ⟨p, q, r, rfl⟩ | ⟨p, q, k, c, hk, hh, hs⟩ <;> rcases h' with ⟨p', rfl⟩ | ⟨p', q', r', rfl⟩ | ⟨p', q', r', rfl, s'⟩ | ⟨p', q', r', rfl⟩ | ⟨p', q', k', c', hk', hh', hs'⟩ <;> first | contradiction | exact ⟨rfl, fun h => absurd h (by decide)⟩ | exact ⟨rfl, fun _ => s.trans s'.symm⟩ | exact absurd r hk'.some | exact absurd r' hk.some | skip
 obtain rfl := hk.one hk'
 obtain ⟨rfl, e⟩ := hh.one hh'
 exact ⟨rfl, fun h => by rw [hs h, hs' h, e h]⟩
def BookIs (t : Tm) (l : List Ev) (bk : List Cm) (at_ f : Int) : Prop :=
 (TFault t f ∧ f ≠ 0 ∧ bk = [] ∧ at_ = 0) ∨ (TRight t ∧ 120 < l.length ∧ bk = [] ∧ at_ = 0 ∧ f = 1) ∨
 (TRight t ∧ l.length ≤ 120 ∧ ∃ (k : Nat) (st : Nat → List Cm), st 0 = [] ∧ (∀ i, i < k → StepIs t (st i) (l.getD i ev0) (st (i + 1)) 0) ∧
  ((k = l.length ∧ bk = st k ∧ at_ = 0 ∧ f = 0) ∨ (k < l.length ∧ (∃ x, StepIs t (st k) (l.getD k ev0) x f) ∧ f ≠ 0 ∧ bk = [] ∧ at_ = (k : Int))))
theorem states_one {t : Tm} {l : List Ev} {k k' : Nat} {st st' : Nat → List Cm} (h0 : st 0 = []) (h0' : st' 0 = []) (h : ∀ i, i < k → StepIs t (st i) (l.getD i ev0) (st (i + 1)) 0) (h' : ∀ i, i < k' → StepIs t (st' i) (l.getD i ev0) (st' (i + 1)) 0) : ∀ i, i ≤ k → i ≤ k' → st i = st' i
 | 0, _, _ => h0.trans h0'.symm
 | i + 1, hk, hk' => by
  have ih := states_one h0 h0' h h' i (by omega) (by omega)
  have q := h i (by omega)
  have q' := h' i (by omega)
  rw [ih] at q
  exact (q.one q').2 rfl
theorem BookIs.one {t : Tm} {l : List Ev} {b b' : List Cm} {a a' f f' : Int} (h : BookIs t l b a f) (h' : BookIs t l b' a' f') : b = b' ∧ a = a' ∧ f = f' := by
 rcases h with ⟨p, q, rfl, rfl⟩ | ⟨p, q, rfl, rfl, rfl⟩ | ⟨p, q, k, st, s0, s1, s2⟩ <;> rcases h' with ⟨p', q', rfl, rfl⟩ | ⟨p', q', rfl, rfl, rfl⟩ | ⟨p', q', k', st', s0', s1', s2'⟩
 ·exact ⟨rfl, rfl, p.one p'⟩
 ·exact absurd (p.ok.2 p') q
 ·exact absurd (p.ok.2 p') q
 ·exact absurd (p'.ok.2 p) q'
 ·exact ⟨rfl, rfl, rfl⟩
 ·omega
 ·exact absurd (p'.ok.2 p) q'
 ·omega
 ·have same := states_one s0 s0' s1 s1'
  rcases s2 with ⟨e, rfl, rfl, rfl⟩ | ⟨e, ⟨x, hx⟩, hf, rfl, rfl⟩ <;> rcases s2' with ⟨e', rfl, rfl, rfl⟩ | ⟨e', ⟨x', hx'⟩, hf', rfl, rfl⟩
  ·have : k = k' := by omega
   subst this
   exact ⟨same k (Nat.le_refl _) (Nat.le_refl _), rfl, rfl⟩
  ·have q := s1 k' (by omega)
   rw [same k' (by omega) (Nat.le_refl _)] at q
   exact absurd ((q.one hx').1.symm) hf'
  ·have q := s1' k (by omega)
   rw [← same k (Nat.le_refl _) (by omega)] at q
   exact absurd ((q.one hx).1.symm) hf
  ·rcases Nat.lt_trichotomy k k' with c | c | c
   ·have q := s1' k c
    rw [← same k (Nat.le_refl _) (by omega)] at q
    exact absurd ((q.one hx).1.symm) hf
   ·subst c
    rw [same k (Nat.le_refl _) (Nat.le_refl _)] at hx
    exact ⟨rfl, rfl, (hx.one hx').1⟩
   ·have q := s1 k' c
    rw [same k' (by omega) (Nat.le_refl _)] at q
    exact absurd ((q.one hx').1.symm) hf'
theorem run_more {t : Tm} {l : List Ev} {k : Nat} {st : Nat → List Cm} {bk : List Cm} (h : ∀ i, i < k → StepIs t (st i) (l.getD i ev0) (st (i + 1)) 0) (hs : StepIs t (st k) (l.getD k ev0) bk 0) : ∃ st' : Nat → List Cm, st' 0 = st 0 ∧ st' (k + 1) = bk ∧ (∀ i, i < k + 1 → StepIs t (st' i) (l.getD i ev0) (st' (i + 1)) 0) := by
 refine ⟨fun i => if i ≤ k then st i else bk, if_pos (Nat.zero_le _), if_neg (by omega), fun i hi => ?_⟩
 show StepIs t (if i ≤ k then st i else bk) _ (if i + 1 ≤ k then st (i + 1) else bk) 0
 by_cases e : i = k
 ·subst e
  rw [if_pos (Nat.le_refl _), if_neg (by omega)]
  exact hs
 ·rw [if_pos (by omega), if_pos (by omega)]
  exact h i (by omega)
end book
namespace disk
open Go.RowKit cell
set_option maxRecDepth 100000
theorem sliT : SliT Tryz.prog 25 79 := ⟨by kernel_rfl, Tryz.underlying79⟩
end disk
namespace book
open Go.RowKit
set_option maxRecDepth 100000
theorem eqI (d : Nat) (a b : Int) (w : World) : (Op.equalIn (d + 1) 3 (.int .i64 a) (.int .i64 b)).run Tryz.prog w = .ok (a == b) w := run_equalIn_int w d _ _ _ a b Tryz.underlying3
set_option maxHeartbeats 2000000 in
theorem rfound (p : Option Addr) (n cap : Nat) (l : List Cu) (me : Int) (w : World) (h : RowC w p n l) (hn : n ≤ 9223372036854775807) : Calls Tryz.prog 26 #[.agg #[.slice p n cap], .int .i64 me] w fun e w' => ∃ x, e = .returned (.int .i64 x) ∧ FoundIs l me x ∧ Below w.heap.size w w' := by
 obtain ⟨W, HWW, HX, HB, -⟩ := sh1 w #[.slice p n cap] 29
 have HR : Hid (RowC W p n l) := h.below HB.out
 have HL : Hid (l.length = n) := h.1
 clear h
 go_enter Tryz.func26, Tryz.ntmps26
 go_upto_region 1 with fail
 rw [HWW.out]
 clear HWW
 have k0 : W.cell? ⟨w.heap.size, 0, none⟩ = some (.slice p n cap) := HX.out.cell 0
 go_wp2_with fail
 go_loopw [5] (fun i wr => ∃ k : Nat, k ≤ n ∧ i = .int .i64 (k : Int) ∧ (∀ j, j < k → (l.getD j cu0).me ≠ me) ∧ wr = W) (fun i _ => n - (intOf i).toNat)
 case atStart => exact ⟨0, Nat.zero_le _, rfl, fun j hj => absurd hj (Nat.not_lt_zero _), rfl⟩
 case round =>
  obtain ⟨k, hk, rfl, hf, hwr⟩ := hrel
  subst hwr
  have HF : Hid (∀ j, j < k → (l.getD j cu0).me ≠ me) := hf
  clear hf
  by_cases hlt : k < n
  ·obtain ⟨b, off, rfl, lb, hc⟩ := HR.out.2.resolve_left (by omega)
   have c0 : wr.cell? ⟨b, off + k * 8, none⟩ = some (.int .i64 (l.getD k cu0).me) := hc k 0 hlt (by decide)
   have HK : Hid ((l.getD k cu0).me = (l.getD k cu0).me) := rfl
   have hdl : decide ((k : Int) < (n : Int)) = true := by simp; omega
   by_cases he : (l.getD k cu0).me = me
   ·have n1 : ((l.getD k cu0).me == me) = true := by simpa using he
    have HI : Hid (FoundIs l me (k : Int)) := .inl ⟨k, by rw [HL.out]; exact hlt, he, HF.out, rfl⟩
    clear hc HF HK he
    generalize (l.getD k cu0).me = z at *
    go_wp2_with fail
    go_ret
    exact ⟨_, rfl, HI.out, HB.out⟩
   ·have n1 : ((l.getD k cu0).me == me) = false := by simpa using he
    have HF2 : Hid (∀ j, j < k + 1 → (l.getD j cu0).me ≠ me) := fun j hj => by
     by_cases e : j = k
     ·subst e; exact he
     ·exact HF.out j (by omega)
    clear hc HF HK he
    generalize (l.getD k cu0).me = z at *
    go_wp2_with fail
    go_roundw
    case rel => exact ⟨k + 1, by omega, by go_num, HF2.out, by first | rfl | trivial⟩
    case measure => simp [intOf]; omega
  ·obtain rfl : k = n := by omega
   have hdl : decide ((k : Int) < (k : Int)) = false := by simp
   have HI : Hid (FoundIs l me (-1)) := .inr ⟨fun j hj => HF.out j (by rw [HL.out] at hj; exact hj), rfl⟩
   clear HF
   go_wp2_with fail
   go_ret
   exact ⟨_, rfl, HI.out, HB.out⟩
end book
namespace acc
open tar (Du du0 Came RowD Ld PairT)
open Go.RowKit
set_option maxRecDepth 100000
theorem grown_blk {w w' : World} {own : Option Nat} {G : Nat} {cs : Array Value} {t : TypeId} (h : Blk w G cs t) (hg : w.grownBy w' own) (hne : some G ≠ own) : Blk w' G cs t := by
 unfold Blk at *
 rw [hg.block G (Blk.lt h) hne]
 exact h
end acc
namespace deb
open tar (Du du0 Came RowD Ld ErrPost TwoPost PairT GaveD)
open Go.RowKit
set_option maxRecDepth 100000
theorem part_split (a b : Int) : a / 10000 * b + a % 10000 * b / 10000 = a * b / 10000 := by
 have e : a * b = a / 10000 * b * 10000 + a % 10000 * b := by
  have h := Int.emod_add_mul_ediv a 10000
  have h2 : a * b = (a % 10000 + 10000 * (a / 10000)) * b := by rw [h]
  rw [h2, Int.add_mul, Int.mul_assoc, Int.mul_comm 10000, Int.add_comm]
 rw [e]
 generalize a / 10000 * b = x
 generalize a % 10000 * b = y
 omega
set_option maxHeartbeats 1000000 in
theorem rparted (a b : Int) (w : World) (h : (0 ≤ a ∧ a ≤ 1000000000000) ∧ 0 ≤ b ∧ b ≤ 10000) :
  Calls Tryz.prog 82 #[.int .i64 a, .int .i64 b] w fun e w' => e = .returned (.tuple #[.int .i64 (a * b / 10000), .int .i64 0]) ∧ w' = w := by
 have HI1 : Hid (∀ W, Calls Tryz.prog 25 #[.int .i64 a, .int .i64 0, .int .i64 1000000000000] W fun e w' => e = .returned (.bool (decide (0 ≤ a ∧ a ≤ 1000000000000))) ∧ w' = W) := fun W => cal.cin a 0 1000000000000 W
 have HI2 : Hid (∀ W, Calls Tryz.prog 25 #[.int .i64 b, .int .i64 0, .int .i64 10000] W fun e w' => e = .returned (.bool (decide (0 ≤ b ∧ b ≤ 10000))) ∧ w' = W) := fun W => cal.cin b 0 10000 W
 rw [decide_eq_true h.1] at HI1
 rw [decide_eq_true h.2] at HI2
 obtain ⟨⟨h1, h2⟩, h3, h4⟩ := h
 obtain ⟨p1, p2⟩ := prod_le (a / 10000) b 100000000 10000 (by omega) (by omega) h3 h4
 obtain ⟨p3, p4⟩ := prod_le (a % 10000) b 10000 10000 (by omega) (by omega) h3 h4
 rw [← part_split]
 go_enter Tryz.func82, Tryz.ntmps82
 go_wp2_with fail
 refine (HI1.out _).mono ?_
 rintro e w1 ⟨rfl, hw1⟩
 subst hw1
 go_wp2_with fail
 refine (HI2.out _).mono ?_
 rintro e w1 ⟨rfl, hw1⟩
 subst hw1
 go_wp2
 go_ret2
 exact ⟨rfl, rfl⟩
set_option maxHeartbeats 1000000 in
theorem rnopart (a b : Int) (w : World) (h : 0 ≤ a ∧ a ≤ 1000000000000) (hb : ¬ (0 ≤ b ∧ b ≤ 10000)) :
  Calls Tryz.prog 82 #[.int .i64 a, .int .i64 b] w fun e w' => e = .returned (.tuple #[.int .i64 0, .int .i64 2]) ∧ w' = w := by
 have HI1 : Hid (∀ W, Calls Tryz.prog 25 #[.int .i64 a, .int .i64 0, .int .i64 1000000000000] W fun e w' => e = .returned (.bool (decide (0 ≤ a ∧ a ≤ 1000000000000))) ∧ w' = W) := fun W => cal.cin a 0 1000000000000 W
 have HI2 : Hid (∀ W, Calls Tryz.prog 25 #[.int .i64 b, .int .i64 0, .int .i64 10000] W fun e w' => e = .returned (.bool (decide (0 ≤ b ∧ b ≤ 10000))) ∧ w' = W) := fun W => cal.cin b 0 10000 W
 rw [decide_eq_true h] at HI1
 rw [decide_eq_false hb] at HI2
 clear h hb
 go_enter Tryz.func82, Tryz.ntmps82
 go_wp2_with fail
 refine (HI1.out _).mono ?_
 rintro e w1 ⟨rfl, hw1⟩
 subst hw1
 go_wp2_with fail
 refine (HI2.out _).mono ?_
 rintro e w1 ⟨rfl, hw1⟩
 subst hw1
 go_wp2
 go_ret2
 exact ⟨rfl, rfl⟩
set_option maxHeartbeats 1000000 in
theorem rshare (t bp : Int) (w : World) : Calls Tryz.prog 94 #[.int .i64 t, .int .i64 bp] w fun e w' => ∃ s f, e = .returned (.tuple #[.int .i64 s, .int .i64 f]) ∧ ShareIs t bp s f ∧ w' = w := by
 have HIT : Hid (∀ W, Calls Tryz.prog 25 #[.int .i64 t, .int .i64 0, .int .i64 100000000] W fun e w' => e = .returned (.bool (decide (0 ≤ t ∧ t ≤ 100000000))) ∧ w' = W) := fun W => cal.cin t 0 100000000 W
 by_cases ht : 0 ≤ t ∧ t ≤ 100000000
 ·rw [decide_eq_true ht] at HIT
  by_cases hb : 0 ≤ bp ∧ bp ≤ 10000
  ·have HPA : Hid (∀ W, Calls Tryz.prog 82 #[.int .i64 t, .int .i64 bp] W fun e w' => e = .returned (.tuple #[.int .i64 (t * bp / 10000), .int .i64 0]) ∧ w' = W) := fun W => rparted t bp W ⟨⟨ht.1, by omega⟩, hb⟩
   have HT : Hid (TMay t bp) := ⟨ht, hb⟩
   clear ht hb
   go_enter Tryz.func94, Tryz.ntmps94
   go_wp2_with fail
   refine (HIT.out _).mono ?_
   rintro e w1 ⟨rfl, hw1⟩
   subst hw1
   go_wp2_with fail
   refine (HPA.out _).mono ?_
   rintro e w1 ⟨rfl, hw1⟩
   subst hw1
   go_wp2_with fail
   go_ret2
   exact ⟨_, _, rfl, .inl ⟨HT.out, rfl, rfl⟩, rfl⟩
  ·have HPA : Hid (∀ W, Calls Tryz.prog 82 #[.int .i64 t, .int .i64 bp] W fun e w' => e = .returned (.tuple #[.int .i64 0, .int .i64 2]) ∧ w' = W) := fun W => rnopart t bp W ⟨ht.1, by omega⟩ hb
   have HT : Hid (¬ TMay t bp) := fun h => hb h.2
   clear ht hb
   go_enter Tryz.func94, Tryz.ntmps94
   go_wp2_with fail
   refine (HIT.out _).mono ?_
   rintro e w1 ⟨rfl, hw1⟩
   subst hw1
   go_wp2_with fail
   refine (HPA.out _).mono ?_
   rintro e w1 ⟨rfl, hw1⟩
   subst hw1
   go_wp2_with fail
   go_ret2
   exact ⟨_, _, rfl, .inr ⟨HT.out, rfl, rfl⟩, rfl⟩
 ·rw [decide_eq_false ht] at HIT
  have HT : Hid (¬ TMay t bp) := fun h => ht h.1
  clear ht
  go_enter Tryz.func94, Tryz.ntmps94
  go_wp2_with fail
  refine (HIT.out _).mono ?_
  rintro e w1 ⟨rfl, hw1⟩
  subst hw1
  go_wp2_with fail
  go_ret2
  exact ⟨_, _, rfl, .inr ⟨HT.out, rfl, rfl⟩, rfl⟩
end deb
namespace tar
open Go.RowKit
set_option maxRecDepth 100000
set_option maxHeartbeats 2000000 in
theorem rmay (a : Option Addr) (len cap : Nat) (ls : List Du) (x n : Int) (w : World) (hr : RowD w a len ls) (hl : len ≤ maxLen) : Calls Tryz.prog 95 #[.slice a len cap, .int .i64 x, .int .i64 n] w fun e w' => ErrPost w (MayIs ls x n) e w' := by
 have HIX : Hid (∀ W, Calls Tryz.prog 25 #[.int .i64 x, .int .i64 0, .int .i64 10000000] W fun e w' => e = .returned (.bool (decide (0 ≤ x ∧ x ≤ 10000000))) ∧ w' = W) := fun W => cal.cin x 0 10000000 W
 have HIN : Hid (∀ W, Calls Tryz.prog 25 #[.int .i64 n, .int .i64 0, .int .i64 2097151] W fun e w' => e = .returned (.bool (decide (0 ≤ n ∧ n ≤ 2097151))) ∧ w' = W) := fun W => cal.cin n 0 2097151 W
 have HFA : Hid (Calls Tryz.prog 56 #[.slice a len cap] w fun e w' => ErrPost w (FaultIs ls) e w') := rfault a len cap ls w hr hl
 clear hr hl
 go_enter Tryz.func95, Tryz.ntmps95
 go_wp2_with fail
 refine HFA.out.mono ?_
 rintro e w1 ⟨f, rfl, hf, hb⟩
 have HB : Hid (Below w.heap.size w w1) := hb
 have HF : Hid (FaultIs ls f) := hf
 clear hb HFA
 by_cases h0 : f = 0
 ·subst h0
  have HR : Hid (Right ls) := hf.ok.1 rfl
  clear hf
  by_cases hx : 0 ≤ x ∧ x ≤ 10000000
  ·rw [decide_eq_true hx] at HIX
   obtain ⟨hx0, hx1⟩ := hx
   by_cases hn : 0 ≤ n ∧ n ≤ 2097151
   ·rw [decide_eq_true hn] at HIN
    obtain ⟨hn0, hn1⟩ := hn
    by_cases hs : x + n ≤ 10000000
    ·have HV : Hid (MayIs ls x n 0) := .inr (.inr ⟨HR.out, ⟨⟨hx0, hx1⟩, ⟨hn0, hn1⟩, hs⟩, rfl⟩)
     have hd : decide (10000000 < x + n) = false := decide_eq_false (by omega)
     go_wp2_with fail
     refine (HIX.out _).mono ?_
     rintro e w2 ⟨rfl, hw2⟩
     subst hw2
     go_wp2_with fail
     refine (HIN.out _).mono ?_
     rintro e w2 ⟨rfl, hw2⟩
     subst hw2
     go_wp2_with fail
     go_ret
     exact ⟨_, rfl, HV.out, HB.out⟩
    ·have HV : Hid (MayIs ls x n 2) := .inr (.inl ⟨HR.out, fun h => hs h.2.2, rfl⟩)
     have hd : decide (10000000 < x + n) = true := decide_eq_true (by omega)
     clear hs
     go_wp2_with fail
     refine (HIX.out _).mono ?_
     rintro e w2 ⟨rfl, hw2⟩
     subst hw2
     go_wp2_with fail
     refine (HIN.out _).mono ?_
     rintro e w2 ⟨rfl, hw2⟩
     subst hw2
     go_wp2_with fail
     go_ret
     exact ⟨_, rfl, HV.out, HB.out⟩
   ·rw [decide_eq_false hn] at HIN
    have HV : Hid (MayIs ls x n 2) := .inr (.inl ⟨HR.out, fun h => hn h.2.1, rfl⟩)
    clear hn
    go_wp2_with fail
    refine (HIX.out _).mono ?_
    rintro e w2 ⟨rfl, hw2⟩
    subst hw2
    go_wp2_with fail
    refine (HIN.out _).mono ?_
    rintro e w2 ⟨rfl, hw2⟩
    subst hw2
    go_wp2_with fail
    all_goals first
     | (rename_i q1 q2; exact absurd q1 (by simp [undef]))
     | (go_ret; exact ⟨_, rfl, HV.out, HB.out⟩)
  ·rw [decide_eq_false hx] at HIX
   have HV : Hid (MayIs ls x n 2) := .inr (.inl ⟨HR.out, fun h => hx h.1, rfl⟩)
   clear hx
   go_wp2_with fail
   refine (HIX.out _).mono ?_
   rintro e w2 ⟨rfl, hw2⟩
   subst hw2
   go_wp2_with fail
   all_goals first
    | (rename_i q1 q2; exact absurd q1 (by simp [undef]))
    | (go_ret; exact ⟨_, rfl, HV.out, HB.out⟩)
 ·have hne : (f != 0) = true := by simpa using h0
  have HV : Hid (MayIs ls x n f) := .inl ⟨fun h => h0 (hf.ok.2 h), hf⟩
  clear hf h0
  go_wp2_with fail
  go_ret
  exact ⟨_, rfl, HV.out, HB.out⟩
end tar
namespace acc
open tar (Du du0 Came RowD Ld PairT)
open Go.RowKit
set_option maxRecDepth 100000
set_option maxHeartbeats 2000000 in
theorem ropen (m : Int) (w : World) : Calls Tryz.prog 36 #[.int .i64 m] w fun e w' => APost w (OpenIs m) e w' := by
 have HIM : Hid (∀ W, Calls Tryz.prog 25 #[.int .i64 m, .int .i64 0, .int .i64 49] W fun e w' => e = .returned (.bool (decide (0 ≤ m ∧ m ≤ 49))) ∧ w' = W) := fun W => cal.cin m 0 49 W
 have H0r : Hid (Blk (w.alloc (.cells #[.int .i64 0, .int .i64 0, .int .i64 0, .int .i64 0, .int .i64 0, .int .i64 0, .slice none 0 0] 59)) w.heap.size #[.int .i64 0, .int .i64 0, .int .i64 0, .int .i64 0, .int .i64 0, .int .i64 0, .slice none 0 0] 59) := Blk.new w _ _
 have H0B : Hid (Below w.heap.size w (w.alloc (.cells #[.int .i64 0, .int .i64 0, .int .i64 0, .int .i64 0, .int .i64 0, .int .i64 0, .slice none 0 0] 59))) := (Below.refl w.heap.size w).alloc (by simp) _
 by_cases hm : 0 ≤ m ∧ m ≤ 49
 ·rw [decide_eq_true hm] at HIM
  have HM : Hid ((0 ≤ m ∧ m ≤ 49)) := hm
  clear hm
  go_enter Tryz.func36, Tryz.ntmps36
  go_wp2_with fail
  refine (HIM.out _).mono ?_
  rintro e w1 ⟨rfl, hw1⟩
  subst hw1
  go_wp2_with (first | (refine zql rfl rfl rfl rfl zqu59 (by simp [Value.oneCell']) H0r rfl ?_) | fail)
  intro WF hU
  have H9r : Hid (Blk WF w.heap.size #[.int .i64 m, .int .i64 0, .int .i64 1, .int .i64 0, .int .i64 0, .int .i64 (-1), .slice none 0 0] 59) := hU.blk
  have H9B := shV hU H0B (by omega)
  clear hU H0r H0B
  have Rr0 : Hid (WF.cell? ⟨w.heap.size, 0, none⟩ = some (.int .i64 m)) := H9r.out.cell 0
  have Rr1 : Hid (WF.cell? ⟨w.heap.size, 1, none⟩ = some (.int .i64 0)) := H9r.out.cell 1
  have Rr2 : Hid (WF.cell? ⟨w.heap.size, 2, none⟩ = some (.int .i64 1)) := H9r.out.cell 2
  have Rr3 : Hid (WF.cell? ⟨w.heap.size, 3, none⟩ = some (.int .i64 0)) := H9r.out.cell 3
  have Rr4 : Hid (WF.cell? ⟨w.heap.size, 4, none⟩ = some (.int .i64 0)) := H9r.out.cell 4
  have Rr5 : Hid (WF.cell? ⟨w.heap.size, 5, none⟩ = some (.int .i64 (-1))) := H9r.out.cell 5
  have Rr6 : Hid (WF.cell? ⟨w.heap.size, 6, none⟩ = some (.slice none 0 0)) := H9r.out.cell 6
  go_wp2_with fail
  exact bodyPost_ret (v := .tuple #[.agg #[.int .i64 m, .int .i64 0, .int .i64 1, .int .i64 0, .int .i64 0, .int .i64 (-1), .slice none 0 0], .int .i64 0]) (by simp [results, Tryz.results36, Rr0.out, Rr1.out, Rr2.out, Rr3.out, Rr4.out, Rr5.out, Rr6.out, go_sem]) rfl ⟨⟨m, 0, 1, 0, 0, -1, []⟩, none, 0, 0, _, rfl, .inl ⟨HM.out, rfl, rfl⟩, deb.fresh_nil _ _, H9B.out⟩
 ·rw [decide_eq_false hm] at HIM
  have HM : Hid (¬ (0 ≤ m ∧ m ≤ 49)) := hm
  clear hm
  go_enter Tryz.func36, Tryz.ntmps36
  go_wp2_with fail
  refine (HIM.out _).mono ?_
  rintro e w1 ⟨rfl, hw1⟩
  subst hw1
  go_wp2_with (first | (refine zql rfl rfl rfl rfl zqu59 (by simp [Value.oneCell']) H0r rfl ?_) | fail)
  intro WF hU
  have H9r : Hid (Blk WF w.heap.size #[.int .i64 0, .int .i64 0, .int .i64 0, .int .i64 0, .int .i64 0, .int .i64 0, .slice none 0 0] 59) := hU.blk
  have H9B := shV hU H0B (by omega)
  clear hU H0r H0B
  obtain ⟨Rr0, Rr1, Rr2, Rr3, Rr4, Rr5, Rr6⟩ := shc7 H9r
  go_wp2_with fail
  exact bodyPost_ret (v := .tuple #[.agg #[.int .i64 0, .int .i64 0, .int .i64 0, .int .i64 0, .int .i64 0, .int .i64 0, .slice none 0 0], .int .i64 2]) (by simp [results, Tryz.results36, Rr0.out, Rr1.out, Rr2.out, Rr3.out, Rr4.out, Rr5.out, Rr6.out, go_sem]) rfl ⟨ac0, none, 0, 0, _, rfl, .inr ⟨HM.out, rfl, rfl⟩, deb.fresh_nil _ _, H9B.out⟩
end acc
namespace disk
open Go.RowKit cell
set_option maxRecDepth 100000
def ReadsF (w : World) (base : Nat) (a : Option Addr) (n : Nat) (zs : List (List Int)) : Prop :=
 zs.length = n ∧ (n = 0 ∨ ∃ b off, a = some ⟨b, off, none⟩ ∧ base ≤ b ∧ b < w.heap.size ∧ ∀ i, i < n → ∃ s : Sli, w.cell? ⟨b, off + i, none⟩ = some s.v ∧ RowU w s.a s.n (zs.getD i []) ∧ (s.n ≤ 100000 ∧ s.n ≤ s.c ∧ (s.a = none → s.c = 0)) ∧ ∀ x, s.a = some x → base ≤ x.block)
def RepNew (w : World) (c : List Int) (e : Ending) (w' : World) : Prop :=
 ∃ a n cap out x f, e = .returned (.tuple #[.slice a n cap, .int .i64 x, .int .i64 f]) ∧ ReadsF w' w.heap.size a n out ∧ n ≤ 100000 ∧ RepIs c out x f ∧ Below w.heap.size w w'
def AppGot (w : World) (c r : List Int) (e : Ending) (w' : World) : Prop :=
 ∃ a n cap ls f, e = .returned (.tuple #[.slice a n cap, .int .i64 f]) ∧ RowW w' a n ls ∧ (∀ x, a = some x → w.heap.size ≤ x.block) ∧ n ≤ cap ∧ n ≤ 100000 ∧ AppIs c r ls f ∧ Below w.heap.size w w'
end disk
namespace book
open Go.RowKit cell
set_option maxRecDepth 100000
def DecGot (w : World) (l : List Int) (e : Ending) (w' : World) : Prop := ∃ v f, e = .returned (.tuple #[Ev.v v, .int .i64 f]) ∧ DecIs l v f ∧ Below w.heap.size w w'
def KDec : Prop := ∀ (W : World) (a : Option Addr) (n cap : Nat) (l : List Int), RowU W a n l → (a = none → cap = 0) → n ≤ cap → n * 4 ≤ 140737488351232 → (∀ x ∈ l, 0 ≤ x ∧ x < 4294967296) → Calls Tryz.prog 50 #[.slice a n cap] W fun e w' => DecGot W l e w'
end book
namespace acc
open tar (Du du0 Came RowD Ld PairT)
open Go.RowKit
set_option maxRecDepth 100000
theorem awithin (lo hi n : Int) (w : World) : Calls Tryz.prog 69 #[.int .i64 lo, .int .i64 hi, .int .i64 n] w fun e w' => e = .returned (.bool (decide (lo ≤ n ∧ n ≤ hi))) ∧ w' = w := by
 by_cases h1 : lo ≤ n
 ·by_cases h2 : n ≤ hi
  ·have h3 : decide (lo ≤ n ∧ n ≤ hi) = true := by simp; omega
   rw [h3]; clear h3
   go_enter Tryz.func69, Tryz.ntmps69
   go_wp2
   go_ret
   exact ⟨rfl, rfl⟩
  ·have h3 : decide (lo ≤ n ∧ n ≤ hi) = false := by simp; omega
   have h4 : decide (n ≤ hi) = false := by simp; omega
   rw [h3]; clear h3 h2
   go_enter Tryz.func69, Tryz.ntmps69
   go_wp2
   go_ret
   exact ⟨rfl, rfl⟩
 ·have h3 : decide (lo ≤ n ∧ n ≤ hi) = false := by simp; omega
  have h4 : decide (lo ≤ n) = false := by simp; omega
  rw [h3]; clear h3 h1
  go_enter Tryz.func69, Tryz.ntmps69
  go_wp2
  go_ret
  exact ⟨rfl, rfl⟩
def KcCheck : Prop := ∀ (W : World) (t : Tm) (pt : Option Addr) (lt ct : Nat), TCame W t pt lt ct → Calls Tryz.prog 51 #[t.v pt lt ct] W fun e w' => tar.ErrPost W (TFault t) e w'
end acc
namespace deb
open tar (Du du0 Came TwoPost)
open Go.RowKit
def KdRec : Prop := ∀ (W : World) (a : Option Addr) (len cap : Nat) (ls : List Du) (t bp : Int), Came W a len cap ls → (Lit.int .i64 t).wf = true → (Lit.int .i64 bp).wf = true → Calls Tryz.prog 114 #[.slice a len cap, .int .i64 t, .int .i64 bp] W fun e w' => RecPost W ls t bp e w'
def KdTotal : Prop := ∀ (W : World) (a : Option Addr) (len cap : Nat) (ls : List Du), Came W a len cap ls → Calls Tryz.prog 88 #[.slice a len cap] W fun e w' => TwoPost W (OwedIs ls) e w'
open tar (RowD Ld ErrPost PairT GaveD)
set_option maxRecDepth 100000
set_option maxHeartbeats 2000000 in
theorem ktotal : KdTotal := by
 intro w a len cap ls hcame
 have hr := hcame.row
 have HFA : Hid (Calls Tryz.prog 100 #[.slice a len cap] w fun e w' => ∃ f, e = .returned (.int .i64 f) ∧ FaultIs ls f ∧ Below w.heap.size w w') := pcheck a len cap ls w hr hcame.most
 have HOW : Hid (Mays ls → ∀ W, Below w.heap.size w W → Calls Tryz.prog 101 #[.slice a len cap] W fun e w' => e = .returned (.int .i64 (sumD ls)) ∧ Below W.heap.size W w') := fun hm W hW => powed a len cap ls W (hr.below hW) hm
 clear hcame hr
 go_enter Tryz.func88, Tryz.ntmps88
 go_wp2_with fail
 refine HFA.out.mono ?_
 rintro e w1 ⟨f, rfl, hf, hb1⟩
 have HB1 : Hid (Below w.heap.size w w1) := hb1
 have HF : Hid (FaultIs ls f) := hf
 clear hb1 HFA
 by_cases h0 : f = 0
 ·subst h0
  have hm := hf.ok.1 rfl
  have HO2 : Hid (Calls Tryz.prog 101 #[.slice a len cap] w1 fun e w' => e = .returned (.int .i64 (sumD ls)) ∧ Below w1.heap.size w1 w') := HOW.out hm w1 HB1.out
  clear hf hm HOW
  go_wp2_with fail
  refine HO2.out.mono ?_
  rintro e w2 ⟨rfl, hb2⟩
  have HB2 := shB HB1 hb2
  clear hb2 HO2
  go_wp2_with fail
  go_ret2
  exact ⟨_, _, rfl, ⟨HF.out, .inl ⟨rfl, rfl⟩⟩, HB2.out⟩
 ·have hne : (f != 0) = true := by simpa using h0
  have HN : Hid (f ≠ 0) := h0
  clear hf h0 HOW
  go_wp2_with fail
  go_ret2
  exact ⟨_, _, rfl, ⟨HF.out, .inr ⟨HN.out, rfl⟩⟩, HB1.out⟩
end deb
section
open Go.RowKit
theorem wp_letOpN {P : Program} {o : Oper} {a : Act} {w : World} {K : Act → World → Prop} {Q : Exit → Act → World → Prop} (ty : TypeId) (x y : Operand) (ho : o.op = .store ty x y)
  (g off : Nat) (hx : a.eval x = .pointer (some ⟨g, off, none⟩)) (v : Value) (hy : a.eval y = v) (cells : Array Value) (hv : v.cells = cells) (hi : (P.info? ty).map (·.size) = some cells.size) (h1 : cells.all (·.oneCell') = true)
  (cs : Array Value) (t : TypeId) (hB : Blk w g cs t) (hin : off + cells.size ≤ cs.size) (new : Array Value) (hnew : putAll cs off cells.toList = new) (hd : o.dst = none)
  (h : ∀ W, Upd w W g new t → K a W) : o.wp P a w K Q := by
 have hs := run_storeVar_let (P := P) (w := w) (g := g) (off := off) (ty := ty) (t := t) (v := v) (cells := cells) (cs := cs) hv hi h1 hB hin
 have hu := upd_cells g t cells.toList off w cs hB
 rw [hnew] at hu
 unfold Oper.wp execOp
 simp only [ho, hx, hy, Instr.storeAt, Instr.sureAddr, Sem.run_bind, Sem.run_pure, Result.andThen_ok, hs]
 have := h _ hu
 have e : a.put o.dst undef = a := by rw [hd]; rfl
 rw [← e] at this
 exact this
theorem wp_callOpP {P : Program} {o : Oper} {a : Act} {w : World} {f : FuncId} {args : Array Value} {R : Ending → World → Prop} {K : Act → World → Prop} {Q : Exit → Act → World → Prop} (d : Nat) (hd : o.dst = some d) (hrun : (execOp a.eval o).run P w = .ok (.enter f args) w) (hc : Calls P f args w R)
  (h : ∀ e w', R e w' → (∃ v, e = .returned v ∧ K (a.put (some d) v) w') ∨ ∃ c, e = .panicked c ∧ Q (.panic c) a w') : o.wp P a w K Q := by
 rw [← hd] at h
 unfold Oper.wp
 rw [hrun, Oper.upon_enter]
 refine hc.mono fun e w' hr => ?_
 rcases h e w' hr with ⟨v, rfl, hk⟩ | ⟨c, rfl, hk⟩
 ·exact hk
 ·exact hk
theorem wp_mapOp {P : Program} {o : Oper} {a : Act} {w W : World} {K : Act → World → Prop} {Q : Exit → Act → World → Prop} (ty : TypeId) (x y z : Operand) (ho : o.op = .mapUpdate ty x y z) (vx vy vz : Value) (hx : a.eval x = vx) (hy : a.eval y = vy) (hz : a.eval z = vz)
  (hr : (Instr.mapUpdate ty vx vy vz).run P w = .ok () W) (hd : o.dst = none) (h : K a W) : o.wp P a w K Q := by
 unfold Oper.wp execOp
 simp only [ho, hx, hy, hz, Sem.run_bind, Sem.run_pure, Result.andThen_ok, hr]
 have e : a.put o.dst undef = a := by rw [hd]; rfl
 rw [← e] at h
 exact h
end
namespace disk
open Go.RowKit cell
set_option maxRecDepth 100000
def KAppend : Prop := ∀ (W : World) (a : Option Addr) (n cap : Nat) (c : List Int) (b : Option Addr) (m cap2 : Nat) (r : List Int), RowU W a n c → (a = none → cap = 0) → n ≤ cap → n * 4 ≤ 140737488351232 → (∀ x ∈ c, 0 ≤ x ∧ x < 4294967296) → RowU W b m r → (b = none → cap2 = 0) → m ≤ cap2 → m * 4 ≤ 140737488351232 → (∀ x ∈ r, 0 ≤ x ∧ x < 4294967296) → Calls Tryz.prog 41 #[.slice a n cap, .slice b m cap2] W fun e w' => AppGot W c r e w'
end disk
namespace book
open Go.RowKit
set_option maxRecDepth 100000
def FindPost (w : World) (l : List Cu) (me : Int) (e : Ending) (w' : World) : Prop := ∃ x f, e = .returned (.tuple #[.int .i64 x, .int .i64 f]) ∧ FindIs l me x f ∧ Below w.heap.size w w'
end book
namespace cell
open Go.RowKit
theorem word_of {z : Int} (h : (Lit.int .u32 z).wf = true) : 0 ≤ z ∧ z < 4294967296 := by
 simp only [Lit.wf, Bool.and_eq_true, decide_eq_true_eq] at h
 rw [show IntKind.u32.min = 0 from by decide, show IntKind.u32.max = 4294967295 from by decide] at h
 omega
end cell
end Go.Proofs.YtomibnggmhjdfaaGreat
