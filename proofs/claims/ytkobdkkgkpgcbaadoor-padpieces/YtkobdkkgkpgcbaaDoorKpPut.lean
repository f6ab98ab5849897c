/- What put, pressed and ended give back. -/
import Derived.Test.YtkobdkkgkpgcbaaDoorKpDig
namespace Go.Proofs.YtkobdkkgkpgcbaaDoor.keypad
open Go.Proofs.YtkobdkkgkpgcbaaDoor.check
open Go.RowKit
set_option linter.unusedSimpArgs false

theorem bel1 (w : World) (o : Obj) : Below w.heap.size w (w.alloc o) := (Below.refl _ _).alloc (Nat.le_refl _) _
theorem bel2 (w : World) (o q : Obj) : Below w.heap.size w ((w.alloc o).alloc q) := (bel1 w o).alloc (by simp) _

def putP (p : Pad) (n : Int) : Pad := if p.d.size = 30 then ⟨p.d, true⟩ else ⟨p.d ++ one n, p.b⟩

set_option maxHeartbeats 1000000 in
theorem put_any (p : Pad) (n : Int) (w : World) (hs : p.d.size ≤ 30) (h0 : 0 ≤ n) (h9 : n ≤ 9) :
    Calls Tryd.prog 28 #[p.v, .int .i32 n] w fun e w' => e = .returned (putP p n).v ∧ Below w.heap.size w w' := by
  obtain ⟨s, b⟩ := p
  by_cases hc : s.size = 30
  · have hd : ((s.size : Int) == 30) = true := by simp; omega
    have HE : putP ⟨s, b⟩ n = ⟨s, true⟩ := if_pos hc
    rw [HE]
    clear hc hs HE
    unfold Pad.v
    go_enter Tryd.func28, Tryd.ntmps28
    go_wp2_with fail
    exact bodyPost_ret (v := .agg #[.string s, .bool true]) (by simp [results, Tryd.results28, go_sem]) rfl ⟨rfl, bel2 _ _ _⟩
  · have hd : ((s.size : Int) == 30) = false := by simp; omega
    have HE : putP ⟨s, b⟩ n = ⟨s ++ one n, b⟩ := if_neg hc
    rw [HE]
    have hl : (Utf8.encode (48 + n)).size = 1 := one_size n h0 h9
    have hs' : s.size ≤ 30 := hs
    have hq : ¬ 9223372036854775807 < s.size + (Utf8.encode (48 + n)).size := by omega
    clear hc HE hl hs hs'
    unfold Pad.v
    show Calls _ _ _ _ fun e w' => e = .returned (.agg #[.string (s ++ Utf8.encode (48 + n)), .bool b]) ∧ Below w.heap.size w w'
    go_enter Tryd.func28, Tryd.ntmps28
    go_wp2_with fail
    exact bodyPost_ret (v := .agg #[.string (s ++ Utf8.encode (48 + n)), .bool b]) (by simp [results, Tryd.results28, go_sem]) rfl ⟨rfl, bel2 _ _ _⟩

theorem emp {s : ByteArray} (h : s.size = 0) : s = ByteArray.empty := by
  obtain ⟨⟨l⟩⟩ := s
  have : l = [] := List.eq_nil_of_length_eq_zero h
  subst this; rfl
theorem ne_emp {s : ByteArray} (h : s.size ≠ 0) : s ≠ ByteArray.empty := fun e => h (by rw [e]; rfl)

/-- The cells of entries. -/
def cellsE : List Ent → List Value
  | [] => []
  | e :: l => .string e.t :: .int .i64 e.c :: cellsE l
theorem cellsE_len (l : List Ent) : (cellsE l).length = l.length * 2 := by
  induction l with
  | nil => rfl
  | cons e l ih => simp only [cellsE, List.length_cons, ih]; omega
theorem cellsE_app (a b : List Ent) : cellsE (a ++ b) = cellsE a ++ cellsE b := by
  induction a with
  | nil => rfl
  | cons e a ih => simp only [List.cons_append, cellsE, ih]
/-- A slice of entries that nobody else holds. -/
def Lies (w : World) (base : Nat) (v : Value) (l : List Ent) : Prop := w.ownsRow base 40 2 v l.length (cellsE l)
theorem Lies.zero (w : World) (base : Nat) : Lies w base (.slice none 0 0) [] := World.ownsRow_nil _ _ _ _

theorem Lies.one {w : World} {base g : Nat} {t : ByteArray} {c : Int} (h : Blk w g #[.string t, .int .i64 c] 40) (hg : base ≤ g) : Lies w base (.slice (some ⟨g, 0, none⟩) 1 1) [⟨t, c⟩] :=
  ⟨rfl, .inr ⟨g, 1, _, rfl, hg, h, Nat.le_refl _, by decide, rfl, rfl⟩⟩
theorem not_empty {s : ByteArray} (h : s.size ≠ 0) : (!s.toList.isEmpty) = true := by
  rw [ByteArray.toList_eq]
  cases hl : s.data.toList with
  | nil => exact absurd (by rw [← len_eq, hl]; rfl) h
  | cons a r => rfl

set_option maxHeartbeats 1000000 in
theorem ended_any (p : Pad) (w : World) :
    Calls Tryd.prog 20 #[p.v] w fun e w' => ∃ v, e = .returned v ∧ Lies w' w.heap.size v (ended p) ∧ Below w.heap.size w w' := by
  obtain ⟨s, b⟩ := p
  unfold Pad.v
  cases b
  · by_cases hz : s.size = 0
    · have hs : s = ByteArray.empty := emp hz
      subst hs
      have HE : ended ⟨ByteArray.empty, false⟩ = [] := rfl
      rw [HE]
      go_enter Tryd.func20, Tryd.ntmps20
      go_wp2_with fail
      go_ret
      exact ⟨_, rfl, Lies.zero _ _, bel1 _ _⟩
    · have HE : ended ⟨s, false⟩ = [⟨s, 0⟩] := if_neg hz
      rw [HE]
      have e := not_empty hz
      clear hz HE
      go_enter Tryd.func20, Tryd.ntmps20
      go_wp2_with fail
      go_ret
      exact ⟨_, rfl, Lies.one (Blk.new1 w _ _ _) (Nat.le_succ _), bel2 _ _ _⟩
  · rw [show ended ⟨s, true⟩ = [⟨ByteArray.empty, 3⟩] from rfl]
    go_enter Tryd.func20, Tryd.ntmps20
    go_wp2_with fail
    go_ret
    exact ⟨_, rfl, Lies.one (Blk.new1 w _ _ _) (Nat.le_succ _), bel2 _ _ _⟩

/-- A pad is stored. -/
def setP (w : World) (G : Nat) (s : ByteArray) (b : Bool) : World := (w.setCell ⟨G, 0, none⟩ (.string s)).setCell ⟨G, 1, none⟩ (.bool b)
theorem bel_setP {B : Nat} {w w' : World} (h : Below B w w') (G : Nat) (s : ByteArray) (b : Bool) (hG : B ≤ G) : Below B w (setP w' G s b) := bel_set (bel_set h _ _ _ hG) _ _ _ hG
theorem Blk.putP {w : World} {G : Nat} {x y : Value} {t : TypeId} (h : Blk w G #[x, y] t) (s : ByteArray) (b : Bool) : Blk (setP w G s b) G #[.string s, .bool b] t := (h.set 0 _).set 1 _
theorem Blk.offP {w : World} {G G' : Nat} {cs : Array Value} {t : TypeId} (h : Blk w G cs t) (hne : G' ≠ G) (s : ByteArray) (b : Bool) : Blk (setP w G' s b) G cs t := (h.other _ _ hne).other _ _ hne

set_option maxHeartbeats 2000000 in
theorem pressed_any (p : Pad) (r : Int) (w : World) (hs : p.d.size ≤ 30) (ht : NTab w) (hr : r ≠ 35) :
    Calls Tryd.prog 21 #[p.v, .int .i32 r] w fun e w' => e = .returned (pad p r).v ∧ Below w.heap.size w w' := by
  have hk := keyD_bd r
  by_cases hd : 0 ≤ keyD r
  · have HE : pad p r = putP p (keyD r) := by unfold pad putP; rw [if_pos hd]
    rw [HE]
    have HP : Hid (∀ W, Calls Tryd.prog 28 #[p.v, .int .i32 (keyD r)] W fun e w' => e = .returned (putP p (keyD r)).v ∧ Below W.heap.size W w') := fun W => put_any p (keyD r) W hs hd hk.2
    have HD : Hid (∀ W, NTab W → Calls Tryd.prog 27 #[.int .i32 r] W fun e w' => e = .returned (.tuple #[.int .i32 (keyD r), .bool true]) ∧ w' = W) := fun W hW => (digit_any r W hW).mono (by
      rintro e w' ⟨⟨_, rfl⟩ | ⟨hn, _⟩, rfl⟩
      · exact ⟨rfl, rfl⟩
      · omega)
    generalize putP p (keyD r) = q at *
    generalize keyD r = n at *
    clear HE hk hd hr hs
    obtain ⟨s, b⟩ := p
    obtain ⟨s', b'⟩ := q
    unfold Pad.v at *
    go_enter Tryd.func21, Tryd.ntmps21
    go_wp2_with fail
    refine (HD.out _ (ht.below (bel2 _ _ _))).mono ?_
    rintro e w1 ⟨rfl, rfl⟩
    go_wp2_with fail
    refine (HP.out _).mono ?_
    rintro e w2 ⟨rfl, hb2⟩
    have hB : Below w.heap.size w w2 := bel_step (bel2 _ _ _) hb2
    have hX := (Blk.new1 w (.cells #[.string s, .bool b] 23) #[.string ⟨#[]⟩, .bool false] 23).next hb2
    have t0 := hX.cell 0
    have t1 := hX.cell 1
    have u0 := hX.free 0
    have u1 := hX.free 1
    have HX : Hid (Blk (setP w2 (w.heap.size + 1) s' b') (w.heap.size + 1) #[.string s', .bool b'] 23) := Blk.putP hX s' b'
    have HB : Hid (Below w.heap.size w (setP w2 (w.heap.size + 1) s' b')) := bel_setP hB _ _ _ (Nat.le_succ _)
    clear hX hB hb2 HD HP ht
    have R0 : Hid (_ = _) := HX.out.cell 0
    have R1 : Hid (_ = _) := HX.out.cell 1
    unfold setP at HB R0 R1
    clear HX
    go_wp2_with fail
    exact bodyPost_ret (v := .agg #[.string s', .bool b']) (by simp [results, Tryd.results21, R0.out, R1.out, go_sem]) rfl ⟨rfl, HB.out⟩
  · have HD : Hid (∀ W, NTab W → Calls Tryd.prog 27 #[.int .i32 r] W fun e w' => e = .returned (.tuple #[.int .i32 0, .bool false]) ∧ w' = W) := fun W hW => (digit_any r W hW).mono (by
      rintro e w' ⟨⟨hn, _⟩ | ⟨_, rfl⟩, rfl⟩
      · omega
      · exact ⟨rfl, rfl⟩)
    obtain ⟨s, b⟩ := p
    by_cases h1 : r = 32 ∨ r = 45 ∨ r = 160
    · have HE : pad ⟨s, b⟩ r = ⟨s, b⟩ := by unfold pad; rw [if_neg hd, if_pos h1]
      rw [HE]
      clear HE hd hr hk
      unfold Pad.v at *
      rcases h1 with rfl | rfl | rfl
      · go_enter Tryd.func21, Tryd.ntmps21
        go_wp2_with fail
        refine (HD.out _ (ht.below (bel2 _ _ _))).mono ?_
        rintro e w1 ⟨rfl, rfl⟩
        go_wp2_with fail
        exact bodyPost_ret (v := .agg #[.string s, .bool b]) (by simp [results, Tryd.results21, go_sem]) rfl ⟨rfl, bel2 _ _ _⟩
      · go_enter Tryd.func21, Tryd.ntmps21
        go_wp2_with fail
        refine (HD.out _ (ht.below (bel2 _ _ _))).mono ?_
        rintro e w1 ⟨rfl, rfl⟩
        go_wp2_with fail
        exact bodyPost_ret (v := .agg #[.string s, .bool b]) (by simp [results, Tryd.results21, go_sem]) rfl ⟨rfl, bel2 _ _ _⟩
      · go_enter Tryd.func21, Tryd.ntmps21
        go_wp2_with fail
        refine (HD.out _ (ht.below (bel2 _ _ _))).mono ?_
        rintro e w1 ⟨rfl, rfl⟩
        go_wp2_with fail
        exact bodyPost_ret (v := .agg #[.string s, .bool b]) (by simp [results, Tryd.results21, go_sem]) rfl ⟨rfl, bel2 _ _ _⟩
    · by_cases h2 : r = 42
      · have HE : pad ⟨s, b⟩ r = ⟨s.extract 0 (s.size - 1), b⟩ := by unfold pad; rw [if_neg hd, if_neg h1, if_pos h2]
        rw [HE]
        clear HE hd hr hk h1
        subst h2
        unfold Pad.v at *
        have hs' : s.size ≤ 30 := hs
        clear hs
        by_cases hz : s.size = 0
        · have e0 : s = ByteArray.empty := emp hz
          subst e0
          go_enter Tryd.func21, Tryd.ntmps21
          go_wp2_with fail
          refine (HD.out _ (ht.below (bel2 _ _ _))).mono ?_
          rintro e w1 ⟨rfl, rfl⟩
          go_wp2_with fail
          exact bodyPost_ret (v := .agg #[.string ByteArray.empty, .bool b]) (by simp [results, Tryd.results21, go_sem]) rfl ⟨by rw [show ByteArray.empty.extract 0 (ByteArray.empty.size - 1) = ByteArray.empty from rfl], bel2 _ _ _⟩
        · go_enter Tryd.func21, Tryd.ntmps21
          go_wp2_with fail
          refine (HD.out _ (ht.below (bel2 _ _ _))).mono ?_
          rintro e w1 ⟨rfl, rfl⟩
          go_wp2_with fail
          exact bodyPost_ret (v := .agg #[.string (s.extract 0 (s.size - 1)), .bool b]) (by simp [results, Tryd.results21, go_sem]) rfl ⟨rfl, bel2 _ _ _⟩
      · have HE : pad ⟨s, b⟩ r = ⟨s, true⟩ := by unfold pad; rw [if_neg hd, if_neg h1, if_neg h2, if_neg hr]
        rw [HE]
        have f1 : (r == 32) = false := by simp; omega
        have f2 : (r == 45) = false := by simp; omega
        have f3 : (r == 160) = false := by simp; omega
        have f4 : (r == 42) = false := by simp; omega
        clear HE hd hr hk h1 h2 hs
        unfold Pad.v at *
        go_enter Tryd.func21, Tryd.ntmps21
        go_wp2_with fail
        refine (HD.out _ (ht.below (bel2 _ _ _))).mono ?_
        rintro e w1 ⟨rfl, rfl⟩
        go_wp2_with fail
        exact bodyPost_ret (v := .agg #[.string s, .bool true]) (by simp [results, Tryd.results21, go_sem]) rfl ⟨rfl, bel2 _ _ _⟩

end Go.Proofs.YtkobdkkgkpgcbaaDoor.keypad
