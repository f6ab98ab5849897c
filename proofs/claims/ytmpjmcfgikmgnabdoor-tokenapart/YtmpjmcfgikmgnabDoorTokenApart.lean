/- Unlike tokens have unlike digits; unlike bodies are told but by the tag: at all raw numbers. -/
import Derived.Test.YtmpjmcfgikmgnabDoorCards
import Derived.Test.YtmpjmcfgikmgnabDoorTie
import Derived.Test.YtmpjmcfgikmgnabDoorTkBody
import Derived.Test.YtmpjmcfgikmgnabDoorTkForm
import Derived.Test.YtmpjmcfgikmgnabDoorTkEq
import Derived.Test.YtmpjmcfgikmgnabDoorTkMade
import Derived.WalkKit
import Derived.ProofKit
import Derived.OpenShut
import Derived.ShutString
import Derived.ChangeOld
import Derived.Below
import Derived.Deep.DeepHandedRow
import Derived.Test.YtmpjmcfgikmgnabDoorTkTab
namespace Go.Proofs.YtmpjmcfgikmgnabDoor.tokenApart
open Go.ChangeShapes Go.WideShapes Go.ChangeAt Go.RowKit
open Go.ChangeMaps (open_string shut_string)
set_option linter.unusedVariables false
set_option maxRecDepth 100000

theorem own : ownKnob Tryd.prog.godebug = none := by kernel_rfl

/-- What the row's list gives: the tables. -/
theorem table {W : World} (h : laidMetH Tryd.prog Rows.tokenApartRow.laid W) : token.TTab W :=
  token.ttab_of (by kernel_rfl) (by kernel_rfl) h

theorem walk (x0 y0 z0 u0 : Int) (x1 y1 z1 u1 : Int) (w : World) (w0 : token.wf4 x0 y0 z0 u0) (w1 : token.wf4 x1 y1 z1 u1) (ht : token.TTab w) :
    Calls Tryd.prog 6 #[.agg #[.int .i64 x0, .int .i64 y0, .int .i64 z0, .int .i64 u0], .agg #[.int .i64 x1, .int .i64 y1, .int .i64 z1, .int .i64 u1]] w fun e w' => e = .returned (.bool true) ∧ Below w.heap.size w w' := by
  have HT : Hid (token.TTab w) := ht
  obtain ⟨k, hkd⟩ : ∃ k, token.madeT x0 y0 z0 u0 = k := ⟨_, rfl⟩
  have hk : k.ok := by rw [← hkd]; exact token.made_ok _ _ _ _
  have HM0 : Hid (∀ W, Calls Tryd.prog 8 #[.agg #[.int .i64 x0, .int .i64 y0, .int .i64 z0, .int .i64 u0]] W fun e w' => e = .returned (.agg #[.int .i64 (k.c : Int), .int .i64 (k.i : Int), .int .i64 (k.a : Int), .int .i64 (k.t : Int)]) ∧ Below W.heap.size W w') := fun W => by
    have := token.made_any x0 y0 z0 u0 W w0
    rwa [hkd] at this
  obtain ⟨S, hS⟩ : ∃ S, token.fmtB (97 * k.num) = S := ⟨_, rfl⟩
  obtain ⟨n, hn⟩ : ∃ n : Int, (k.body : Int) = n := ⟨_, rfl⟩
  have HF0 : Hid (∀ W, token.TTab W → Calls Tryd.prog 7 #[.agg #[.int .i64 (k.c : Int), .int .i64 (k.i : Int), .int .i64 (k.a : Int), .int .i64 (k.t : Int)]] W fun e w' => e = .returned (.tuple #[.string S, .int .i64 0]) ∧ Below W.heap.size W w') := fun W hW => by
    have := token.format_ok k W hW hk
    rwa [hS] at this
  have HY0 : Hid (∀ W, token.TTab W → Calls Tryd.prog 13 #[.agg #[.int .i64 (k.c : Int), .int .i64 (k.i : Int), .int .i64 (k.a : Int), .int .i64 (k.t : Int)]] W fun e w' => e = .returned (.tuple #[.int .i64 n, .int .i64 0]) ∧ Below W.heap.size W w') := fun W hW => by
    have := token.body_ok k W hW hk
    rwa [hn] at this
  obtain ⟨l, hld⟩ : ∃ k, token.madeT x1 y1 z1 u1 = k := ⟨_, rfl⟩
  have hl : l.ok := by rw [← hld]; exact token.made_ok _ _ _ _
  have HM1 : Hid (∀ W, Calls Tryd.prog 8 #[.agg #[.int .i64 x1, .int .i64 y1, .int .i64 z1, .int .i64 u1]] W fun e w' => e = .returned (.agg #[.int .i64 (l.c : Int), .int .i64 (l.i : Int), .int .i64 (l.a : Int), .int .i64 (l.t : Int)]) ∧ Below W.heap.size W w') := fun W => by
    have := token.made_any x1 y1 z1 u1 W w1
    rwa [hld] at this
  obtain ⟨R, hR⟩ : ∃ S, token.fmtB (97 * l.num) = S := ⟨_, rfl⟩
  obtain ⟨m, hm⟩ : ∃ n : Int, (l.body : Int) = n := ⟨_, rfl⟩
  have HF1 : Hid (∀ W, token.TTab W → Calls Tryd.prog 7 #[.agg #[.int .i64 (l.c : Int), .int .i64 (l.i : Int), .int .i64 (l.a : Int), .int .i64 (l.t : Int)]] W fun e w' => e = .returned (.tuple #[.string R, .int .i64 0]) ∧ Below W.heap.size W w') := fun W hW => by
    have := token.format_ok l W hW hl
    rwa [hR] at this
  have HY1 : Hid (∀ W, token.TTab W → Calls Tryd.prog 13 #[.agg #[.int .i64 (l.c : Int), .int .i64 (l.i : Int), .int .i64 (l.a : Int), .int .i64 (l.t : Int)]] W fun e w' => e = .returned (.tuple #[.int .i64 m, .int .i64 0]) ∧ Below W.heap.size W w') := fun W hW => by
    have := token.body_ok l W hW hl
    rwa [hm] at this
  have hn0 : 0 ≤ n := by omega
  have hn1 : n ≤ 8796093022207 := by have := token.body_bd hk; omega
  have HE1 : Hid ((S.toList == R.toList) = ((k.c : Int) == (l.c : Int) && ((k.i : Int) == (l.i : Int) && ((k.a : Int) == (l.a : Int) && (k.t : Int) == (l.t : Int))))) := by
    show _ = _
    rw [Bool.eq_iff_iff]
    simp only [beq_iff_eq, Bool.and_eq_true]
    constructor
    · intro h
      rw [ByteArray.toList_eq, ByteArray.toList_eq, ← hS, ← hR, token.fmtB_list, token.fmtB_list] at h
      have h2 := token.fmt_inj h
      have h3 := token.num_inj hk hl (by omega)
      rw [h3]
      exact ⟨rfl, rfl, rfl, rfl⟩
    · rintro ⟨h1, h2, h3, h4⟩
      have h5 : k = l := by
        obtain ⟨a, b, c, d⟩ := k
        obtain ⟨a', b', c', d'⟩ := l
        simp only at h1 h2 h3 h4
        simp only [token.Tok.mk.injEq]
        omega
      rw [← hS, ← hR, h5]
  have HE2 : Hid ((n == m) = ((k.c : Int) == (l.c : Int) && ((k.i : Int) == (l.i : Int) && ((k.a : Int) == (l.a : Int) && (k.t : Int) == (k.t : Int))))) := by
    show _ = _
    rw [Bool.eq_iff_iff]
    simp only [beq_iff_eq, Bool.and_eq_true]
    constructor
    · intro h
      have h3 := token.body_inj hk hl (by omega)
      exact ⟨by omega, by omega, by omega, trivial⟩
    · rintro ⟨h1, h2, h3, h4⟩
      have h5 : k.body = l.body := by unfold token.Tok.body; omega
      omega
  have hq1 := token.eq4 (k.c : Int) (k.i : Int) (k.a : Int) (k.t : Int) (l.c : Int) (l.i : Int) (l.a : Int) (l.t : Int)
  have hq2 := token.eq4 (k.c : Int) (k.i : Int) (k.a : Int) (k.t : Int) (l.c : Int) (l.i : Int) (l.a : Int) (k.t : Int)
  simp only [← HE1.out] at hq1
  simp only [← HE2.out] at hq2
  clear HE1 HE2 hkd hld hk hl hS hR hn hm w0 w1
  have hb0 : Below w.heap.size w ((w.alloc (.cells #[.int .i64 x0, .int .i64 y0, .int .i64 z0, .int .i64 u0] 23)).alloc (.cells #[.int .i64 x1, .int .i64 y1, .int .i64 z1, .int .i64 u1] 23)) := ((Below.refl _ _).alloc (Nat.le_refl _) _).alloc (by simp) _
  have HB0 : Hid (Below w.heap.size w ((w.alloc (.cells #[.int .i64 x0, .int .i64 y0, .int .i64 z0, .int .i64 u0] 23)).alloc (.cells #[.int .i64 x1, .int .i64 y1, .int .i64 z1, .int .i64 u1] 23))) := hb0
  have HX0 : Hid (Blk ((w.alloc (.cells #[.int .i64 x0, .int .i64 y0, .int .i64 z0, .int .i64 u0] 23)).alloc (.cells #[.int .i64 x1, .int .i64 y1, .int .i64 z1, .int .i64 u1] 23)) w.heap.size #[.int .i64 x0, .int .i64 y0, .int .i64 z0, .int .i64 u0] 23) := (Blk.new _ _ _).alloc _
  have HX1 : Hid (Blk ((w.alloc (.cells #[.int .i64 x0, .int .i64 y0, .int .i64 z0, .int .i64 u0] 23)).alloc (.cells #[.int .i64 x1, .int .i64 y1, .int .i64 z1, .int .i64 u1] 23)) (w.heap.size + 1) #[.int .i64 x1, .int .i64 y1, .int .i64 z1, .int .i64 u1] 23) := Blk.new1 _ _ _ _
  clear hb0 ht
  go_enter Tryd.func6, Tryd.ntmps6
  go_wp2_with fail
  refine (HM0.out _).mono ?_
  rintro e w1 ⟨rfl, hb1⟩
  have HB1 : Hid (Below w.heap.size w (w1.alloc (.cells #[.int .i64 (k.c : Int), .int .i64 (k.i : Int), .int .i64 (k.a : Int), .int .i64 (k.t : Int)] 27))) := (bel_step HB0.out hb1).alloc (bel_step HB0.out hb1).size _
  have HX01 : Hid (Blk (w1.alloc (.cells #[.int .i64 (k.c : Int), .int .i64 (k.i : Int), .int .i64 (k.a : Int), .int .i64 (k.t : Int)] 27)) w.heap.size #[.int .i64 x0, .int .i64 y0, .int .i64 z0, .int .i64 u0] 23) := (HX0.out.next hb1).alloc _
  have hX11 := (HX1.out.next hb1).alloc (.cells #[.int .i64 (k.c : Int), .int .i64 (k.i : Int), .int .i64 (k.a : Int), .int .i64 (k.t : Int)] 27)
  have HX11 : Hid (Blk (w1.alloc (.cells #[.int .i64 (k.c : Int), .int .i64 (k.i : Int), .int .i64 (k.a : Int), .int .i64 (k.t : Int)] 27)) (w.heap.size + 1) #[.int .i64 x1, .int .i64 y1, .int .i64 z1, .int .i64 u1] 23) := hX11
  have HK1 : Hid (Blk (w1.alloc (.cells #[.int .i64 (k.c : Int), .int .i64 (k.i : Int), .int .i64 (k.a : Int), .int .i64 (k.t : Int)] 27)) w1.heap.size #[.int .i64 (k.c : Int), .int .i64 (k.i : Int), .int .i64 (k.a : Int), .int .i64 (k.t : Int)] 27) := Blk.new _ _ _
  have c0 := hX11.cell 0
  have c1 := hX11.cell 1
  have c2 := hX11.cell 2
  have c3 := hX11.cell 3
  clear hb1 HB0 HX0 HX1 hX11
  go_wp2_with fail
  refine (HM1.out _).mono ?_
  rintro e w2 ⟨rfl, hb2⟩
  have HB2 : Hid (Below w.heap.size w (w2.alloc (.cells #[.int .i64 (l.c : Int), .int .i64 (l.i : Int), .int .i64 (l.a : Int), .int .i64 (l.t : Int)] 27))) := (bel_step HB1.out hb2).alloc (bel_step HB1.out hb2).size _
  have HX02 : Hid (Blk (w2.alloc (.cells #[.int .i64 (l.c : Int), .int .i64 (l.i : Int), .int .i64 (l.a : Int), .int .i64 (l.t : Int)] 27)) w.heap.size #[.int .i64 x0, .int .i64 y0, .int .i64 z0, .int .i64 u0] 23) := (HX01.out.next hb2).alloc _
  have HX12 : Hid (Blk (w2.alloc (.cells #[.int .i64 (l.c : Int), .int .i64 (l.i : Int), .int .i64 (l.a : Int), .int .i64 (l.t : Int)] 27)) (w.heap.size + 1) #[.int .i64 x1, .int .i64 y1, .int .i64 z1, .int .i64 u1] 23) := (HX11.out.next hb2).alloc _
  have hK2 := (HK1.out.next hb2).alloc (.cells #[.int .i64 (l.c : Int), .int .i64 (l.i : Int), .int .i64 (l.a : Int), .int .i64 (l.t : Int)] 27)
  have HK2 : Hid (Blk (w2.alloc (.cells #[.int .i64 (l.c : Int), .int .i64 (l.i : Int), .int .i64 (l.a : Int), .int .i64 (l.t : Int)] 27)) w1.heap.size #[.int .i64 (k.c : Int), .int .i64 (k.i : Int), .int .i64 (k.a : Int), .int .i64 (k.t : Int)] 27) := hK2
  have HL2 : Hid (Blk (w2.alloc (.cells #[.int .i64 (l.c : Int), .int .i64 (l.i : Int), .int .i64 (l.a : Int), .int .i64 (l.t : Int)] 27)) w2.heap.size #[.int .i64 (l.c : Int), .int .i64 (l.i : Int), .int .i64 (l.a : Int), .int .i64 (l.t : Int)] 27) := Blk.new _ _ _
  have HFAR : Hid (w.heap.size + 1 < w2.heap.size) := by
    have := (HX11.out.next hb2).lt
    exact this
  have HNE : Hid (w1.heap.size ≠ w2.heap.size) := by
    have := (HK1.out.next hb2).lt
    exact Nat.ne_of_lt this
  have c0 := hK2.cell 0
  have c1 := hK2.cell 1
  have c2 := hK2.cell 2
  have c3 := hK2.cell 3
  clear hb2 HB1 HX01 HX11 HK1 hK2
  go_wp2_with fail
  refine (HF0.out _ (HT.out.below HB2.out)).mono ?_
  rintro e w3 ⟨rfl, hb3⟩
  have HB3 : Hid (Below w.heap.size w w3) := bel_step HB2.out hb3
  have HX03 : Hid (Blk w3 w.heap.size #[.int .i64 x0, .int .i64 y0, .int .i64 z0, .int .i64 u0] 23) := HX02.out.next hb3
  have HX13 : Hid (Blk w3 (w.heap.size + 1) #[.int .i64 x1, .int .i64 y1, .int .i64 z1, .int .i64 u1] 23) := HX12.out.next hb3
  have hK3 := HK2.out.next hb3
  have hL3 := HL2.out.next hb3
  have HK3 : Hid (Blk w3 w1.heap.size #[.int .i64 (k.c : Int), .int .i64 (k.i : Int), .int .i64 (k.a : Int), .int .i64 (k.t : Int)] 27) := hK3
  have HL3 : Hid (Blk w3 w2.heap.size #[.int .i64 (l.c : Int), .int .i64 (l.i : Int), .int .i64 (l.a : Int), .int .i64 (l.t : Int)] 27) := hL3
  clear c0 c1 c2 c3
  have c0 := hL3.cell 0
  have c1 := hL3.cell 1
  have c2 := hL3.cell 2
  have c3 := hL3.cell 3
  clear hb3 hK3 hL3 HB2 HX02 HX12 HK2 HL2
  go_wp2_with fail
  refine (HF1.out _ (HT.out.below HB3.out)).mono ?_
  rintro e w4 ⟨rfl, hb4⟩
  have HB4 : Hid (Below w.heap.size w w4) := bel_step HB3.out hb4
  have HX04 : Hid (Blk w4 w.heap.size #[.int .i64 x0, .int .i64 y0, .int .i64 z0, .int .i64 u0] 23) := HX03.out.next hb4
  have HX14 : Hid (Blk w4 (w.heap.size + 1) #[.int .i64 x1, .int .i64 y1, .int .i64 z1, .int .i64 u1] 23) := HX13.out.next hb4
  have hK4 := HK3.out.next hb4
  have hL4 := HL3.out.next hb4
  have HK4 : Hid (Blk w4 w1.heap.size #[.int .i64 (k.c : Int), .int .i64 (k.i : Int), .int .i64 (k.a : Int), .int .i64 (k.t : Int)] 27) := hK4
  have HL4 : Hid (Blk w4 w2.heap.size #[.int .i64 (l.c : Int), .int .i64 (l.i : Int), .int .i64 (l.a : Int), .int .i64 (l.t : Int)] 27) := hL4
  clear c0 c1 c2 c3
  have c0 := hK4.cell 0
  have c1 := hK4.cell 1
  have c2 := hK4.cell 2
  have c3 := hK4.cell 3
  clear hb4 hK4 hL4 HB3 HX03 HX13 HK3 HL3
  go_wp2_with fail
  refine (HY0.out _ (HT.out.below HB4.out)).mono ?_
  rintro e w5 ⟨rfl, hb5⟩
  have HB5 : Hid (Below w.heap.size w w5) := bel_step HB4.out hb5
  have HX05 : Hid (Blk w5 w.heap.size #[.int .i64 x0, .int .i64 y0, .int .i64 z0, .int .i64 u0] 23) := HX04.out.next hb5
  have HX15 : Hid (Blk w5 (w.heap.size + 1) #[.int .i64 x1, .int .i64 y1, .int .i64 z1, .int .i64 u1] 23) := HX14.out.next hb5
  have hK5 := HK4.out.next hb5
  have hL5 := HL4.out.next hb5
  have HK5 : Hid (Blk w5 w1.heap.size #[.int .i64 (k.c : Int), .int .i64 (k.i : Int), .int .i64 (k.a : Int), .int .i64 (k.t : Int)] 27) := hK5
  have HL5 : Hid (Blk w5 w2.heap.size #[.int .i64 (l.c : Int), .int .i64 (l.i : Int), .int .i64 (l.a : Int), .int .i64 (l.t : Int)] 27) := hL5
  clear c0 c1 c2 c3
  have c0 := hL5.cell 0
  have c1 := hL5.cell 1
  have c2 := hL5.cell 2
  have c3 := hL5.cell 3
  clear hb5 hK5 hL5 HB4 HX04 HX14 HK4 HL4
  go_wp2_with fail
  refine (HY1.out _ (HT.out.below HB5.out)).mono ?_
  rintro e w6 ⟨rfl, hb6⟩
  have HB6 : Hid (Below w.heap.size w w6) := bel_step HB5.out hb6
  have HX06 : Hid (Blk w6 w.heap.size #[.int .i64 x0, .int .i64 y0, .int .i64 z0, .int .i64 u0] 23) := HX05.out.next hb6
  have HX16 : Hid (Blk w6 (w.heap.size + 1) #[.int .i64 x1, .int .i64 y1, .int .i64 z1, .int .i64 u1] 23) := HX15.out.next hb6
  have hK6 := HK5.out.next hb6
  have hL6 := HL5.out.next hb6
  have HK6 : Hid (Blk w6 w1.heap.size #[.int .i64 (k.c : Int), .int .i64 (k.i : Int), .int .i64 (k.a : Int), .int .i64 (k.t : Int)] 27) := hK6
  have HL6 : Hid (Blk w6 w2.heap.size #[.int .i64 (l.c : Int), .int .i64 (l.i : Int), .int .i64 (l.a : Int), .int .i64 (l.t : Int)] 27) := hL6
  clear c0 c1 c2 c3
  have c3 := hK6.cell 3
  have d3 := hL6.cell 3
  have f3 := hL6.free 3
  have HS : Hid (Below w.heap.size w (w6.setCell ⟨w2.heap.size, 3, none⟩ (.int .i64 (k.t : Int))) ∧ Blk (w6.setCell ⟨w2.heap.size, 3, none⟩ (.int .i64 (k.t : Int))) w.heap.size #[.int .i64 x0, .int .i64 y0, .int .i64 z0, .int .i64 u0] 23 ∧ Blk (w6.setCell ⟨w2.heap.size, 3, none⟩ (.int .i64 (k.t : Int))) (w.heap.size + 1) #[.int .i64 x1, .int .i64 y1, .int .i64 z1, .int .i64 u1] 23 ∧ Blk (w6.setCell ⟨w2.heap.size, 3, none⟩ (.int .i64 (k.t : Int))) w1.heap.size #[.int .i64 (k.c : Int), .int .i64 (k.i : Int), .int .i64 (k.a : Int), .int .i64 (k.t : Int)] 27 ∧ Blk (w6.setCell ⟨w2.heap.size, 3, none⟩ (.int .i64 (k.t : Int))) w2.heap.size #[.int .i64 (l.c : Int), .int .i64 (l.i : Int), .int .i64 (l.a : Int), .int .i64 (k.t : Int)] 27) := by
    have q1 := HFAR.out
    exact ⟨bel_set HB6.out _ _ _ (by omega), HX06.out.other _ _ (by omega), HX16.out.other _ _ (by omega), hK6.other _ _ (Ne.symm HNE.out), hL6.set 3 _⟩
  clear hb6 hK6 hL6 HB5 HX05 HX15 HK5 HL5 HB6 HX06 HX16 HK6 HL6
  go_wp2_with fail
  generalize w6.setCell ⟨w2.heap.size, 3, none⟩ (.int .i64 (k.t : Int)) = W at *
  obtain ⟨hB, hX0, hX1, hK, hL⟩ := HS.out
  have p0 := cell_regrown (hX0.cell 0)
  have q0 := cell_regrown (hX1.cell 0)
  have r0 := cell_regrown (hK.cell 0)
  have s0 := cell_regrown (hL.cell 0)
  have p1 := cell_regrown (hX0.cell 1)
  have q1 := cell_regrown (hX1.cell 1)
  have r1 := cell_regrown (hK.cell 1)
  have s1 := cell_regrown (hL.cell 1)
  have p2 := cell_regrown (hX0.cell 2)
  have q2 := cell_regrown (hX1.cell 2)
  have r2 := cell_regrown (hK.cell 2)
  have s2 := cell_regrown (hL.cell 2)
  have p3 := cell_regrown (hX0.cell 3)
  have q3 := cell_regrown (hX1.cell 3)
  have r3 := cell_regrown (hK.cell 3)
  have s3 := cell_regrown (hL.cell 3)
  have HBW : Hid (Below w.heap.size w W) := hB
  clear HS hB hX0 hX1 hK hL c3 d3 f3
  refine wp_region_quiet_below (by kernel_rfl) (by kernel_rfl) ?_
  iterate 4 (quiet_step (fail))
  quiet_step (exact Calls.regrown_of (HM0.out _))
  quiet_step (fail)
  quiet_step (exact Calls.regrown_of (HM1.out _))
  iterate 12 (quiet_step (fail))
  refine wpQuiet_nil ?_
  intro _ hw'
  obtain ⟨⟨dq, osq⟩, hw''⟩ := hw'
  subst hw''
  go_wp2_with fail
  go_ret
  exact ⟨rfl, HBW.out.trans ((below_regrown W dq osq).mono HBW.out.size)⟩

theorem contract (H : Type) (enc : TypeId × Value → H) (W : World) (base : Nat) (args : Array Value) (ds gs : List (DataW H)) (before : List MemPlace)
    (hval : ∀ (j : Nat) t v, Tryd.f6.params[j]? = some t → args[j]? = some v → Value.okWide Tryd.prog W .any base t v)
    (hW : DataW.Whole enc Tryd.prog Tryd.f6.params.toList Rows.tokenApartSpec.vars false W args.toList ds gs before) (hL : laidMetH Tryd.prog Rows.tokenApartRow.laid W) :
    Calls Tryd.prog 6 args W fun e W' => ∃ v, e = .returned v ∧ Rows.tokenApartSpec.post enc Tryd.prog Tryd.f6 false true false false W args v W' := by
  have hW' := hW
  obtain ⟨p, q, hA0, hV, rfl, hfz, hnd⟩ := hW
  have hA : DataW.TrodAll enc Tryd.prog W 0 (fun _ => true) true Tryd.f6.params.toList args.toList ds p := hA0
  rw [Tryd.params6] at hA hval
  obtain ⟨v0, vs0, d0, ds0, p0, q0, hargs, rfl, rfl, h0, r0⟩ := trodAll_cons hA
  obtain ⟨v1, vs1, d1, ds1, p1, q1, rfl, rfl, rfl, h1, r1⟩ := trodAll_cons r0
  obtain ⟨rfl, rfl, rfl⟩ := trodAll_nil r1
  obtain rfl : args = #[v0, v1] := by cases args; simp_all
  obtain ⟨rfl, rfl⟩ := trodVars_none hV
  obtain ⟨x0, y0, z0, u0, rfl, rfl, rfl, w0⟩ := token.open_raw (hval 0 23 v0 rfl rfl) h0
  obtain ⟨x1, y1, z1, u1, rfl, rfl, rfl, w1⟩ := token.open_raw (hval 1 23 v1 rfl rfl) h1
  clear hA0
  simp only [List.append_nil] at hW'
  refine (walk x0 y0 z0 u0 x1 y1 z1 u1 W w0 w1 (table hL)).mono fun e W' ⟨he, hg⟩ => ?_
  subst he
  exact ⟨_, rfl, _, _, _, [], [], [], hW', (trodAll_cons_mk (shut_bool Tryd.underlying4 _) trodAll_mk0), (trodAll_cons_mk (token.shut_raw w0) (trodAll_cons_mk (token.shut_raw w1) trodAll_mk0)), rfl, hg.frame _, fun h => by cases h⟩

/-- A world for the witness: the settled one, the table holding what the program's text lays. -/
def put (k : IntKind) (l : List Int) : Obj → Obj
  | .cells _ t fr => .cells (l.map fun z => Value.int k z).toArray t fr
  | o => o
def withTabs (w : World) : World := { w with heap := (w.heap.modify 0 (put .i64 [57, 3, 37, 20, 16, 21, 0, 16])).modify 1 (put .i64 [1, 2097151, 0, 0, 1, 15, 0, 0]) }
theorem laid_met (os : Os) : laidMet Tryd.prog Rows.tokenApartRow.laid ((withTabs (World.holding Tryd.prog os ⟨#[], #[], []⟩)).forCall (fun _ _ => 0) ⟨#[], #[.agg #[.int .i64 0, .int .i64 0, .int .i64 0, .int .i64 0], .agg #[.int .i64 0, .int .i64 0, .int .i64 0, .int .i64 0]], []⟩).memory :=
  laidMet_of_run' 8 (by kernel_rfl) (by kernel_rfl)
theorem reads (os : Os) {H : Type} (enc : TypeId × Value → H) : ∃ places, DataW.whole enc Tryd.prog ((withTabs (World.holding Tryd.prog os ⟨#[], #[], []⟩)).forCall (fun _ _ => 0) ⟨#[], #[.agg #[.int .i64 0, .int .i64 0, .int .i64 0, .int .i64 0], .agg #[.int .i64 0, .int .i64 0, .int .i64 0, .int .i64 0]], []⟩).memory Tryd.f6.params.toList Rows.tokenApartSpec.vars false (#[.agg #[.int .i64 0, .int .i64 0, .int .i64 0, .int .i64 0], .agg #[.int .i64 0, .int .i64 0, .int .i64 0, .int .i64 0]] : Array Value).toList 8 = some ([.agg [.lit (.int .i64 0), .lit (.int .i64 0), .lit (.int .i64 0), .lit (.int .i64 0)], .agg [.lit (.int .i64 0), .lit (.int .i64 0), .lit (.int .i64 0), .lit (.int .i64 0)]], [], places) :=
  ⟨[], by kernel_rfl⟩

set_option maxRecDepth 100000 in
theorem lifted (os : Os) (started : os.Started) (H : Type) (enc : TypeId × Value → H) (F : Stop.Interp) :
    ReturnsInHanded {} Tryd.checked os 6 .any ((OpenSpec.ofChange Rows.tokenApartSpec).preRow enc Tryd.prog Tryd.f6 Rows.tokenApartRow.domain false Rows.tokenApartRow.laid) (((OpenSpec.ofChange Rows.tokenApartSpec).at F).post enc Tryd.prog Tryd.f6 false true false false) := by
  obtain ⟨places, hx⟩ := reads os enc
  refine returnsInHanded_of_row (C := Tryd.checked) (s := OpenSpec.ofChange Rows.tokenApartSpec) own started (by kernel_rfl) Tryd.func6
    (witness_row_at (enc := enc) (C := Tryd.checked) false (withTabs (World.holding Tryd.prog os ⟨#[], #[], []⟩)) #[.agg #[.int .i64 0, .int .i64 0, .int .i64 0, .int .i64 0], .agg #[.int .i64 0, .int .i64 0, .int .i64 0, .int .i64 0]] rfl (by kernel_rfl) (by kernel_rfl) (by kernel_rfl)
      (OpenSpec.preRow_of_cond 8 hx (by kernel_rfl) (fun k hk => by cases hk) (by kernel_rfl) (laid_met os))) ?_
  intro W base args ds gs before hval hW _ _ _ hL _ _
  exact contract H enc W base args ds gs before hval hW hL

theorem said : Rows.TokenApartSaid :=
  OpenClaim.holds_of_cond 6 Tryd.f6 rfl rfl rfl rfl rfl rfl rfl ⟨rfl, rfl, rfl, rfl, rfl⟩ rfl rfl rfl rfl rfl (by kernel_rfl) Tryd.func6 (by kernel_rfl)
    (of_decide_eq_true (by kernel_rfl)) (by unfold Func.isWrapper; first | (rw [if_pos (by decide +kernel)]; kernel_rfl) | (rw [if_neg (by decide +kernel)]; exact ⟨rfl, rfl⟩))
    (fun os started H enc _ F => by rw [OpenClaim.pre_eq_preRow]; exact lifted os started H enc F)

theorem plain (f : FuncId) (fn : Func) (hf : Tryd.pinned.checked.prog.funcNamed Rows.tokenApartRow.func = some f) (hfn : Tryd.pinned.checked.prog.funcs[f]? = some fn) :
    false = Tryd.pinned.checked.prog.looks [] ∧ ∀ (j : Nat) t, fn.params[j]? = some t → Tryd.pinned.checked.prog.wantsStandIn t = false := by
  obtain rfl : f = 6 := Option.some.inj ((show Tryd.prog.funcNamed Rows.tokenApartRow.func = some 6 by kernel_rfl).symm.trans hf) |>.symm
  obtain rfl : fn = Tryd.f6 := (Option.some.inj (Tryd.func6.symm.trans hfn)).symm
  refine ⟨by kernel_rfl, fun j t ht => ?_⟩
  rw [Tryd.params6] at ht
  have hm : t = 23 := by simpa using Array.mem_of_getElem? ht
  rcases hm with rfl
  · exact (show Tryd.prog.wantsStandIn 23 = false by kernel_rfl)

theorem card : Rows.TokenApartCardSaid :=
  Claim7.holds_tied_plain_at .later [] _ _ _ _ said (fun _ h => by cases h) (by kernel_rfl) (fun _ h => by cases h) tokenApart_row_tie rfl ⟨rfl, rfl⟩ (by kernel_rfl) rfl plain (by kernel_rfl)
end Go.Proofs.YtmpjmcfgikmgnabDoor.tokenApart
namespace Go.Proofs.YtmpjmcfgikmgnabDoor
theorem tokenApart_holds : Rows.TokenApartCardSaid := tokenApart.card
#print axioms tokenApart_holds
end Go.Proofs.YtmpjmcfgikmgnabDoor
