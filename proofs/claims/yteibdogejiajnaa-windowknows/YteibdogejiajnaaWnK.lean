/- Windows: numbers that are taken, one behind the other. -/
import Derived.Test.YteibdogejiajnaaWnT
import Derived.Test.YteibdogejiajnaaWnU
import Derived.Test.YteibdogejiajnaaCkPick
namespace Go.Proofs.Yteibdogejiajnaa.win
open Go.RowKit Go.Proofs.Yteibdogejiajnaa.irow Go.Proofs.Yteibdogejiajnaa.check
set_option maxRecDepth 100000
set_option linter.unusedVariables false

/-- What the program's windows do. -/
structure WKit : Prop where
  take : ∀ W h b id, b < 18446744073709551616 → Calls Try.prog 11 #[.agg #[.int .i64 h, .int .u64 ((b : Nat) : Int)], .int .i64 id] W fun e w' => TakePost W h b id e w'
  judge : ∀ W h b id, b < 18446744073709551616 → Calls Try.prog 9 #[.agg #[.int .i64 h, .int .u64 ((b : Nat) : Int)], .int .i64 id] W fun e w' => JudgePost W h b id e w'
  used : ∀ W h b, b < 18446744073709551616 → Calls Try.prog 13 #[.agg #[.int .i64 h, .int .u64 ((b : Nat) : Int)]] W fun e w' => UsedPost W h b e w'
theorem Rep.small {h : Int} {b : Nat} {P : Int → Prop} (hr : Rep h b P) : b < 18446744073709551616 := hr.lt
/-- Taking, where it is known which numbers were taken. -/
def Took (w : World) (h : Int) (b : Nat) (P : Int → Prop) (id : Int) (e : Ending) (w' : World) : Prop :=
  Below w.heap.size w w' ∧ ((∃ h' b', e = .returned (.tuple #[.agg #[.int .i64 h', .int .u64 ((b' : Nat) : Int)], .int .i64 0]) ∧ h' = max h id ∧ ¬ id ≤ h - 64 ∧ ¬ P id ∧ Rep h' b' (fun x => P x ∨ x = id)) ∨
    (e = .returned (.tuple #[.agg #[.int .i64 0, .int .u64 0], .int .i64 13]) ∧ id ≤ h - 64) ∨ (e = .returned (.tuple #[.agg #[.int .i64 0, .int .u64 0], .int .i64 14]) ∧ ¬ id ≤ h - 64 ∧ P id))
theorem WKit.took (K : WKit) {h : Int} {b : Nat} {P : Int → Prop} (hr : Rep h b P) (W : World) (id : Int) (h1 : 1 ≤ id) (h2 : id ≤ 1048575) :
    Calls Try.prog 11 #[.agg #[.int .i64 h, .int .u64 ((b : Nat) : Int)], .int .i64 id] W fun e w' => Took W h b P id e w' :=
  (K.take W h b id hr.small).mono fun e w' ⟨h', b', c, he, hj, hne, heq, hb⟩ => by
    refine ⟨hb, ?_⟩
    have hx := hr.judge hj h1 h2
    by_cases h3 : id ≤ h - 64
    · have hc := hx.1 h3
      subst hc
      obtain ⟨rfl, rfl⟩ := hne (by decide)
      exact .inr (.inl ⟨he, h3⟩)
    · by_cases h4 : P id
      · have hc := hx.2.1 h3 h4
        subst hc
        obtain ⟨rfl, rfl⟩ := hne (by decide)
        exact .inr (.inr ⟨he, h3, h4⟩)
      · have hc := hx.2.2 h3 h4
        subst hc
        obtain ⟨rfl, rfl⟩ := heq rfl
        exact .inl ⟨_, _, he, rfl, h3, h4, hr.take id h1 h2 h4⟩
theorem WKit.again (K : WKit) {h : Int} {b : Nat} {P : Int → Prop} (hr : Rep h b P) (W : World) (id : Int) (h1 : 1 ≤ id) (h2 : id ≤ 1048575) (h3 : ¬ id ≤ h - 64) (h4 : P id) :
    Calls Try.prog 9 #[.agg #[.int .i64 h, .int .u64 ((b : Nat) : Int)], .int .i64 id] W fun e w' => e = .returned (.int .i64 14) ∧ Below W.heap.size W w' :=
  (K.judge W h b id hr.small).mono fun e w' ⟨c, he, hj, hb⟩ => by
    have := (hr.judge hj h1 h2).2.1 h3 h4
    subst this
    exact ⟨he, hb⟩

/-- A window's block. -/
def Win (wr : World) (G : Nat) (h : Int) (b : Nat) : Prop := Blk wr G #[.int .i64 h, .int .u64 (b : Int)] 24
def setWn (w : World) (G : Nat) (h : Int) (b : Nat) : World := (w.setCell ⟨G, 0, none⟩ (.int .i64 h)).setCell ⟨G, 1, none⟩ (.int .u64 (b : Int))
theorem Win.set {wr : World} {G : Nat} {h : Int} {b : Nat} (hw : Win wr G h b) (h' : Int) (b' : Nat) : Win (setWn wr G h' b') G h' b' := (Blk.set hw 0 (.int .i64 h')).set 1 (.int .u64 (b' : Int))
theorem bel_win {B : Nat} {w wr : World} (hb : Below B w wr) (G : Nat) (hG : B ≤ G) (h : Int) (b : Nat) : Below B w (setWn wr G h b) := bel_set (bel_set hb _ _ _ hG) _ _ _ hG

set_option maxHeartbeats 4000000 in
theorem rises_walk (K : WKit) (a0 : Option Addr) (len0 cap0 : Nat) (z0 : List Int) (w : World) (hr : RowF w a0 len0 z0) :
    Calls Try.prog 7 #[.slice a0 len0 cap0] w fun e w' => e = .returned (.bool true) ∧ Below w.heap.size w w' := by
  have HK : Hid WKit := K
  have HR : Hid (RowF w a0 len0 z0) := hr
  have HW0 : Hid (Win (w.alloc (.cells #[.int .i64 0, .int .u64 0] 24)) w.heap.size 0 0) := Blk.new w _ _
  have HB0 : Hid (Below w.heap.size w (w.alloc (.cells #[.int .i64 0, .int .u64 0] 24))) := (Below.refl _ _).alloc (Nat.le_refl _) _
  clear K hr
  go_enter Try.func7, Try.ntmps7
  go_wp2_with fail
  generalize w.alloc (.cells #[.int .i64 0, .int .u64 0] 24) = W0 at *
  go_loopw [4, 5] (fun v j wr => ∃ (k : Nat) (h : Int) (b : Nat) (P : Int → Prop), v = .int .i64 h ∧ j = .int .i64 (k : Int) ∧ k ≤ 300 ∧ k ≤ len0 ∧ 0 ≤ h ∧ h ≤ 3000 * (k : Int) ∧ Win wr w.heap.size h b ∧ Rep h b P ∧ Below w.heap.size w wr) (fun _ j _ => 300 - (intOf j).toNat)
  case atStart => exact ⟨0, 0, 0, _, rfl, rfl, Nat.zero_le _, Nat.zero_le _, by decide, by decide, HW0.out, Rep.zero, HB0.out⟩
  case round =>
    obtain ⟨k, h, b, P, rfl, rfl, hk, hkl, h0, h3, hwin, hrep, hb⟩ := hrel
    have HI : Hid (Win wr w.heap.size h b ∧ Rep h b P ∧ Below w.heap.size w wr) := ⟨hwin, hrep, hb⟩
    clear hwin hrep hb HW0 HB0
    by_cases hgo : k < len0 ∧ k < 300
    · obtain ⟨g1, g2⟩ := hgo
      obtain ⟨bi, oi, rfl, hcell, hwf⟩ := (HR.out.below HI.out.2.2) k g1
      have HPK : Hid (∀ W, Calls Try.prog 16 #[.int .i64 (z0.getD k 0), .int .i64 3000] W fun e w' => e = .returned (.int .i64 (((pick (z0.getD k 0) 3000).toNat : Nat) : Int)) ∧ w' = W) := fun W => picked_nat _ 3000 W hwf (by decide) (by decide)
      have hp : (pick (z0.getD k 0) 3000).toNat < 3000 := pick_toNat _ 3000 (by decide)
      clear hwf
      generalize (pick (z0.getD k 0) 3000).toNat = r at *
      generalize z0.getD k 0 = zk at *
      have c0 := HI.out.1.cell 0
      have c1 := HI.out.1.cell 1
      have HTK : Hid (∀ W, Calls Try.prog 11 #[.agg #[.int .i64 h, .int .u64 (b : Int)], .int .i64 (h + (1 + (r : Int)))] W fun e w' => Took W h b P (h + (1 + (r : Int))) e w') := fun W => HK.out.took HI.out.2.1 W _ (by omega) (by omega)
      go_wp2_with fail
      refine (HPK.out _).mono ?_
      rintro e w1 ⟨rfl, rfl⟩
      go_wp2_with fail
      refine (HTK.out _).mono ?_
      rintro e w2 ⟨hb2, hor⟩
      have hor' : ∃ h' b', e = .returned (.tuple #[.agg #[.int .i64 h', .int .u64 ((b' : Nat) : Int)], .int .i64 0]) ∧ h' = h + (1 + (r : Int)) ∧ Rep h' b' (fun x => P x ∨ x = h + (1 + (r : Int))) := by
        rcases hor with ⟨h', b', he, hh, _, _, hrp⟩ | ⟨_, hx⟩ | ⟨_, _, hx⟩
        · exact ⟨h', b', he, by rw [hh]; omega, hrp⟩
        · exfalso; omega
        · exfalso; have := (HI.out.2.1.range _ hx).2; omega
      obtain ⟨h', b', rfl, hh, hrp⟩ := hor'
      have H2 : Hid (Win w2 w.heap.size h b ∧ Below w.heap.size w w2) := ⟨Blk.next HI.out.1 hb2, bel_step HI.out.2.2 hb2⟩
      have HRP : Hid (Rep h' b' (fun x => P x ∨ x = h + (1 + (r : Int)))) := hrp
      have HHH : Hid (h' = h + (1 + (r : Int))) := hh
      clear hor hrp hb2 c0 c1 HI hcell HPK HTK
      rw [← hh]
      have hh1 : 0 ≤ h' := by omega
      have hh2 : h' ≤ 3000 * ((k : Int) + 1) := by omega
      have hh3 : 1 ≤ h' := by omega
      have hh4 : h' ≤ 1048575 := by omega
      clear hh
      have HJ : Hid (∀ W, Calls Try.prog 9 #[.agg #[.int .i64 h', .int .u64 (b' : Int)], .int .i64 h'] W fun e w' => e = .returned (.int .i64 14) ∧ Below W.heap.size W w') := fun W => HK.out.again HRP.out W h' hh3 hh4 (by omega) (.inr HHH.out)
      have hN := Blk.new w2 #[.int .i64 h', .int .u64 (b' : Int)] 24
      have n0 := hN.cell 0
      have n1 := hN.cell 1
      have H3 : Hid (Win (w2.alloc (.cells #[.int .i64 h', .int .u64 (b' : Int)] 24)) w.heap.size h b ∧ Below w.heap.size w (w2.alloc (.cells #[.int .i64 h', .int .u64 (b' : Int)] 24))) := ⟨Blk.alloc H2.out.1 _, H2.out.2.alloc H2.out.2.size _⟩
      have HN : Hid (Blk (w2.alloc (.cells #[.int .i64 h', .int .u64 (b' : Int)] 24)) w2.heap.size #[.int .i64 h', .int .u64 (b' : Int)] 24) := hN
      clear hN H2
      go_wp2_with fail
      refine (HJ.out _).mono ?_
      rintro e w4 ⟨rfl, hb4⟩
      have hG := Blk.next H3.out.1 hb4
      have hM := Blk.next HN.out hb4
      have m0 := hM.cell 0
      have m1 := hM.cell 1
      have x0 := hG.cell 0
      have x1 := hG.cell 1
      have y0 := hG.free 0
      have y1 := hG.free 1
      have HE : Hid (Win (setWn w4 w.heap.size h' b') w.heap.size h' b' ∧ Below w.heap.size w (setWn w4 w.heap.size h' b')) := ⟨Win.set hG h' b', bel_win (bel_step H3.out.2 hb4) _ (Nat.le_refl _) _ _⟩
      have hne : (h' != h') = false := by simp
      clear hG hM hb4 H3 HN n0 n1 HJ HHH
      generalize w2.heap.size = gn at *
      unfold setWn at HE
      go_wp2_with fail
      go_roundw
      case rel => exact ⟨k + 1, h', b', _, rfl, by go_num, by omega, by omega, hh1, hh2, HE.out.1, HRP.out, HE.out.2⟩
      case measure => simp [intOf]; omega
    · by_cases g1 : k < len0
      · have g2 : ¬ (k : Int) < 300 := by omega
        have g3 : decide ((k : Int) < 300) = false := by simp; omega
        clear hgo
        go_wp2_with fail
        go_ret
        exact ⟨rfl, HI.out.2.2⟩
      · clear hgo
        go_wp2_with fail
        go_ret
        exact ⟨rfl, HI.out.2.2⟩

end Go.Proofs.Yteibdogejiajnaa.win
