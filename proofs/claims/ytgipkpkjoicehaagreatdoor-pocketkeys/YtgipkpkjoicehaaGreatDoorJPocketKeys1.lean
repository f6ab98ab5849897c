import Derived.Test.YtgipkpkjoicehaaGreatDoorOrD
import Derived.Test.YtgipkpkjoicehaaGreatDoorMtR
import Derived.Test.YtgipkpkjoicehaaGreatDoorProg
import Derived.WalkKit
import Derived.Below
import Derived.Test.YtgipkpkjoicehaaGreatDoorTkFlN
import Derived.Test.YtgipkpkjoicehaaGreatDoorBlk
import Derived.Deep.RegionWith
import Derived.Test.YtgipkpkjoicehaaGreatDoorWnS0
import Derived.Test.YtgipkpkjoicehaaGreatDoorWnJd
import Derived.Test.YtgipkpkjoicehaaGreatDoorLet
import Derived.Test.YtgipkpkjoicehaaGreatDoorWide
import Derived.Test.YtgipkpkjoicehaaGreatDoorRows
import Derived.ProofKit
import Derived.OpenShut
import Derived.Laws.IdiomArrays
import Derived.WalkSmall
import Derived.Deep.QuietTactic
import Derived.BigRegion
import Derived.BigQuiet
import Derived.Laws.ResultCell
import Derived.OwnWalk
import Derived.Deep.RegionHeld
import Derived.Laws.Bits64

/- Oracles: what the document says of them. -/
namespace Go.Proofs.YtgipkpkjoicehaaGreatDoor.ora
open Go.RowKit
set_option maxRecDepth 100000
set_option linter.unusedVariables false

theorem in_yes (n lo hi : Int) (w : World) (h1 : lo ≤ n) (h2 : n ≤ hi) :
    Calls Tryz.prog 77 #[.int .i64 n, .int .i64 lo, .int .i64 hi] w fun e w' => e = .returned (.bool true) ∧ w' = w := by
  go_enter Tryz.func77, Tryz.ntmps77
  go_wp2
  go_ret
  exact ⟨rfl, rfl⟩
theorem in_no (n lo hi : Int) (w : World) (h : n < lo ∨ hi < n) :
    Calls Tryz.prog 77 #[.int .i64 n, .int .i64 lo, .int .i64 hi] w fun e w' => e = .returned (.bool false) ∧ w' = w := by
  by_cases h0 : n < lo
  · clear h
    go_enter Tryz.func77, Tryz.ntmps77
    go_wp2
    go_ret
    exact ⟨rfl, rfl⟩
  · have h1 : lo ≤ n := by omega
    have h2 : decide (n ≤ hi) = false := by simp; omega
    clear h h0
    go_enter Tryz.func77, Tryz.ntmps77
    go_wp2
    go_ret
    exact ⟨rfl, rfl⟩
set_option maxHeartbeats 1000000 in
theorem pairMay_any (m r b t : Int) (w : World) :
    Calls Tryz.prog 43 #[.agg #[.int .i64 m, .int .i64 r, .int .i64 b, .int .i64 t]] w fun e w' => Told w (Pr.mk m r b t).may e w' := by
  have hN := Blk.new w #[.int .i64 m, .int .i64 r, .int .i64 b, .int .i64 t] 55
  have c0 := hN.cell 0
  have c1 := hN.cell 1
  have c2 := hN.cell 2
  have c3 := hN.cell 3
  have HB : Hid (Below w.heap.size w (w.alloc (.cells #[.int .i64 m, .int .i64 r, .int .i64 b, .int .i64 t] 55))) := (Below.refl _ _).alloc (Nat.le_refl _) _
  clear hN
  by_cases h1 : 0 ≤ m ∧ m ≤ 49
  · have H1 : Hid (∀ W, Calls Tryz.prog 77 #[.int .i64 m, .int .i64 0, .int .i64 49] W fun e w' => e = .returned (.bool true) ∧ w' = W) := fun W => in_yes _ _ _ W h1.1 h1.2
    by_cases h2 : 0 ≤ r ∧ r ≤ 15
    · have H2 : Hid (∀ W, Calls Tryz.prog 77 #[.int .i64 r, .int .i64 0, .int .i64 15] W fun e w' => e = .returned (.bool true) ∧ w' = W) := fun W => in_yes _ _ _ W h2.1 h2.2
      by_cases h3 : 0 ≤ b ∧ b ≤ 8796093022207
      · have H3 : Hid (∀ W, Calls Tryz.prog 77 #[.int .i64 b, .int .i64 0, .int .i64 8796093022207] W fun e w' => e = .returned (.bool true) ∧ w' = W) := fun W => in_yes _ _ _ W h3.1 h3.2
        by_cases h4 : 0 ≤ t ∧ t ≤ 65535
        · have H4 : Hid (∀ W, Calls Tryz.prog 77 #[.int .i64 t, .int .i64 0, .int .i64 65535] W fun e w' => e = .returned (.bool true) ∧ w' = W) := fun W => in_yes _ _ _ W h4.1 h4.2
          have HM : Hid ((Pr.mk m r b t).may) := ⟨h1, h2, h3, h4⟩
          clear h1 h2 h3 h4
          go_enter Tryz.func43, Tryz.ntmps43
          go_wp2_with fail
          refine (H1.out _).mono ?_
          rintro e w1 ⟨rfl, rfl⟩
          go_wp2_with fail
          refine (H2.out _).mono ?_
          rintro e w2 ⟨rfl, rfl⟩
          go_wp2_with fail
          refine (H3.out _).mono ?_
          rintro e w3 ⟨rfl, rfl⟩
          go_wp2_with fail
          refine (H4.out _).mono ?_
          rintro e w4 ⟨rfl, rfl⟩
          go_wp2_with fail
          go_ret
          exact Told.yes HM.out HB.out
        · have H4 : Hid (∀ W, Calls Tryz.prog 77 #[.int .i64 t, .int .i64 0, .int .i64 65535] W fun e w' => e = .returned (.bool false) ∧ w' = W) := fun W => in_no _ _ _ W (by omega)
          have HM : Hid (¬ (Pr.mk m r b t).may) := fun h => h4 h.2.2.2
          clear h1 h2 h3 h4
          go_enter Tryz.func43, Tryz.ntmps43
          go_wp2_with fail
          refine (H1.out _).mono ?_
          rintro e w1 ⟨rfl, rfl⟩
          go_wp2_with fail
          refine (H2.out _).mono ?_
          rintro e w2 ⟨rfl, rfl⟩
          go_wp2_with fail
          refine (H3.out _).mono ?_
          rintro e w3 ⟨rfl, rfl⟩
          go_wp2_with fail
          refine (H4.out _).mono ?_
          rintro e w4 ⟨rfl, rfl⟩
          go_wp2_with fail
          go_ret
          exact Told.no HM.out HB.out
      · have H3 : Hid (∀ W, Calls Tryz.prog 77 #[.int .i64 b, .int .i64 0, .int .i64 8796093022207] W fun e w' => e = .returned (.bool false) ∧ w' = W) := fun W => in_no _ _ _ W (by omega)
        have HM : Hid (¬ (Pr.mk m r b t).may) := fun h => h3 h.2.2.1
        clear h1 h2 h3
        go_enter Tryz.func43, Tryz.ntmps43
        go_wp2_with fail
        refine (H1.out _).mono ?_
        rintro e w1 ⟨rfl, rfl⟩
        go_wp2_with fail
        refine (H2.out _).mono ?_
        rintro e w2 ⟨rfl, rfl⟩
        go_wp2_with fail
        refine (H3.out _).mono ?_
        rintro e w3 ⟨rfl, rfl⟩
        go_wp2_with fail
        go_ret
        exact Told.no HM.out HB.out
    · have H2 : Hid (∀ W, Calls Tryz.prog 77 #[.int .i64 r, .int .i64 0, .int .i64 15] W fun e w' => e = .returned (.bool false) ∧ w' = W) := fun W => in_no _ _ _ W (by omega)
      have HM : Hid (¬ (Pr.mk m r b t).may) := fun h => h2 h.2.1
      clear h1 h2
      go_enter Tryz.func43, Tryz.ntmps43
      go_wp2_with fail
      refine (H1.out _).mono ?_
      rintro e w1 ⟨rfl, rfl⟩
      go_wp2_with fail
      refine (H2.out _).mono ?_
      rintro e w2 ⟨rfl, rfl⟩
      go_wp2_with fail
      go_ret
      exact Told.no HM.out HB.out
  · have H1 : Hid (∀ W, Calls Tryz.prog 77 #[.int .i64 m, .int .i64 0, .int .i64 49] W fun e w' => e = .returned (.bool false) ∧ w' = W) := fun W => in_no _ _ _ W (by omega)
    have HM : Hid (¬ (Pr.mk m r b t).may) := fun h => h1 h.1
    clear h1
    go_enter Tryz.func43, Tryz.ntmps43
    go_wp2_with fail
    refine (H1.out _).mono ?_
    rintro e w1 ⟨rfl, rfl⟩
    go_wp2_with fail
    go_ret
    exact Told.no HM.out HB.out
set_option maxHeartbeats 2000000 in
theorem tagged_any (a : Option Addr) (n cap : Nat) (l : List Pr) (m r b : Int) (w : World) (hr : RowP w a n l) (hn : n ≤ 9223372036854775807) :
    Calls Tryz.prog 44 #[.agg #[.slice a n cap], .int .i64 m, .int .i64 r, .int .i64 b] w fun e w' => TagPost w l m r b e w' := by
  have HB0 : Hid (Bo w (w.alloc (.cells #[.slice a n cap] 25)) a n cap l) := Bo.new hr
  have HL : Hid (l.length = n) := hr.1
  clear hr
  go_enter Tryz.func44, Tryz.ntmps44
  go_wp2_with fail
  generalize w.alloc (.cells #[.slice a n cap] 25) = W0 at *
  go_loopw [9] (fun j wr => ∃ k : Nat, k ≤ n ∧ j = .int .i64 (k : Int) ∧ Hid (∀ i, i < k → ¬ (l.getD i pr0).key m r b) ∧ Bo w wr a n cap l) (fun j _ => n - (intOf j).toNat)
  case atStart => exact ⟨0, Nat.zero_le _, rfl, fun i hi => absurd hi (Nat.not_lt_zero _), HB0.out⟩
  case round =>
    obtain ⟨k, hk, rfl, HA, hbo⟩ := hrel
    have HI : Hid (Bo w wr a n cap l) := hbo
    clear hbo HB0
    have c0 := HI.out.box.cell 0
    by_cases hlt : k < n
    · obtain ⟨bl, off, rfl, _, hc⟩ := HI.out.row.at (by omega)
      obtain ⟨f0, f1, f2, f3⟩ := hc k hlt
      have HKEY : Hid ((l.getD k pr0).key m r b ↔ (l.getD k pr0).m = m ∧ (l.getD k pr0).r = r ∧ (l.getD k pr0).b = b) := Iff.rfl
      have HNX : Hid (¬ (l.getD k pr0).key m r b → ∀ i, i < k + 1 → ¬ (l.getD i pr0).key m r b) := fun hx i hi => by
        by_cases e : i = k
        · subst e; exact hx
        · exact HA.out i (by omega)
      have HYS : Hid ((l.getD k pr0).key m r b → At l m r b k) := fun hx => ⟨by rw [HL.out]; exact hlt, hx, HA.out⟩
      clear hc HA
      generalize (l.getD k pr0).key m r b = KEY at *
      generalize (l.getD k pr0).m = pm at *
      generalize (l.getD k pr0).r = prr at *
      generalize (l.getD k pr0).b = pb at *
      generalize (l.getD k pr0).t = pt at *
      have hN := Blk.new wr #[.int .i64 pm, .int .i64 prr, .int .i64 pb, .int .i64 pt] 55
      have n0 := hN.cell 0
      have n1 := hN.cell 1
      have n2 := hN.cell 2
      have HI2 : Hid (Bo w (wr.alloc (.cells #[.int .i64 pm, .int .i64 prr, .int .i64 pb, .int .i64 pt] 55)) (some ⟨bl, off, none⟩) n cap l) := HI.out.alloc _
      clear hN HI
      by_cases e1 : pm = m
      · have q1 : (pm == m) = true := by simp [e1]
        by_cases e2 : prr = r
        · have q2 : (prr == r) = true := by simp [e2]
          by_cases e3 : pb = b
          · have q3 : (pb == b) = true := by simp [e3]
            have HF : Hid (At l m r b k) := HYS.out (HKEY.out.2 ⟨e1, e2, e3⟩)
            clear e1 e2 e3
            go_wp2_with fail
            go_ret
            exact ⟨HI2.out.bel, .inl ⟨k, HF.out, rfl⟩⟩
          · have q3 : (pb == b) = false := by simp [e3]
            have HF : Hid (∀ i, i < k + 1 → ¬ (l.getD i pr0).key m r b) := HNX.out fun h => e3 (HKEY.out.1 h).2.2
            clear e1 e2 e3
            go_wp2_with fail
            go_roundw
            case rel => exact ⟨k + 1, by omega, by go_num, HF, HI2.out⟩
            case measure => simp [intOf]; omega
        · have q2 : (prr == r) = false := by simp [e2]
          have HF : Hid (∀ i, i < k + 1 → ¬ (l.getD i pr0).key m r b) := HNX.out fun h => e2 (HKEY.out.1 h).2.1
          clear e1 e2
          go_wp2_with fail
          go_roundw
          case rel => exact ⟨k + 1, by omega, by go_num, HF, HI2.out⟩
          case measure => simp [intOf]; omega
      · have q1 : (pm == m) = false := by simp [e1]
        have HF : Hid (∀ i, i < k + 1 → ¬ (l.getD i pr0).key m r b) := HNX.out fun h => e1 (HKEY.out.1 h).1
        clear e1
        go_wp2_with fail
        go_roundw
        case rel => exact ⟨k + 1, by omega, by go_num, HF, HI2.out⟩
        case measure => simp [intOf]; omega
    · obtain rfl : n = k := by omega
      have HF : Hid (No l m r b) := fun j hj => HA.out j (by rw [HL.out] at hj; exact hj)
      go_wp2_with fail
      go_ret
      exact ⟨HI.out.bel, .inr ⟨HF.out, rfl⟩⟩

end Go.Proofs.YtgipkpkjoicehaaGreatDoor.ora

/- Oracles: the document's own issuing and verifying. -/
namespace Go.Proofs.YtgipkpkjoicehaaGreatDoor.ora
open Go.RowKit
set_option maxRecDepth 100000
set_option linter.unusedVariables false

set_option maxHeartbeats 2000000 in
theorem omay_any (a : Option Addr) (n cap : Nat) (l : List Pr) (w : World) (hr : RowP w a n l) :
    Calls Tryz.prog 17 #[.agg #[.slice a n cap]] w fun e w' => Told w (May l) e w' := by
  have HB0 : Hid (Bo w (w.alloc (.cells #[.slice a n cap] 25)) a n cap l) := Bo.new hr
  have HL : Hid (l.length = n) := hr.1
  clear hr
  have c0 := HB0.out.box.cell 0
  by_cases hn : n ≤ 500
  · have hgt : ¬ (500 : Int) < (n : Int) := by omega
    have hgt' : decide ((500 : Int) < (n : Int)) = false := by simp; omega
    have HPM : Hid (∀ W m r b t, Calls Tryz.prog 43 #[.agg #[.int .i64 m, .int .i64 r, .int .i64 b, .int .i64 t]] W fun e w' => Told W (Pr.mk m r b t).may e w') := fun W m r b t => pairMay_any m r b t W
    have HTG : Hid (∀ W a m r b, RowP W a n l → Calls Tryz.prog 44 #[.agg #[.slice a n cap], .int .i64 m, .int .i64 r, .int .i64 b] W fun e w' => TagPost W l m r b e w') := fun W a m r b h => tagged_any a n cap l m r b W h (by omega)
    go_enter Tryz.func17, Tryz.ntmps17
    go_wp2_with fail
    clear c0
    generalize w.alloc (.cells #[.slice a n cap] 25) = W0 at *
    go_loopw [3] (fun j wr => ∃ k : Nat, k ≤ n ∧ j = .int .i64 (k : Int) ∧ Hid (∀ i, i < k → (l.getD i pr0).may ∧ At l (l.getD i pr0).m (l.getD i pr0).r (l.getD i pr0).b i) ∧ Bo w wr a n cap l) (fun j _ => n - (intOf j).toNat)
    case atStart => exact ⟨0, Nat.zero_le _, rfl, fun i hi => absurd hi (Nat.not_lt_zero _), HB0.out⟩
    case round =>
      obtain ⟨k, hk, rfl, HA, hbo⟩ := hrel
      have HI : Hid (Bo w wr a n cap l) := hbo
      clear hbo HB0
      have c0 := HI.out.box.cell 0
      by_cases hlt : k < n
      · obtain ⟨bl, off, rfl, _, hc⟩ := HI.out.row.at (by omega)
        obtain ⟨f0, f1, f2, f3⟩ := hc k hlt
        have HNX : Hid ((Pr.mk (l.getD k pr0).m (l.getD k pr0).r (l.getD k pr0).b (l.getD k pr0).t).may → At l (l.getD k pr0).m (l.getD k pr0).r (l.getD k pr0).b k → ∀ i, i < k + 1 → (l.getD i pr0).may ∧ At l (l.getD i pr0).m (l.getD i pr0).r (l.getD i pr0).b i) := fun h1 h2 i hi => by
          by_cases e : i = k
          · subst e; exact ⟨h1, h2⟩
          · exact HA.out i (by omega)
        have HN1 : Hid (May l → (Pr.mk (l.getD k pr0).m (l.getD k pr0).r (l.getD k pr0).b (l.getD k pr0).t).may ∧ At l (l.getD k pr0).m (l.getD k pr0).r (l.getD k pr0).b k) := fun hm => hm.each k (by rw [HL.out]; exact hlt)
        clear hc HA
        generalize (l.getD k pr0).m = pm at *
        generalize (l.getD k pr0).r = prr at *
        generalize (l.getD k pr0).b = pb at *
        generalize (l.getD k pr0).t = pt at *
        have hN := Blk.new wr #[.int .i64 pm, .int .i64 prr, .int .i64 pb, .int .i64 pt] 55
        have n0 := hN.cell 0
        have n1 := hN.cell 1
        have n2 := hN.cell 2
        have n3 := hN.cell 3
        have HNB : Hid (Blk (wr.alloc (.cells #[.int .i64 pm, .int .i64 prr, .int .i64 pb, .int .i64 pt] 55)) wr.heap.size #[.int .i64 pm, .int .i64 prr, .int .i64 pb, .int .i64 pt] 55) := hN
        have HI2 : Hid (Bo w (wr.alloc (.cells #[.int .i64 pm, .int .i64 prr, .int .i64 pb, .int .i64 pt] 55)) (some ⟨bl, off, none⟩) n cap l) := HI.out.alloc _
        clear hN HI
        go_wp2_with fail
        refine (HPM.out _ _ _ _ _).mono ?_
        rintro e w2 ⟨rr, rfl, hrr, hb2⟩
        have HI3 : Hid (Bo w w2 (some ⟨bl, off, none⟩) n cap l) := HI2.out.next hb2
        have hM := HNB.out.next hb2
        have m0 := hM.cell 0
        have m1 := hM.cell 1
        have m2 := hM.cell 2
        have d0 := HI3.out.box.cell 0
        clear hM HNB hb2 n0 n1 n2 n3 HI2 c0
        generalize wr.heap.size = gn at *
        cases rr with
        | false =>
          have HF : Hid (¬ May l) := fun hm => by have := hrr.2 (HN1.out hm).1; cases this
          clear hrr
          go_wp2_with fail
          go_ret
          exact Told.no HF.out HI3.out.bel
        | true =>
          have HPY : Hid ((Pr.mk pm prr pb pt).may) := hrr.1 rfl
          clear hrr
          go_wp2_with fail
          refine (HTG.out _ _ _ _ _ HI3.out.row).mono ?_
          rintro e w3 ⟨hb3, hor⟩
          have HI4 : Hid (Bo w w3 (some ⟨bl, off, none⟩) n cap l) := HI3.out.next hb3
          clear hb3
          rcases hor with ⟨i, hi, rfl⟩ | ⟨hno, rfl⟩
          · by_cases hik : i = k
            · subst hik
              have hq : ((i : Int) != (i : Int)) = false := by simp
              have HF : Hid (∀ j, j < i + 1 → (l.getD j pr0).may ∧ At l (l.getD j pr0).m (l.getD j pr0).r (l.getD j pr0).b j) := HNX.out HPY.out hi
              clear hi
              go_wp2_with fail
              go_roundw
              case rel => exact ⟨i + 1, by omega, by go_num, HF, HI4.out⟩
              case measure => simp [intOf]; omega
            · have hq : ((i : Int) != (k : Int)) = true := by simp; omega
              have HF : Hid (¬ May l) := fun hm => hik (hi.one (HN1.out hm).2)
              clear hi hik
              go_wp2_with fail
              go_ret
              exact Told.no HF.out HI4.out.bel
          · have hq : ((-1 : Int) != (k : Int)) = true := by simp only [bne_iff_ne, ne_eq]; omega
            have HF : Hid (¬ May l) := fun hm => (HN1.out hm).2.not hno
            clear hno
            go_wp2_with fail
            go_ret
            exact Told.no HF.out HI4.out.bel
      · obtain rfl : n = k := by omega
        have HF : Hid (May l) := ⟨by rw [HL.out]; exact hn, fun i hi => HA.out i (by rw [HL.out] at hi; exact hi)⟩
        go_wp2_with fail
        go_ret
        exact Told.yes HF.out HI.out.bel
  · have HF : Hid (¬ May l) := fun hm => by have := hm.few; rw [HL.out] at this; omega
    have hgt : decide ((500 : Int) < (n : Int)) = true := by simp; omega
    clear hn
    go_enter Tryz.func17, Tryz.ntmps17
    go_wp2_with fail
    go_ret
    exact Told.no HF.out HB0.out.bel

end Go.Proofs.YtgipkpkjoicehaaGreatDoor.ora

/- Meters: under which key a token was sold. -/
namespace Go.Proofs.YtgipkpkjoicehaaGreatDoor.met
open Go.RowKit Go.Proofs.YtgipkpkjoicehaaGreatDoor.ora
set_option maxRecDepth 100000
set_option linter.unusedVariables false

/-- Under which key. -/
def SellPost (w : World) (l : List Pr) (me rev bo t : Int) (e : Ending) (w' : World) : Prop :=
  Below w.heap.size w w' ∧ ∃ r : Int, e = .returned (.int .i64 r) ∧ ((r = 0 ∧ Here l me rev bo t) ∨ (r = 1 ∧ ¬ Here l me rev bo t ∧ Early l me rev bo t) ∨ (r = 2 ∧ ¬ Here l me rev bo t ∧ ¬ Early l me rev bo t))
/-- What was seen of the first k pairs. -/
structure Seen (l : List Pr) (me rev bo t : Int) (k : Nat) (out : Int) : Prop where
  no : ∀ i, i < k → ¬ ((l.getD i pr0).m = me ∧ (l.getD i pr0).b = bo ∧ (l.getD i pr0).t = t ∧ (l.getD i pr0).r = rev)
  out : (out = 1 ∧ ∃ i, i < k ∧ (l.getD i pr0).m = me ∧ (l.getD i pr0).b = bo ∧ (l.getD i pr0).t = t ∧ (l.getD i pr0).r < rev) ∨ (out = 2 ∧ ∀ i, i < k → ¬ ((l.getD i pr0).m = me ∧ (l.getD i pr0).b = bo ∧ (l.getD i pr0).t = t ∧ (l.getD i pr0).r < rev))
theorem Seen.zero (l : List Pr) (me rev bo t : Int) : Seen l me rev bo t 0 2 := ⟨fun i hi => absurd hi (Nat.not_lt_zero _), .inr ⟨rfl, fun i hi => absurd hi (Nat.not_lt_zero _)⟩⟩
theorem Seen.skip {l : List Pr} {me rev bo t : Int} {k : Nat} {out : Int} (h : Seen l me rev bo t k out) (hx : ¬ ((l.getD k pr0).m = me ∧ (l.getD k pr0).b = bo ∧ (l.getD k pr0).t = t ∧ (l.getD k pr0).r ≤ rev)) : Seen l me rev bo t (k + 1) out := by
  refine ⟨fun i hi => ?_, ?_⟩
  · by_cases e : i = k
    · subst e; rintro ⟨h1, h2, h3, h4⟩; exact hx ⟨h1, h2, h3, by omega⟩
    · exact h.no i (by omega)
  · rcases h.out with ⟨h1, i, hi, h2⟩ | ⟨h1, h2⟩
    · exact .inl ⟨h1, i, by omega, h2⟩
    · refine .inr ⟨h1, fun i hi => ?_⟩
      by_cases e : i = k
      · subst e; rintro ⟨a1, a2, a3, a4⟩; exact hx ⟨a1, a2, a3, by omega⟩
      · exact h2 i (by omega)
theorem Seen.early {l : List Pr} {me rev bo t : Int} {k : Nat} {out : Int} (h : Seen l me rev bo t k out) (h1 : (l.getD k pr0).m = me) (h2 : (l.getD k pr0).b = bo) (h3 : (l.getD k pr0).t = t) (h4 : (l.getD k pr0).r < rev) : Seen l me rev bo t (k + 1) 1 := by
  refine ⟨fun i hi => ?_, .inl ⟨rfl, k, Nat.lt_succ_self _, h1, h2, h3, h4⟩⟩
  by_cases e : i = k
  · subst e; rintro ⟨_, _, _, a4⟩; omega
  · exact h.no i (by omega)
theorem Seen.done {l : List Pr} {me rev bo t : Int} {out : Int} (h : Seen l me rev bo t l.length out) : (out = 0 ∧ Here l me rev bo t) ∨ (out = 1 ∧ ¬ Here l me rev bo t ∧ Early l me rev bo t) ∨ (out = 2 ∧ ¬ Here l me rev bo t ∧ ¬ Early l me rev bo t) := by
  have hn : ¬ Here l me rev bo t := fun ⟨j, hj, hx⟩ => h.no j hj hx
  rcases h.out with ⟨h1, i, hi, h2⟩ | ⟨h1, h2⟩
  · exact .inr (.inl ⟨h1, hn, i, hi, h2⟩)
  · exact .inr (.inr ⟨h1, hn, fun ⟨j, hj, hx⟩ => h2 j hj hx⟩)
/-- The boxes of a meter and of an oracle that came in. -/
structure Bm (w wr : World) (m : Mt) (a : Option Addr) (n cap : Nat) (l : List Pr) : Prop where
  met : Blk wr w.heap.size m.cells 40
  ora : Blk wr (w.heap.size + 1) #[.slice a n cap] 25
  row : RowP wr a n l
  bel : Below w.heap.size w wr
theorem Bm.next {w wr w' : World} {m : Mt} {a : Option Addr} {n cap : Nat} {l : List Pr} (h : Bm w wr m a n cap l) (hb : Below wr.heap.size wr w') : Bm w w' m a n cap l := ⟨h.met.next hb, h.ora.next hb, h.row.below hb, bel_step h.bel hb⟩
theorem Bm.alloc {w wr : World} {m : Mt} {a : Option Addr} {n cap : Nat} {l : List Pr} (h : Bm w wr m a n cap l) (o : Obj) : Bm w (wr.alloc o) m a n cap l := h.next ((Below.refl _ _).alloc (Nat.le_refl _) _)
theorem Bm.new {w : World} {m : Mt} {a : Option Addr} {n cap : Nat} {l : List Pr} (h : RowP w a n l) : Bm w ((w.alloc (.cells m.cells 40)).alloc (.cells #[.slice a n cap] 25)) m a n cap l := by
  have hb : Below w.heap.size w ((w.alloc (.cells m.cells 40)).alloc (.cells #[.slice a n cap] 25)) := ((Below.refl _ _).alloc (Nat.le_refl _) _).alloc (by simp) _
  exact ⟨(Blk.new w _ _).alloc _, Blk.new1 w _ _ _, h.below hb, hb⟩

set_option maxHeartbeats 2000000 in
theorem sellKey_any (m : Mt) (a : Option Addr) (n cap : Nat) (l : List Pr) (bo t : Int) (w : World) (hr : RowP w a n l) (hn : n ≤ 500) :
    Calls Tryz.prog 47 #[m.v, .agg #[.slice a n cap], .int .i64 bo, .int .i64 t] w fun e w' => SellPost w l m.me m.rev bo t e w' := by
  have HB0 : Hid (Bm w ((w.alloc (.cells m.cells 40)).alloc (.cells #[.slice a n cap] 25)) m a n cap l) := Bm.new hr
  have HL : Hid (l.length = n) := hr.1
  clear hr
  obtain ⟨me, rev, cr, h, b, bad, lock⟩ := m
  unfold Mt.v
  unfold Mt.cells at HB0 ⊢
  simp only [] at HB0 ⊢
  go_enter Tryz.func47, Tryz.ntmps47
  go_wp2_with fail
  generalize (w.alloc (.cells #[.int .i64 me, .int .i64 rev, .int .i64 cr, .int .i64 h, .int .u64 (b : Int), .int .i64 bad, .int .i64 lock] 40)).alloc (.cells #[.slice a n cap] 25) = W0 at *
  go_loopw [9, 10] (fun v j wr => ∃ (k : Nat) (out : Int), v = .int .i64 out ∧ j = .int .i64 (k : Int) ∧ k ≤ n ∧ Hid (Seen l me rev bo t k out) ∧ Bm w wr ⟨me, rev, cr, h, b, bad, lock⟩ a n cap l) (fun _ j _ => n - (intOf j).toNat)
  case atStart => exact ⟨0, 2, rfl, rfl, Nat.zero_le _, Seen.zero _ _ _ _ _, HB0.out⟩
  case round =>
    obtain ⟨k, out, rfl, rfl, hk, HS, hbm⟩ := hrel
    have HI : Hid (Bm w wr ⟨me, rev, cr, h, b, bad, lock⟩ a n cap l) := hbm
    clear hbm HB0
    have o0 := HI.out.ora.cell 0
    by_cases hlt : k < n
    · obtain ⟨bl, off, rfl, _, hc⟩ := HI.out.row.at (by omega)
      obtain ⟨f0, f1, f2, f3⟩ := hc k hlt
      have HSK : Hid (¬ ((l.getD k pr0).m = me ∧ (l.getD k pr0).b = bo ∧ (l.getD k pr0).t = t ∧ (l.getD k pr0).r ≤ rev) → Seen l me rev bo t (k + 1) out) := fun hx => HS.out.skip hx
      have HSE : Hid ((l.getD k pr0).m = me → (l.getD k pr0).b = bo → (l.getD k pr0).t = t → (l.getD k pr0).r < rev → Seen l me rev bo t (k + 1) 1) := fun h1 h2 h3 h4 => HS.out.early h1 h2 h3 h4
      have HSH : Hid ((l.getD k pr0).m = me → (l.getD k pr0).b = bo → (l.getD k pr0).t = t → (l.getD k pr0).r = rev → Here l me rev bo t) := fun h1 h2 h3 h4 => ⟨k, by rw [HL.out]; exact hlt, h1, h2, h3, h4⟩
      clear hc HS
      generalize (l.getD k pr0).m = pm at *
      generalize (l.getD k pr0).r = prr at *
      generalize (l.getD k pr0).b = pb at *
      generalize (l.getD k pr0).t = pt at *
      have hN := Blk.new wr #[.int .i64 pm, .int .i64 prr, .int .i64 pb, .int .i64 pt] 55
      have n0 := hN.cell 0
      have n1 := hN.cell 1
      have n2 := hN.cell 2
      have n3 := hN.cell 3
      have HI2 : Hid (Bm w (wr.alloc (.cells #[.int .i64 pm, .int .i64 prr, .int .i64 pb, .int .i64 pt] 55)) ⟨me, rev, cr, h, b, bad, lock⟩ (some ⟨bl, off, none⟩) n cap l) := HI.out.alloc _
      have m0 : (wr.alloc (.cells #[.int .i64 pm, .int .i64 prr, .int .i64 pb, .int .i64 pt] 55)).cell? ⟨w.heap.size, 0, none⟩ = some (.int .i64 me) := HI2.out.met.cell 0
      have m1 : (wr.alloc (.cells #[.int .i64 pm, .int .i64 prr, .int .i64 pb, .int .i64 pt] 55)).cell? ⟨w.heap.size, 1, none⟩ = some (.int .i64 rev) := HI2.out.met.cell 1
      clear hN HI
      by_cases e1 : pm = me
      · have q1 : (pm != me) = false := by simp [e1]
        by_cases e2 : pb = bo
        · have q2 : (pb != bo) = false := by simp [e2]
          by_cases e3 : pt = t
          · have q3 : (pt != t) = false := by simp [e3]
            by_cases e4 : rev < prr
            · have q4 : decide (rev < prr) = true := by simp [e4]
              have HF : Hid (Seen l me rev bo t (k + 1) out) := HSK.out fun h => by omega
              clear e1 e2 e3
              go_wp2_with fail
              go_roundw
              case rel => exact ⟨k + 1, out, rfl, by go_num, by omega, HF, HI2.out⟩
              case measure => simp [intOf]; omega
            · have q4 : decide (rev < prr) = false := by simp; omega
              by_cases e5 : prr = rev
              · have q5 : (prr == rev) = true := by simp [e5]
                have HF : Hid (Here l me rev bo t) := HSH.out e1 e2 e3 e5
                clear e1 e2 e3 e4 e5
                go_wp2_with fail
                go_ret
                exact ⟨HI2.out.bel, 0, rfl, .inl ⟨rfl, HF.out⟩⟩
              · have q5 : (prr == rev) = false := by simp [e5]
                have HF : Hid (Seen l me rev bo t (k + 1) 1) := HSE.out e1 e2 e3 (by omega)
                clear e1 e2 e3 e4 e5
                go_wp2_with fail
                go_roundw
                case rel => exact ⟨k + 1, 1, rfl, by go_num, by omega, HF, HI2.out⟩
                case measure => simp [intOf]; omega
          · have q3 : (pt != t) = true := by simp [e3]
            have HF : Hid (Seen l me rev bo t (k + 1) out) := HSK.out fun h => e3 h.2.2.1
            clear e1 e2 e3
            go_wp2_with fail
            go_roundw
            case rel => exact ⟨k + 1, out, rfl, by go_num, by omega, HF, HI2.out⟩
            case measure => simp [intOf]; omega
        · have q2 : (pb != bo) = true := by simp [e2]
          have HF : Hid (Seen l me rev bo t (k + 1) out) := HSK.out fun h => e2 h.2.1
          clear e1 e2
          go_wp2_with fail
          go_roundw
          case rel => exact ⟨k + 1, out, rfl, by go_num, by omega, HF, HI2.out⟩
          case measure => simp [intOf]; omega
      · have q1 : (pm != me) = true := by simp [e1]
        have HF : Hid (Seen l me rev bo t (k + 1) out) := HSK.out fun h => e1 h.1
        clear e1
        go_wp2_with fail
        go_roundw
        case rel => exact ⟨k + 1, out, rfl, by go_num, by omega, HF, HI2.out⟩
        case measure => simp [intOf]; omega
    · obtain rfl : n = k := by omega
      have HF : Hid (Seen l me rev bo t l.length out) := by show Seen _ _ _ _ _ _ _; rw [HL.out]; exact HS.out
      go_wp2_with fail
      go_ret
      exact ⟨HI.out.bel, out, rfl, HF.out.done⟩

end Go.Proofs.YtgipkpkjoicehaaGreatDoor.met

/- Is a number from low to high? -/
namespace Go.Proofs.YtgipkpkjoicehaaGreatDoor.token
open Go.RowKit

theorem in_yes (n lo hi : Int) (w : World) (h1 : lo ≤ n) (h2 : n ≤ hi) :
    Calls Tryz.prog 77 #[.int .i64 n, .int .i64 lo, .int .i64 hi] w fun e w' => e = .returned (.bool true) ∧ w' = w := by
  go_enter Tryz.func77, Tryz.ntmps77
  go_wp2
  go_ret
  exact ⟨rfl, rfl⟩

theorem in_no (n lo hi : Int) (w : World) (h : n < lo ∨ hi < n) :
    Calls Tryz.prog 77 #[.int .i64 n, .int .i64 lo, .int .i64 hi] w fun e w' => e = .returned (.bool false) ∧ w' = w := by
  by_cases h0 : n < lo
  · clear h
    go_enter Tryz.func77, Tryz.ntmps77
    go_wp2
    go_ret
    exact ⟨rfl, rfl⟩
  · have h1 : lo ≤ n := by omega
    have h2 : decide (n ≤ hi) = false := by simp; omega
    clear h h0
    go_enter Tryz.func77, Tryz.ntmps77
    go_wp2
    go_ret
    exact ⟨rfl, rfl⟩

end Go.Proofs.YtgipkpkjoicehaaGreatDoor.token

/- The document's answer: why a token may not be, and its body. -/
namespace Go.Proofs.YtgipkpkjoicehaaGreatDoor.token
open Go.RowKit
set_option linter.unusedSimpArgs false
set_option linter.unusedVariables false

theorem in_any (n lo hi : Int) (w : World) : Calls Tryz.prog 77 #[.int .i64 n, .int .i64 lo, .int .i64 hi] w fun e w' => e = .returned (.bool (hasI lo hi n)) ∧ w' = w := by
  by_cases h : lo ≤ n ∧ n ≤ hi
  · rw [hasI_yes.2 h]; exact in_yes n lo hi w h.1 h.2
  · rw [show hasI lo hi n = false by rw [← Bool.not_eq_true]; exact fun h0 => h (hasI_yes.1 h0)]; exact in_no n lo hi w (by omega)

/-- What is asked of the amount. -/
theorem amt_0 (a : Int) : hasI (amLo 0) (amHi 0) a = hasI 1 2097151 a := rfl
theorem amt_2 (a : Int) : hasI (amLo 2) (amHi 2) a = hasI 1 15 a := rfl
theorem amt_z (a : Int) : hasI 0 0 a = (a == 0) := by
  unfold hasI
  by_cases h : a = 0
  · subst h; rfl
  · rw [beq_eq_false_iff_ne.2 h, ← Bool.not_eq_true, ← hasI]
    exact fun h0 => h (by have := hasI_yes.1 h0; omega)

set_option maxHeartbeats 1000000 in
theorem fault_any (c i a t : Int) (w : World) :
    Calls Tryz.prog 42 #[.agg #[.int .i64 c, .int .i64 i, .int .i64 a, .int .i64 t]] w fun e w' => e = .returned (.int .i64 (flawT c i a t)) ∧ Below w.heap.size w w' := by
  have HB : Hid (Below w.heap.size w (w.alloc (.cells #[.int .i64 c, .int .i64 i, .int .i64 a, .int .i64 t] 44))) := (Below.refl _ _).alloc (Nat.le_refl _) _
  have HC : Hid (∀ W, Calls Tryz.prog 77 #[.int .i64 c, .int .i64 0, .int .i64 3] W fun e w' => e = .returned (.bool (hasI 0 3 c)) ∧ w' = W) := fun W => in_any _ _ _ W
  have HI : Hid (∀ W, Calls Tryz.prog 77 #[.int .i64 i, .int .i64 1, .int .i64 1048575] W fun e w' => e = .returned (.bool (hasI 1 1048575 i)) ∧ w' = W) := fun W => in_any _ _ _ W
  have HU : Hid (∀ W, Calls Tryz.prog 77 #[.int .i64 t, .int .i64 0, .int .i64 65535] W fun e w' => e = .returned (.bool (hasI 0 65535 t)) ∧ w' = W) := fun W => in_any _ _ _ W
  have H1 : Hid (∀ W, Calls Tryz.prog 77 #[.int .i64 a, .int .i64 1, .int .i64 2097151] W fun e w' => e = .returned (.bool (hasI 1 2097151 a)) ∧ w' = W) := fun W => in_any _ _ _ W
  have H2 : Hid (∀ W, Calls Tryz.prog 77 #[.int .i64 a, .int .i64 1, .int .i64 15] W fun e w' => e = .returned (.bool (hasI 1 15 a)) ∧ w' = W) := fun W => in_any _ _ _ W
  by_cases h : c < 0 ∨ 3 < c
  · rw [flawT_class h]
    have hc : hasI 0 3 c = false := by rw [← Bool.not_eq_true]; exact fun h0 => by have := hasI_yes.1 h0; omega
    rw [hc] at HC
    clear h hc
    go_enter Tryz.func42, Tryz.ntmps42
    go_wp2_with (go_at_call 77; refine (HC.out _).mono ?_; rintro e w' ⟨rfl, rfl⟩)
    go_ret
    exact ⟨rfl, HB.out⟩
  · have hc : hasI 0 3 c = true := hasI_yes.2 (by omega)
    rw [hc] at HC
    rw [flawT_in h]
    have HZ : Hid ((a == 0) = hasI 0 0 a) := (amt_z a).symm
    have hne : (a != 0) = !(hasI 0 0 a) := by rw [amt_z]; rfl
    generalize hasI 1 1048575 i = bi at *
    generalize hasI 0 65535 t = bt at *
    rcases (by omega : c = 0 ∨ c = 1 ∨ c = 2 ∨ c = 3) with rfl | rfl | rfl | rfl
    · rw [amt_0]
      clear H2 HZ hne h hc
      generalize hasI 1 2097151 a = ba at *
      cases bi <;> cases bt <;> cases ba
      all_goals
        go_enter Tryz.func42, Tryz.ntmps42
        go_wp2_with (first
          | (go_at_call_of 77 (Value.int .i64 3); refine (HC.out _).mono ?_; rintro e w' ⟨rfl, rfl⟩)
          | (go_at_call_of 77 (Value.int .i64 1048575); refine (HI.out _).mono ?_; rintro e w' ⟨rfl, rfl⟩)
          | (go_at_call_of 77 (Value.int .i64 65535); refine (HU.out _).mono ?_; rintro e w' ⟨rfl, rfl⟩)
          | (go_at_call_of 77 (Value.int .i64 2097151); refine (H1.out _).mono ?_; rintro e w' ⟨rfl, rfl⟩))
        go_ret
        exact ⟨rfl, HB.out⟩
    · rw [show hasI (amLo 1) (amHi 1) a = hasI 0 0 a from rfl]
      clear H1 H2 h hc
      generalize hasI 0 0 a = ba at *
      cases bi <;> cases bt <;> cases ba
      all_goals
        go_enter Tryz.func42, Tryz.ntmps42
        go_wp2_with (first
          | (go_at_call_of 77 (Value.int .i64 3); refine (HC.out _).mono ?_; rintro e w' ⟨rfl, rfl⟩)
          | (go_at_call_of 77 (Value.int .i64 1048575); refine (HI.out _).mono ?_; rintro e w' ⟨rfl, rfl⟩)
          | (go_at_call_of 77 (Value.int .i64 65535); refine (HU.out _).mono ?_; rintro e w' ⟨rfl, rfl⟩))
        go_ret
        exact ⟨rfl, HB.out⟩
    · rw [amt_2]
      clear H1 HZ hne h hc
      generalize hasI 1 15 a = ba at *
      cases bi <;> cases bt <;> cases ba
      all_goals
        go_enter Tryz.func42, Tryz.ntmps42
        go_wp2_with (first
          | (go_at_call_of 77 (Value.int .i64 3); refine (HC.out _).mono ?_; rintro e w' ⟨rfl, rfl⟩)
          | (go_at_call_of 77 (Value.int .i64 1048575); refine (HI.out _).mono ?_; rintro e w' ⟨rfl, rfl⟩)
          | (go_at_call_of 77 (Value.int .i64 65535); refine (HU.out _).mono ?_; rintro e w' ⟨rfl, rfl⟩)
          | (go_at_call_of 77 (Value.int .i64 15); refine (H2.out _).mono ?_; rintro e w' ⟨rfl, rfl⟩))
        go_ret
        exact ⟨rfl, HB.out⟩
    · rw [show hasI (amLo 3) (amHi 3) a = hasI 0 0 a from rfl]
      clear H1 H2 h hc
      generalize hasI 0 0 a = ba at *
      cases bi <;> cases bt <;> cases ba
      all_goals
        go_enter Tryz.func42, Tryz.ntmps42
        go_wp2_with (first
          | (go_at_call_of 77 (Value.int .i64 3); refine (HC.out _).mono ?_; rintro e w' ⟨rfl, rfl⟩)
          | (go_at_call_of 77 (Value.int .i64 1048575); refine (HI.out _).mono ?_; rintro e w' ⟨rfl, rfl⟩)
          | (go_at_call_of 77 (Value.int .i64 65535); refine (HU.out _).mono ?_; rintro e w' ⟨rfl, rfl⟩))
        go_ret
        exact ⟨rfl, HB.out⟩

end Go.Proofs.YtgipkpkjoicehaaGreatDoor.token

/- The document's body of a token. -/
namespace Go.Proofs.YtgipkpkjoicehaaGreatDoor.token
open Go.RowKit
set_option linter.unusedSimpArgs false
set_option linter.unusedVariables false

set_option maxHeartbeats 400000 in
theorem bodyOf_no (c i a t : Int) (w : World) (h : flawT c i a t ≠ 0) :
    Calls Tryz.prog 46 #[.agg #[.int .i64 c, .int .i64 i, .int .i64 a, .int .i64 t]] w fun e w' => e = .returned (.tuple #[.int .i64 0, .int .i64 (flawT c i a t)]) ∧ Below w.heap.size w w' := by
  have HF : Hid (∀ W, Calls Tryz.prog 42 #[.agg #[.int .i64 c, .int .i64 i, .int .i64 a, .int .i64 t]] W fun e w' => e = .returned (.int .i64 (flawT c i a t)) ∧ Below W.heap.size W w') := fun W => fault_any c i a t W
  have hd : (flawT c i a t != 0) = true := by simpa using h
  have HB : Hid (Below w.heap.size w (w.alloc (.cells #[.int .i64 c, .int .i64 i, .int .i64 a, .int .i64 t] 44))) := (Below.refl _ _).alloc (Nat.le_refl _) _
  clear h
  generalize flawT c i a t = f at *
  go_enter Tryz.func46, Tryz.ntmps46
  go_wp2_with fail
  refine (HF.out _).mono ?_
  rintro e w1 ⟨rfl, hb1⟩
  have HB1 : Hid (Below w.heap.size w w1) := bel_step HB.out hb1
  clear hb1 HF HB
  go_wp2_with fail
  refine bodyPost_ret (v := .tuple #[.int .i64 0, .int .i64 f]) (by simp [results, Tryz.results46, go_sem]) rfl ⟨rfl, HB1.out⟩

set_option maxHeartbeats 400000 in
theorem bodyOf_ok (k : Tok) (w : World) (hk : k.ok) :
    Calls Tryz.prog 46 #[k.v] w fun e w' => e = .returned (.tuple #[.int .i64 (k.body : Int), .int .i64 0]) ∧ Below w.heap.size w w' := by
  have HF : Hid (∀ W, Calls Tryz.prog 42 #[.agg #[.int .i64 (k.c : Int), .int .i64 (k.i : Int), .int .i64 (k.a : Int), .int .i64 (k.t : Int)]] W fun e w' => e = .returned (.int .i64 0) ∧ Below W.heap.size W w') := fun W => by
    have := fault_any k.c k.i k.a k.t W
    rwa [flaw_tok.2 hk] at this
  have HB : Hid (Below w.heap.size w (w.alloc (.cells #[.int .i64 (k.c : Int), .int .i64 (k.i : Int), .int .i64 (k.a : Int), .int .i64 (k.t : Int)] 44))) := (Below.refl _ _).alloc (Nat.le_refl _) _
  have HX : Hid (Blk (w.alloc (.cells #[.int .i64 (k.c : Int), .int .i64 (k.i : Int), .int .i64 (k.a : Int), .int .i64 (k.t : Int)] 44)) w.heap.size #[.int .i64 (k.c : Int), .int .i64 (k.i : Int), .int .i64 (k.a : Int), .int .i64 (k.t : Int)] 44) := Blk.new _ _ _
  have EB : Hid ((k.body : Int) = (k.c : Int) * 2199023255552 + (k.i : Int) * 2097152 + (k.a : Int)) := by
    show (k.body : Int) = _
    unfold Tok.body; omega
  have h1 := hk.c3; have h2 := hk.i2; have h3 := hk.a2
  have z1 : (0 : Int) ≤ (k.c : Int) := by omega
  have z2 : (0 : Int) ≤ (k.i : Int) := by omega
  have z3 : (0 : Int) ≤ (k.a : Int) := by omega
  have y1 : (k.c : Int) ≤ 3 := by omega
  have y2 : (k.i : Int) ≤ 1048575 := by omega
  have y3 : (k.a : Int) ≤ 2097151 := by omega
  clear hk h1 h2 h3
  unfold Tok.v
  rw [EB.out]
  clear EB
  generalize (k.c : Int) = c at *
  generalize (k.i : Int) = i at *
  generalize (k.a : Int) = a at *
  generalize (k.t : Int) = t at *
  go_enter Tryz.func46, Tryz.ntmps46
  go_wp2_with fail
  refine (HF.out _).mono ?_
  rintro e w1 ⟨rfl, hb1⟩
  have HB1 : Hid (Below w.heap.size w w1) := bel_step HB.out hb1
  have hX := HX.out.next hb1
  have x0 := hX.cell 0
  have x1 := hX.cell 1
  have x2 := hX.cell 2
  clear hb1 HF HB HX hX
  go_wp2_with fail
  refine bodyPost_ret (v := .tuple #[.int .i64 (c * 2199023255552 + i * 2097152 + a), .int .i64 0]) (by simp [results, Tryz.results46, go_sem]) rfl ⟨rfl, HB1.out⟩

end Go.Proofs.YtgipkpkjoicehaaGreatDoor.token

/- Windows: what the document judges. -/
namespace Go.Proofs.YtgipkpkjoicehaaGreatDoor.win
open Go.RowKit Go.Proofs.YtgipkpkjoicehaaGreatDoor.irow
set_option maxRecDepth 100000
set_option linter.unusedVariables false

set_option maxHeartbeats 2000000 in
theorem judged_any (h : Int) (b : Nat) (id : Int) (w : World) (hb : b < 18446744073709551616) :
    Calls Tryz.prog 79 #[.agg #[.int .i64 h, .int .u64 (b : Int)], .int .i64 id] w fun e w' => JudgePost w h b id e w' := by
  have HMY : Hid (∀ W, Calls Tryz.prog 78 #[.agg #[.int .i64 h, .int .u64 (b : Int)]] W fun e w' => MayPost W h b e w') := fun W => wmay_any h b W hb
  have hW := Blk.new w #[.int .i64 h, .int .u64 (b : Int)] 38
  have c0 := hW.cell 0
  have c1 := hW.cell 1
  have HB0 : Hid (Below w.heap.size w (w.alloc (.cells #[.int .i64 h, .int .u64 (b : Int)] 38))) := (Below.refl _ _).alloc (Nat.le_refl _) _
  have HWB : Hid (∀ W', Below (w.alloc (.cells #[.int .i64 h, .int .u64 (b : Int)] 38)).heap.size (w.alloc (.cells #[.int .i64 h, .int .u64 (b : Int)] 38)) W' → W'.cell? ⟨w.heap.size, 0, none⟩ = some (.int .i64 h) ∧ W'.cell? ⟨w.heap.size, 1, none⟩ = some (.int .u64 (b : Int))) := fun W' hb' => ⟨(hW.next hb').cell 0, (hW.next hb').cell 1⟩
  clear hW
  go_enter Tryz.func79, Tryz.ntmps79
  go_wp2_with fail
  refine (HMY.out _).mono ?_
  rintro e w1 ⟨r, rfl, hr, hb1⟩
  have HB1 : Hid (Below w.heap.size w w1) := bel_step HB0.out hb1
  obtain ⟨d0, d1⟩ := HWB.out w1 hb1
  clear hb1 c0 c1 HB0 HWB HMY
  cases r with
  | false =>
    have HM : Hid (¬ May h b) := fun hm => by have := hr.2 hm; cases this
    clear hr
    go_wp2_with fail
    go_ret
    exact JudgePost.mk (.inl ⟨HM.out, rfl⟩) HB1.out
  | true =>
    have HM : Hid (May h b) := hr.1 rfl
    clear hr
    by_cases hid : 1 ≤ id ∧ id ≤ 1048575
    · have HID : Hid (1 ≤ id ∧ id ≤ 1048575) := hid
      have HI : Hid (∀ W, Calls Tryz.prog 77 #[.int .i64 id, .int .i64 1, .int .i64 1048575] W fun e w' => e = .returned (.bool true) ∧ w' = W) := fun W => in_yes _ _ _ W hid.1 hid.2
      obtain ⟨i1, i2⟩ := hid
      obtain ⟨l1, l2⟩ := may_low HM.out
      by_cases hold : id ≤ h - 64
      · go_wp2_with fail
        refine (HI.out _).mono ?_
        rintro e w2 ⟨rfl, rfl⟩
        go_wp2_with fail
        go_ret
        exact JudgePost.mk (.inr (.inr (.inl ⟨HM.out, HID.out, hold, rfl⟩))) HB1.out
      · have HOL : Hid (¬ id ≤ h - 64) := hold
        have hd : decide (id ≤ h - 64) = false := by simp; omega
        have HME : Hid (∀ W, Calls Tryz.prog 80 #[.agg #[.int .i64 h, .int .u64 (b : Int)]] W fun e w' => GaveI W (mem h b 64) e w') := fun W => members_any h b W hb l1 l2
        have HY : Hid (id ∈ mem h b 64 → JudgeIs h b id 14) := fun hx => .inr (.inr (.inr (.inl ⟨HM.out, HID.out, hold, hx, rfl⟩)))
        have HN : Hid (id ∉ mem h b 64 → JudgeIs h b id 0) := fun hx => .inr (.inr (.inr (.inr ⟨HM.out, HID.out, hold, hx, rfl⟩)))
        have HLN := mem_len h b 64
        clear hold
        generalize mem h b 64 = l at *
        go_wp2_with fail
        refine (HI.out _).mono ?_
        rintro e w2 ⟨rfl, rfl⟩
        go_wp2_with fail
        refine (HME.out _).mono ?_
        rintro e w3 ⟨v, rfl, hv, hb3⟩
        have HB3 : Hid (Below w.heap.size w w3) := bel_step HB1.out hb3
        obtain ⟨a, cap, rfl, hrow, _, _⟩ := hv.row
        obtain ⟨n, hn⟩ : ∃ n, l.length = n := ⟨_, rfl⟩
        rw [hn] at hrow HLN
        rw [hn]
        have HR : Hid (RowN w3 a n l) := hrow
        have HN' : Hid (l.length = n) := hn
        clear hv hrow hb3 hn d0 d1 hd
        go_wp2_with fail
        go_loopw [6] (fun j wr => ∃ k : Nat, k ≤ n ∧ j = .int .i64 (k : Int) ∧ (∀ i, i < k → l.getD i 0 ≠ id) ∧ wr = w3) (fun j _ => n - (intOf j).toNat)
        case atStart => exact ⟨0, Nat.zero_le _, rfl, fun i hi => absurd hi (Nat.not_lt_zero _), rfl⟩
        case round =>
          obtain ⟨k, hk, rfl, hall, rfl⟩ := hrel
          have HA : Hid (∀ i, i < k → l.getD i 0 ≠ id) := hall
          clear hall
          by_cases hlt : k < n
          · obtain ⟨bl, off, rfl, _, hc⟩ := HR.out.at (by omega)
            have g1 := hc k hlt
            clear hc
            by_cases hx : l.getD k 0 = id
            · have HF : Hid (JudgeIs h b id 14) := HY.out (by rw [← hx]; exact getD_mem (by rw [HN'.out]; exact hlt))
              have hq : (l.getD k 0 == id) = true := by rw [hx]; exact beq_self_eq_true id
              clear hx HA
              generalize l.getD k 0 = x at *
              go_wp2_with fail
              go_ret
              exact JudgePost.mk HF.out HB3.out
            · have HA' : Hid (∀ i, i < k + 1 → l.getD i 0 ≠ id) := fun i hi => by
                by_cases e : i = k
                · subst e; exact hx
                · exact HA.out i (by omega)
              have hq : (l.getD k 0 == id) = false := by simp only [beq_eq_false_iff_ne, ne_eq]; exact hx
              clear hx HA
              generalize l.getD k 0 = x at g1 hq
              go_wp2_with fail
              go_roundw
              case rel => exact ⟨k + 1, by omega, by go_num, HA'.out, trivial⟩
              case measure => simp [intOf]; omega
          · obtain rfl : n = k := by omega
            have HF : Hid (JudgeIs h b id 0) := HN.out fun hm => by
              obtain ⟨i, hi, he⟩ := List.getElem_of_mem hm
              have hi' : i < n := by rw [← HN'.out]; exact hi
              refine HA.out i hi' ?_
              rw [List.getD_eq_getElem?_getD, List.getElem?_eq_getElem hi]; exact he
            go_wp2_with fail
            go_ret
            exact JudgePost.mk HF.out HB3.out
    · have HI : Hid (∀ W, Calls Tryz.prog 77 #[.int .i64 id, .int .i64 1, .int .i64 1048575] W fun e w' => e = .returned (.bool false) ∧ w' = W) := fun W => in_no _ _ _ W (by omega)
      have HID : Hid (¬ (1 ≤ id ∧ id ≤ 1048575)) := hid
      clear hid
      go_wp2_with fail
      refine (HI.out _).mono ?_
      rintro e w2 ⟨rfl, rfl⟩
      go_wp2_with fail
      go_ret
      exact JudgePost.mk (.inr (.inl ⟨HM.out, HID.out, rfl⟩)) HB1.out

end Go.Proofs.YtgipkpkjoicehaaGreatDoor.win

/- Windows: what taking gives. -/
namespace Go.Proofs.YtgipkpkjoicehaaGreatDoor.win
open Go.RowKit
set_option maxRecDepth 100000
set_option linter.unusedVariables false

/-- A number was taken, or refused. -/
def TakePost (w : World) (h : Int) (b : Nat) (id : Int) (e : Ending) (w' : World) : Prop :=
  ∃ h' b' c, e = .returned (.tuple #[.agg #[.int .i64 h', .int .u64 ((b' : Nat) : Int)], .int .i64 c]) ∧ JudgeIs h b id c ∧ (c ≠ 0 → h' = 0 ∧ b' = 0) ∧ (c = 0 → h' = max h id ∧ b' = took h b id) ∧ Below w.heap.size w w'
/-- Two blocks: the window that came in, and the one that goes out, empty as yet. -/
structure Bxs (w wr : World) (h : Int) (b : Nat) : Prop where
  inn : Blk wr w.heap.size #[.int .i64 h, .int .u64 (b : Int)] 38
  out : Blk wr (w.heap.size + 1) #[.int .i64 0, .int .u64 0] 38
  bel : Below w.heap.size w wr
  size : w.heap.size + 2 ≤ wr.heap.size
theorem Bxs.next {w wr w' : World} {h : Int} {b : Nat} (hx : Bxs w wr h b) (hb : Below wr.heap.size wr w') : Bxs w w' h b := ⟨hx.inn.next hb, hx.out.next hb, bel_step hx.bel hb, Nat.le_trans hx.size hb.size⟩
theorem Bxs.new (w : World) (h : Int) (b : Nat) : Bxs w ((w.alloc (.cells #[.int .i64 h, .int .u64 (b : Int)] 38)).alloc (.cells #[.int .i64 0, .int .u64 0] 38)) h b :=
  ⟨(Blk.new w _ _).alloc _, Blk.new1 w _ _ _, ((Below.refl _ _).alloc (Nat.le_refl _) _).alloc (by simp) _, by simp⟩
end Go.Proofs.YtgipkpkjoicehaaGreatDoor.win

/- Windows: the document's own taking. -/
namespace Go.Proofs.YtgipkpkjoicehaaGreatDoor.win
open Go.RowKit Go.Proofs.YtgipkpkjoicehaaGreatDoor.irow
set_option maxRecDepth 100000
set_option linter.unusedVariables false

theorem count_take (l : List Int) (x : Int) (j : Nat) (hj : j < l.length) : (l.take (j + 1)).count x = (l.take j).count x + (if l.getD j 0 = x then 1 else 0) := by
  rw [List.take_succ_eq_append_getElem hj, List.count_append]
  have e : l.getD j 0 = l[j] := by rw [List.getD_eq_getElem?_getD, List.getElem?_eq_getElem hj]; rfl
  rw [e]
  by_cases h : l[j] = x
  · simp [h]
  · simp [h]
theorem count_part {l : List Int} (hn : l.Nodup) (x : Int) (j : Nat) : (l.take j).count x ≤ 1 := count_le (hn.sublist (List.take_sublist j l)) x
theorem wof_small {high : Int} {l : List Int} (hn : l.Nodup) {k : Nat} (hk : k < 64) : wof high l k < 9223372036854775808 := Nat.lt_of_lt_of_le (wof_lt high l hn k) (Nat.pow_le_pow_right (show 0 < 2 by decide) (show k ≤ 63 by omega))
theorem wof_big {high : Int} {l : List Int} (hn : l.Nodup) {k : Nat} (hk : k ≤ 64) : wof high l k < 18446744073709551616 := Nat.lt_of_lt_of_le (wof_lt high l hn k) (Nat.pow_le_pow_right (show 0 < 2 by decide) hk)

/-- A window was given back. -/
def GaveW (w : World) (h : Int) (b : Nat) (e : Ending) (w' : World) : Prop := e = .returned (.agg #[.int .i64 h, .int .u64 (b : Int)]) ∧ Below w.heap.size w w'
/-- Two blocks: a window that is empty, and one with these bits. -/
structure Two (w wr : World) (high : Int) (B : Nat) : Prop where
  zero : Blk wr w.heap.size #[.int .i64 0, .int .u64 0] 38
  cur : Blk wr (w.heap.size + 1) #[.int .i64 high, .int .u64 (B : Int)] 38
  bel : Below w.heap.size w wr
theorem Two.put {w wr : World} {high : Int} {B : Nat} (h : Two w wr high B) (C : Nat) : Two w (wr.setCell ⟨w.heap.size + 1, 1, none⟩ (.int .u64 (C : Int))) high C :=
  ⟨h.zero.other 1 _ (by omega), h.cur.set 1 (.int .u64 (C : Int)), bel_set h.bel _ _ _ (by omega)⟩

set_option maxHeartbeats 4000000 in
theorem windowOf_any (high : Int) (a : Option Addr) (n cap : Nat) (l : List Int) (w : World) (hr : RowN w a n l) (hn : l.Nodup) (hl : n ≤ 1000) (h0 : 0 ≤ high) (h1 : high ≤ 1048575) :
    Calls Tryz.prog 81 #[.int .i64 high, .slice a n cap] w fun e w' => GaveW w high (wof high l 64) e w' := by
  have HR : Hid (∀ wr, Below w.heap.size w wr → RowN wr a n l) := fun wr hb => hr.below hb
  have HL : Hid (l.length = n) := hr.1
  have HN : Hid (l.Nodup) := hn
  clear hr hn
  go_enter Tryz.func81, Tryz.ntmps81
  go_wp2_with fail
  have HT0 : Hid (Two w ((w.alloc (.cells #[.int .i64 0, .int .u64 0] 38)).alloc (.cells #[.int .i64 high, .int .u64 0] 38)) high (wof high l 0)) :=
    ⟨(Blk.new w _ _).alloc _, Blk.new1 w _ _ _, ((Below.refl _ _).alloc (Nat.le_refl _) _).alloc (ialloc_le (Nat.le_refl _) _) _⟩
  generalize (w.alloc (.cells #[.int .i64 0, .int .u64 0] 38)).alloc (.cells #[.int .i64 high, .int .u64 0] 38) = W0 at *
  go_loopw [6] (fun j wr => ∃ k : Nat, k ≤ 64 ∧ j = .int .i64 (63 - (k : Int)) ∧ Two w wr high (wof high l k)) (fun j _ => (intOf j + 1).toNat)
  case atStart => exact ⟨0, Nat.zero_le _, rfl, HT0.out⟩
  case round =>
    obtain ⟨k, hk, rfl, htwo⟩ := hrel
    have HT : Hid (Two w wr high (wof high l k)) := htwo
    clear HT0 htwo
    by_cases hlt : k < 64
    · have hB := wof_small (high := high) HN.out hlt
      have hge : (0 : Int) ≤ 63 - (k : Int) := by omega
      have HE : Hid (wof high l (k + 1) = 2 * wof high l k + l.count (high - (63 - (k : Int)))) := by
        show _ = _
        rw [wof, show ((63 - k : Nat) : Int) = 63 - (k : Int) by omega]
      generalize wof high l k = B at *
      have d0 := HT.out.cur.cell 0
      have d1 := HT.out.cur.cell 1
      have f1 := HT.out.cur.free 1
      have HT1 : Hid (Two w (wr.setCell ⟨w.heap.size + 1, 1, none⟩ (.int .u64 (2 * (B : Int)))) high (2 * B + (l.take 0).count (high - (63 - (k : Int))))) := by
        have := HT.out.put (2 * B)
        rw [show ((2 * B : Nat) : Int) = 2 * (B : Int) by omega] at this
        show Two _ _ _ _
        simpa using this
      clear HT
      go_wp2_with fail
      generalize wr.setCell ⟨w.heap.size + 1, 1, none⟩ (.int .u64 (2 * (B : Int))) = W1 at *
      go_loopw [7] (fun i wr => ∃ t : Nat, t ≤ n ∧ i = .int .i64 (t : Int) ∧ Two w wr high (2 * B + (l.take t).count (high - (63 - (k : Int))))) (fun i _ => n - (intOf i).toNat)
      case atStart => exact ⟨0, Nat.zero_le _, rfl, HT1.out⟩
      case round =>
        obtain ⟨t, ht, rfl, htwo⟩ := hrel
        have HT : Hid (Two w wr high (2 * B + (l.take t).count (high - (63 - (k : Int))))) := htwo
        clear HT1 htwo d0 d1 f1
        by_cases htl : t < n
        · obtain ⟨bl, off, rfl, _, hc⟩ := (HR.out _ HT.out.bel).at (by omega)
          have g1 := hc t htl
          have hct := count_part HN.out (high - (63 - (k : Int))) t
          have HC := count_take l (high - (63 - (k : Int))) t (by rw [HL.out]; exact htl)
          clear hc
          by_cases hx : l.getD t 0 = high - (63 - (k : Int))
          · rw [if_pos hx] at HC
            have hct1 := count_part HN.out (high - (63 - (k : Int))) (t + 1)
            rw [HC] at hct1
            have HC' : Hid ((l.take (t + 1)).count (high - (63 - (k : Int))) = (l.take t).count (high - (63 - (k : Int))) + 1) := HC
            have hq : (l.getD t 0 == high - (63 - (k : Int))) = true := by rw [hx]; exact beq_self_eq_true _
            clear hx HC
            generalize l.getD t 0 = x at g1 hq
            have e1 := HT.out.cur.cell 1
            have e0 := HT.out.cur.cell 0
            have f2 := HT.out.cur.free 1
            generalize (l.take t).count (high - (63 - (k : Int))) = ct at *
            have HT2 : Hid (Two w (wr.setCell ⟨w.heap.size + 1, 1, none⟩ (.int .u64 (((2 * B + ct : Nat) : Int) + 1))) high (2 * B + (l.take (t + 1)).count (high - (63 - (k : Int))))) := by
              have := HT.out.put (2 * B + ct + 1)
              rw [show ((2 * B + ct + 1 : Nat) : Int) = ((2 * B + ct : Nat) : Int) + 1 by omega] at this
              rw [HC'.out]; exact this
            have hD : 2 * B + ct < 18446744073709551615 := by omega
            clear HT HC'
            generalize 2 * B + ct = D at *
            go_wp2_with fail
            go_roundw
            case rel => exact ⟨t + 1, by omega, by go_num, HT2.out⟩
            case measure => simp [intOf]; omega
          · rw [if_neg hx] at HC
            have HC' : Hid ((l.take (t + 1)).count (high - (63 - (k : Int))) = (l.take t).count (high - (63 - (k : Int)))) := HC
            have hq : (l.getD t 0 == high - (63 - (k : Int))) = false := by simp only [beq_eq_false_iff_ne, ne_eq]; exact hx
            clear hx HC
            generalize l.getD t 0 = x at g1 hq
            go_wp2_with fail
            go_roundw
            case rel => exact ⟨t + 1, by omega, by go_num, by rw [HC'.out]; exact HT.out⟩
            case measure => simp [intOf]; omega
        · obtain rfl : n = t := by omega
          have HT2 : Hid (Two w wr high (wof high l (k + 1))) := by
            have := HT.out
            rw [List.take_of_length_le (by rw [HL.out]; exact Nat.le_refl _)] at this
            rw [HE.out]; exact this
          clear HT
          go_wp2_with fail
          go_roundw
          case rel => exact ⟨k + 1, by omega, by go_num, HT2.out⟩
          case measure => simp [intOf]; omega
    · obtain rfl : k = 64 := by omega
      have hlt' : (63 - ((64 : Nat) : Int)) < 0 := by decide
      have d0 := HT.out.cur.cell 0
      have d1 := HT.out.cur.cell 1
      have z0 := HT.out.zero.cell 0
      have z1 := HT.out.zero.cell 1
      have y0 := HT.out.zero.free 0
      have y1 := HT.out.zero.free 1
      have HX := (HT.out.zero.set 0 (.int .i64 high)).set 1 (.int .u64 ((wof high l 64 : Nat) : Int))
      have R0 : Hid (_ = _) := HX.cell 0
      have R1 : Hid (_ = _) := HX.cell 1
      have HB : Hid (Below w.heap.size w ((wr.setCell ⟨w.heap.size, 0, none⟩ (.int .i64 high)).setCell ⟨w.heap.size, 1, none⟩ (.int .u64 ((wof high l 64 : Nat) : Int)))) := bel_set (bel_set HT.out.bel _ _ _ (Nat.le_refl _)) _ _ _ (Nat.le_refl _)
      clear HX HT
      go_wp2_with fail
      exact bodyPost_ret (v := .agg #[.int .i64 high, .int .u64 ((wof high l 64 : Nat) : Int)]) (by simp [results, Tryz.results81, R0.out, R1.out, go_sem]) rfl ⟨rfl, HB.out⟩


set_option maxHeartbeats 4000000 in
theorem takenBy_any (h : Int) (b : Nat) (id : Int) (w : World) (hb : b < 18446744073709551616) :
    Calls Tryz.prog 48 #[.agg #[.int .i64 h, .int .u64 (b : Int)], .int .i64 id] w fun e w' => TakePost w h b id e w' := by
  have HJ : Hid (∀ W, Calls Tryz.prog 79 #[.agg #[.int .i64 h, .int .u64 (b : Int)], .int .i64 id] W fun e w' => JudgePost W h b id e w') := fun W => judged_any h b id W hb
  have hX := Bxs.new w h b
  have c0 := hX.inn.cell 0
  have c1 := hX.inn.cell 1
  have HX : Hid (Bxs w ((w.alloc (.cells #[.int .i64 h, .int .u64 (b : Int)] 38)).alloc (.cells #[.int .i64 0, .int .u64 0] 38)) h b) := hX
  clear hX
  go_enter Tryz.func48, Tryz.ntmps48
  go_wp2_with fail
  refine (HJ.out _).mono ?_
  rintro e w1 ⟨c, rfl, hj, hb1⟩
  have HX1 : Hid (Bxs w w1 h b) := HX.out.next hb1
  have HJI : Hid (JudgeIs h b id c) := hj
  clear hb1 hj c0 c1 HX HJ
  have d0 := HX1.out.inn.cell 0
  have d1 := HX1.out.inn.cell 1
  by_cases hc : c = 0
  · subst hc
    have hin : May h b ∧ (1 ≤ id ∧ id ≤ 1048575) ∧ ¬ id ≤ h - 64 ∧ id ∉ mem h b 64 := by
      rcases HJI.out with ⟨_, h⟩ | ⟨_, _, h⟩ | ⟨_, _, _, h⟩ | ⟨_, _, _, _, h⟩ | ⟨a1, a2, a3, a4, _⟩
      · exact absurd h (by decide)
      · exact absurd h (by decide)
      · exact absurd h (by decide)
      · exact absurd h (by decide)
      · exact ⟨a1, a2, a3, a4⟩
    obtain ⟨hm, ⟨i1, i2⟩, _, hnm⟩ := hin
    obtain ⟨l1, l2⟩ := may_low hm
    have HND : Hid ((mem h b 64 ++ [id]).Nodup) := took_nodup hnm
    have HTK : Hid (took h b id = wof (max h id) (mem h b 64 ++ [id]) 64) := rfl
    have HLN : Hid ((mem h b 64).length ≤ 64) := mem_len h b 64
    have HME : Hid (∀ W, Calls Tryz.prog 80 #[.agg #[.int .i64 h, .int .u64 (b : Int)]] W fun e w' => GaveI W (mem h b 64) e w') := fun W => members_any h b W hb l1 l2
    have HWO0 : Hid (∀ W a n cap, RowN W a n (mem h b 64 ++ [id]) → n ≤ 1000 → Calls Tryz.prog 81 #[.int .i64 (max h id), .slice a n cap] W fun e w' => GaveW W (max h id) (took h b id) e w') := fun W a n cap hr hn => windowOf_any (max h id) a n cap _ W hr HND.out hn (by omega) (by omega)
    clear hm hnm hb
    generalize mem h b 64 = l at *
    by_cases hgt : h < id
    · have hmx : max h id = id := by omega
      clear i1 i2 l1 l2
      have HWO : Hid (∀ W a n cap, RowN W a n (l ++ [id]) → n ≤ 1000 → Calls Tryz.prog 81 #[.int .i64 id, .slice a n cap] W fun e w' => GaveW W id (took h b id) e w') := by have := HWO0.out; rw [hmx] at this; exact this
      have HMX : Hid (max h id = id) := hmx
      clear HWO0 hmx
      go_wp2_with fail
      refine (HME.out _).mono ?_
      rintro e w2 ⟨v, rfl, hv, hb2⟩
      have HX2 : Hid (Bxs w w2 h b) := HX1.out.next hb2
      have HG : Hid ((w2.alloc (.cells #[.int .i64 id] 3)).cell? ⟨w2.heap.size, 0, none⟩ = some (.int .i64 id)) := num_cell w2 _
      have HOA : Hid (Iw (w2.alloc (.cells #[.int .i64 id] 3)) w1.heap.size v l) := hv.alloc _
      have HSZ : Hid (w1.heap.size ≤ (w2.alloc (.cells #[.int .i64 id] 3)).heap.size) := ialloc_le hb2.size _
      have HB2 : Hid (Below w1.heap.size w1 (w2.alloc (.cells #[.int .i64 id] 3))) := hb2.alloc hb2.size _
      clear hv hb2 d0 d1
      go_wp2_with (first
        | (at_builtin; refine wp_num rfl _ _ rfl w1.heap.size w2.heap.size _ l id rfl rfl HOA.out HG.out (by have := HLN.out; omega) HSZ.out ?_)
        | go_in)
      intro v' w4 hL4 hg4
      have hb4 : Below w1.heap.size w1 w4 := iown_bel HOA.out hg4 HB2.out (Nat.le_refl _) HSZ.out
      have HX4 : Hid (Bxs w w4 h b) := HX1.out.next hb4
      obtain ⟨a, cap, rfl, hr, _, _⟩ := hL4.row
      obtain ⟨n, hn⟩ : ∃ n, (l ++ [id]).length = n := ⟨_, rfl⟩
      have hn2 : n ≤ 1000 := by rw [← hn, List.length_append]; have := HLN.out; simp; omega
      rw [hn] at hr ⊢
      have HRR : Hid (RowN w4 a n (l ++ [id]) ∧ n ≤ 1000) := ⟨hr, hn2⟩
      clear hL4 hg4 hb4 hr hn hn2 HOA HB2 HG HSZ HX2
      go_wp2_with fail
      refine (HWO.out _ _ _ _ HRR.out.1 HRR.out.2).mono ?_
      rintro e w5 ⟨rfl, hb5⟩
      have HX5 : Hid (Bxs w w5 h b) := HX4.out.next hb5
      have z0 := HX5.out.out.cell 0
      have z1 := HX5.out.out.cell 1
      have y0 := HX5.out.out.free 0
      have y1 := HX5.out.out.free 1
      have HXX := (HX5.out.out.set 0 (.int .i64 id)).set 1 (.int .u64 ((took h b id : Nat) : Int))
      have R0 : Hid (_ = _) := HXX.cell 0
      have R1 : Hid (_ = _) := HXX.cell 1
      have HB : Hid (Below w.heap.size w ((w5.setCell ⟨w.heap.size + 1, 0, none⟩ (.int .i64 id)).setCell ⟨w.heap.size + 1, 1, none⟩ (.int .u64 ((took h b id : Nat) : Int)))) := bel_set (bel_set HX5.out.bel _ _ _ (Nat.le_succ _)) _ _ _ (Nat.le_succ _)
      clear HXX hb5 HX4 HX5 HRR
      go_wp2_with fail
      exact bodyPost_ret (v := .tuple #[.agg #[.int .i64 id, .int .u64 ((took h b id : Nat) : Int)], .int .i64 0]) (by simp [results, Tryz.results48, R0.out, R1.out, go_sem]) rfl ⟨id, took h b id, 0, rfl, HJI.out, fun h => absurd rfl h, fun _ => ⟨HMX.out.symm, rfl⟩, HB.out⟩
    · have hmx : max h id = h := by omega
      clear i1 i2 l1 l2
      have HWO : Hid (∀ W a n cap, RowN W a n (l ++ [id]) → n ≤ 1000 → Calls Tryz.prog 81 #[.int .i64 h, .slice a n cap] W fun e w' => GaveW W h (took h b id) e w') := by have := HWO0.out; rw [hmx] at this; exact this
      have HMX : Hid (max h id = h) := hmx
      clear HWO0 hmx
      go_wp2_with fail
      refine (HME.out _).mono ?_
      rintro e w2 ⟨v, rfl, hv, hb2⟩
      have HX2 : Hid (Bxs w w2 h b) := HX1.out.next hb2
      have HG : Hid ((w2.alloc (.cells #[.int .i64 id] 3)).cell? ⟨w2.heap.size, 0, none⟩ = some (.int .i64 id)) := num_cell w2 _
      have HOA : Hid (Iw (w2.alloc (.cells #[.int .i64 id] 3)) w1.heap.size v l) := hv.alloc _
      have HSZ : Hid (w1.heap.size ≤ (w2.alloc (.cells #[.int .i64 id] 3)).heap.size) := ialloc_le hb2.size _
      have HB2 : Hid (Below w1.heap.size w1 (w2.alloc (.cells #[.int .i64 id] 3))) := hb2.alloc hb2.size _
      clear hv hb2 d0 d1
      go_wp2_with (first
        | (at_builtin; refine wp_num rfl _ _ rfl w1.heap.size w2.heap.size _ l id rfl rfl HOA.out HG.out (by have := HLN.out; omega) HSZ.out ?_)
        | go_in)
      intro v' w4 hL4 hg4
      have hb4 : Below w1.heap.size w1 w4 := iown_bel HOA.out hg4 HB2.out (Nat.le_refl _) HSZ.out
      have HX4 : Hid (Bxs w w4 h b) := HX1.out.next hb4
      obtain ⟨a, cap, rfl, hr, _, _⟩ := hL4.row
      obtain ⟨n, hn⟩ : ∃ n, (l ++ [id]).length = n := ⟨_, rfl⟩
      have hn2 : n ≤ 1000 := by rw [← hn, List.length_append]; have := HLN.out; simp; omega
      rw [hn] at hr ⊢
      have HRR : Hid (RowN w4 a n (l ++ [id]) ∧ n ≤ 1000) := ⟨hr, hn2⟩
      clear hL4 hg4 hb4 hr hn hn2 HOA HB2 HG HSZ HX2
      go_wp2_with fail
      refine (HWO.out _ _ _ _ HRR.out.1 HRR.out.2).mono ?_
      rintro e w5 ⟨rfl, hb5⟩
      have HX5 : Hid (Bxs w w5 h b) := HX4.out.next hb5
      have z0 := HX5.out.out.cell 0
      have z1 := HX5.out.out.cell 1
      have y0 := HX5.out.out.free 0
      have y1 := HX5.out.out.free 1
      have HXX := (HX5.out.out.set 0 (.int .i64 h)).set 1 (.int .u64 ((took h b id : Nat) : Int))
      have R0 : Hid (_ = _) := HXX.cell 0
      have R1 : Hid (_ = _) := HXX.cell 1
      have HB : Hid (Below w.heap.size w ((w5.setCell ⟨w.heap.size + 1, 0, none⟩ (.int .i64 h)).setCell ⟨w.heap.size + 1, 1, none⟩ (.int .u64 ((took h b id : Nat) : Int)))) := bel_set (bel_set HX5.out.bel _ _ _ (Nat.le_succ _)) _ _ _ (Nat.le_succ _)
      clear HXX hb5 HX4 HX5 HRR
      go_wp2_with fail
      exact bodyPost_ret (v := .tuple #[.agg #[.int .i64 h, .int .u64 ((took h b id : Nat) : Int)], .int .i64 0]) (by simp [results, Tryz.results48, R0.out, R1.out, go_sem]) rfl ⟨h, took h b id, 0, rfl, HJI.out, fun h => absurd rfl h, fun _ => ⟨HMX.out.symm, rfl⟩, HB.out⟩
  · have HNZ : Hid (c ≠ 0) := hc
    have hq : (c != 0) = true := by simp [hc]
    have z0 := HX1.out.out.cell 0
    have z1 := HX1.out.out.cell 1
    have y0 := HX1.out.out.free 0
    have y1 := HX1.out.out.free 1
    have HXX := (HX1.out.out.set 0 (.int .i64 0)).set 1 (.int .u64 0)
    have R0 : Hid (_ = _) := HXX.cell 0
    have R1 : Hid (_ = _) := HXX.cell 1
    have HB : Hid (Below w.heap.size w ((w1.setCell ⟨w.heap.size + 1, 0, none⟩ (.int .i64 0)).setCell ⟨w.heap.size + 1, 1, none⟩ (.int .u64 0))) := bel_set (bel_set HX1.out.bel _ _ _ (Nat.le_succ _)) _ _ _ (Nat.le_succ _)
    clear HXX HX1 hc
    go_wp2_with fail
    exact bodyPost_ret (v := .tuple #[.agg #[.int .i64 0, .int .u64 0], .int .i64 c]) (by simp [results, Tryz.results48, R0.out, R1.out, go_sem]) rfl ⟨0, 0, c, rfl, HJI.out, fun _ => ⟨rfl, rfl⟩, fun h => absurd h HNZ.out, HB.out⟩

end Go.Proofs.YtgipkpkjoicehaaGreatDoor.win

/- Meters: the document's keying of a token. -/
namespace Go.Proofs.YtgipkpkjoicehaaGreatDoor.met
open Go.RowKit Go.Proofs.YtgipkpkjoicehaaGreatDoor.ora Go.Proofs.YtgipkpkjoicehaaGreatDoor.token
set_option maxRecDepth 100000
set_option linter.unusedVariables false

/-- The boxes. -/
structure Bk (w wr : World) (m : Mt) (a : Option Addr) (n cap : Nat) (l : List Pr) (c i am t : Int) : Prop where
  bm : Bm w wr m a n cap l
  tok : Blk wr (w.heap.size + 2) #[.int .i64 c, .int .i64 i, .int .i64 am, .int .i64 t] 44
  out : Blk wr (w.heap.size + 3) #[.int .i64 0, .int .i64 0, .int .i64 0, .int .i64 0, .int .u64 0, .int .i64 0, .int .i64 0] 40
theorem Bk.next {w wr w' : World} {m : Mt} {a : Option Addr} {n cap : Nat} {l : List Pr} {c i am t : Int} (h : Bk w wr m a n cap l c i am t) (hb : Below wr.heap.size wr w') : Bk w w' m a n cap l c i am t := ⟨h.bm.next hb, h.tok.next hb, h.out.next hb⟩
theorem Bk.alloc {w wr : World} {m : Mt} {a : Option Addr} {n cap : Nat} {l : List Pr} {c i am t : Int} (h : Bk w wr m a n cap l c i am t) (o : Obj) : Bk w (wr.alloc o) m a n cap l c i am t := h.next ((Below.refl _ _).alloc (Nat.le_refl _) _)
theorem Blk.new3' (w : World) (o p q : Obj) (cs : Array Value) (t : TypeId) : Blk ((((w.alloc o).alloc p).alloc q).alloc (.cells cs t)) (w.heap.size + 3) cs t := Blk.new3 w o p q cs t
theorem Bk.new {w : World} {m : Mt} {a : Option Addr} {n cap : Nat} {l : List Pr} {c i am t : Int} (h : RowP w a n l) : Bk w ((((w.alloc (.cells m.cells 40)).alloc (.cells #[.slice a n cap] 25)).alloc (.cells #[.int .i64 c, .int .i64 i, .int .i64 am, .int .i64 t] 44)).alloc (.cells #[.int .i64 0, .int .i64 0, .int .i64 0, .int .i64 0, .int .u64 0, .int .i64 0, .int .i64 0] 40)) m a n cap l c i am t :=
  ⟨((Bm.new h).alloc _).alloc _, (Blk.new2 w _ _ _ _).alloc _, Blk.new3' w _ _ _ _ _⟩

set_option maxHeartbeats 8000000 in
theorem keyed_any (m : Mt) (a : Option Addr) (n cap : Nat) (l : List Pr) (c i am t : Int) (w : World) (hr : RowP w a n l) (hb : m.b < 18446744073709551616) :
    Calls Tryz.prog 18 #[m.v, .agg #[.slice a n cap], .agg #[.int .i64 c, .int .i64 i, .int .i64 am, .int .i64 t]] w fun e w' => KeyPost w m l c i am t e w' := by
  have HB0 := Bk.new (m := m) (cap := cap) (c := c) (i := i) (am := am) (t := t) hr
  have HL : Hid (l.length = n) := hr.1
  have HMM : Hid (∀ W, Calls Tryz.prog 45 #[m.v] W fun e w' => Told W m.may e w') := fun W => mmay_any m W hb
  have HOM : Hid (∀ W, RowP W a n l → Calls Tryz.prog 17 #[.agg #[.slice a n cap]] W fun e w' => ora.Told W (May l) e w') := fun W h => omay_any a n cap l W h
  have HSL : Hid (∀ W bo, RowP W a n l → n ≤ 500 → Calls Tryz.prog 47 #[m.v, .agg #[.slice a n cap], .int .i64 bo, .int .i64 t] W fun e w' => SellPost W l m.me m.rev bo t e w') := fun W bo h hn => sellKey_any m a n cap l bo t W h hn
  have HTK : Hid (∀ W, Calls Tryz.prog 48 #[.agg #[.int .i64 m.h, .int .u64 (m.b : Int)], .int .i64 i] W fun e w' => win.TakePost W m.h m.b i e w') := fun W => win.takenBy_any m.h m.b i W hb
  clear hr
  obtain ⟨me, rev, cr, h, b, bad, lock⟩ := m
  unfold Mt.v at *
  unfold Mt.cells at *
  simp only [] at HB0 HMM HSL HTK ⊢
  have HI : Hid (Bk w ((((w.alloc (.cells #[.int .i64 me, .int .i64 rev, .int .i64 cr, .int .i64 h, .int .u64 (b : Int), .int .i64 bad, .int .i64 lock] 40)).alloc (.cells #[.slice a n cap] 25)).alloc (.cells #[.int .i64 c, .int .i64 i, .int .i64 am, .int .i64 t] 44)).alloc (.cells #[.int .i64 0, .int .i64 0, .int .i64 0, .int .i64 0, .int .u64 0, .int .i64 0, .int .i64 0] 40)) ⟨me, rev, cr, h, b, bad, lock⟩ a n cap l c i am t) := HB0
  clear HB0
  have c0 : ((((w.alloc (.cells #[.int .i64 me, .int .i64 rev, .int .i64 cr, .int .i64 h, .int .u64 (b : Int), .int .i64 bad, .int .i64 lock] 40)).alloc (.cells #[.slice a n cap] 25)).alloc (.cells #[.int .i64 c, .int .i64 i, .int .i64 am, .int .i64 t] 44)).alloc (.cells #[.int .i64 0, .int .i64 0, .int .i64 0, .int .i64 0, .int .u64 0, .int .i64 0, .int .i64 0] 40)).cell? ⟨w.heap.size, 0, none⟩ = some (.int .i64 me) := HI.out.bm.met.cell 0
  have c1 : ((((w.alloc (.cells #[.int .i64 me, .int .i64 rev, .int .i64 cr, .int .i64 h, .int .u64 (b : Int), .int .i64 bad, .int .i64 lock] 40)).alloc (.cells #[.slice a n cap] 25)).alloc (.cells #[.int .i64 c, .int .i64 i, .int .i64 am, .int .i64 t] 44)).alloc (.cells #[.int .i64 0, .int .i64 0, .int .i64 0, .int .i64 0, .int .u64 0, .int .i64 0, .int .i64 0] 40)).cell? ⟨w.heap.size, 1, none⟩ = some (.int .i64 rev) := HI.out.bm.met.cell 1
  have c2 : ((((w.alloc (.cells #[.int .i64 me, .int .i64 rev, .int .i64 cr, .int .i64 h, .int .u64 (b : Int), .int .i64 bad, .int .i64 lock] 40)).alloc (.cells #[.slice a n cap] 25)).alloc (.cells #[.int .i64 c, .int .i64 i, .int .i64 am, .int .i64 t] 44)).alloc (.cells #[.int .i64 0, .int .i64 0, .int .i64 0, .int .i64 0, .int .u64 0, .int .i64 0, .int .i64 0] 40)).cell? ⟨w.heap.size, 2, none⟩ = some (.int .i64 cr) := HI.out.bm.met.cell 2
  have c3 : ((((w.alloc (.cells #[.int .i64 me, .int .i64 rev, .int .i64 cr, .int .i64 h, .int .u64 (b : Int), .int .i64 bad, .int .i64 lock] 40)).alloc (.cells #[.slice a n cap] 25)).alloc (.cells #[.int .i64 c, .int .i64 i, .int .i64 am, .int .i64 t] 44)).alloc (.cells #[.int .i64 0, .int .i64 0, .int .i64 0, .int .i64 0, .int .u64 0, .int .i64 0, .int .i64 0] 40)).cell? ⟨w.heap.size, 3, none⟩ = some (.int .i64 h) := HI.out.bm.met.cell 3
  have c4 : ((((w.alloc (.cells #[.int .i64 me, .int .i64 rev, .int .i64 cr, .int .i64 h, .int .u64 (b : Int), .int .i64 bad, .int .i64 lock] 40)).alloc (.cells #[.slice a n cap] 25)).alloc (.cells #[.int .i64 c, .int .i64 i, .int .i64 am, .int .i64 t] 44)).alloc (.cells #[.int .i64 0, .int .i64 0, .int .i64 0, .int .i64 0, .int .u64 0, .int .i64 0, .int .i64 0] 40)).cell? ⟨w.heap.size, 4, none⟩ = some (.int .u64 (b : Int)) := HI.out.bm.met.cell 4
  have c5 : ((((w.alloc (.cells #[.int .i64 me, .int .i64 rev, .int .i64 cr, .int .i64 h, .int .u64 (b : Int), .int .i64 bad, .int .i64 lock] 40)).alloc (.cells #[.slice a n cap] 25)).alloc (.cells #[.int .i64 c, .int .i64 i, .int .i64 am, .int .i64 t] 44)).alloc (.cells #[.int .i64 0, .int .i64 0, .int .i64 0, .int .i64 0, .int .u64 0, .int .i64 0, .int .i64 0] 40)).cell? ⟨w.heap.size, 5, none⟩ = some (.int .i64 bad) := HI.out.bm.met.cell 5
  have c6 : ((((w.alloc (.cells #[.int .i64 me, .int .i64 rev, .int .i64 cr, .int .i64 h, .int .u64 (b : Int), .int .i64 bad, .int .i64 lock] 40)).alloc (.cells #[.slice a n cap] 25)).alloc (.cells #[.int .i64 c, .int .i64 i, .int .i64 am, .int .i64 t] 44)).alloc (.cells #[.int .i64 0, .int .i64 0, .int .i64 0, .int .i64 0, .int .u64 0, .int .i64 0, .int .i64 0] 40)).cell? ⟨w.heap.size, 6, none⟩ = some (.int .i64 lock) := HI.out.bm.met.cell 6
  have o0 := HI.out.bm.ora.cell 0
  have t0 := HI.out.tok.cell 0
  have t1 := HI.out.tok.cell 1
  have t2 := HI.out.tok.cell 2
  have t3 := HI.out.tok.cell 3
  go_enter Tryz.func18, Tryz.ntmps18
  go_wp2_with fail
  refine (HMM.out _).mono ?_
  rintro e w1 ⟨r1, rfl, hr1, hb1⟩
  have HI1 : Hid (Bk w w1 ⟨me, rev, cr, h, b, bad, lock⟩ a n cap l c i am t) := HI.out.next hb1
  clear hb1 c0 c1 c2 c3 c4 c5 c6 o0 t0 t1 t2 t3 HI
  cases r1 with
  | false =>
    have HOU : Hid (Blk w1 (w.heap.size + 3) #[.int .i64 0, .int .i64 0, .int .i64 0, .int .i64 0, .int .u64 0, .int .i64 0, .int .i64 0] 40) := HI1.out.out
    have HBE : Hid (Below w.heap.size w w1) := HI1.out.bm.bel
    have HF : Hid (KeyIs ⟨me, rev, cr, h, b, bad, lock⟩ l c i am t (bodyI c i am) ⟨0, 0, 0, 0, 0, 0, 0⟩ 0 5) := KeyIs.state fun hx => by have := hr1.2 hx.1; cases this
    clear hr1 HI1
    go_wp2_with (first
      | (refine wp_letAll rfl 40 _ _ rfl (w.heap.size + 3) rfl #[.int .i64 0, .int .i64 0, .int .i64 0, .int .i64 0, .int .u64 0, .int .i64 0, .int .i64 0] rfl (by kernel_rfl) (by simp [Value.oneCell']) #[.int .i64 0, .int .i64 0, .int .i64 0, .int .i64 0, .int .u64 0, .int .i64 0, .int .i64 0] 40 HOU.out rfl ?_)
      | go_in)
    intro WF hUF
    have R0 : Hid (WF.cell? ⟨w.heap.size + 3, 0, none⟩ = some (.int .i64 0)) := hUF.blk.cell 0
    have R1 : Hid (WF.cell? ⟨w.heap.size + 3, 1, none⟩ = some (.int .i64 0)) := hUF.blk.cell 1
    have R2 : Hid (WF.cell? ⟨w.heap.size + 3, 2, none⟩ = some (.int .i64 0)) := hUF.blk.cell 2
    have R3 : Hid (WF.cell? ⟨w.heap.size + 3, 3, none⟩ = some (.int .i64 0)) := hUF.blk.cell 3
    have R4 : Hid (WF.cell? ⟨w.heap.size + 3, 4, none⟩ = some (.int .u64 0)) := hUF.blk.cell 4
    have R5 : Hid (WF.cell? ⟨w.heap.size + 3, 5, none⟩ = some (.int .i64 0)) := hUF.blk.cell 5
    have R6 : Hid (WF.cell? ⟨w.heap.size + 3, 6, none⟩ = some (.int .i64 0)) := hUF.blk.cell 6
    have HB : Hid (Below w.heap.size w WF) := hUF.bel _ _ (by omega) HBE.out
    clear hUF HOU HBE
    go_wp2_with fail
    exact bodyPost_ret (v := .tuple #[.agg #[.int .i64 0, .int .i64 0, .int .i64 0, .int .i64 0, .int .u64 0, .int .i64 0, .int .i64 0], .int .i64 0, .int .i64 5]) (by simp [results, Tryz.results18, R0.out, R1.out, R2.out, R3.out, R4.out, R5.out, R6.out, go_sem]) rfl ⟨⟨0, 0, 0, 0, 0, 0, 0⟩, 0, 5, rfl, HF.out, HB.out⟩
  | true =>
    have HMY : Hid (Mt.may ⟨me, rev, cr, h, b, bad, lock⟩) := hr1.1 rfl
    clear hr1
    have c0 : w1.cell? ⟨w.heap.size, 0, none⟩ = some (.int .i64 me) := HI1.out.bm.met.cell 0
    have c1 : w1.cell? ⟨w.heap.size, 1, none⟩ = some (.int .i64 rev) := HI1.out.bm.met.cell 1
    have c2 : w1.cell? ⟨w.heap.size, 2, none⟩ = some (.int .i64 cr) := HI1.out.bm.met.cell 2
    have c3 : w1.cell? ⟨w.heap.size, 3, none⟩ = some (.int .i64 h) := HI1.out.bm.met.cell 3
    have c4 : w1.cell? ⟨w.heap.size, 4, none⟩ = some (.int .u64 (b : Int)) := HI1.out.bm.met.cell 4
    have c5 : w1.cell? ⟨w.heap.size, 5, none⟩ = some (.int .i64 bad) := HI1.out.bm.met.cell 5
    have c6 : w1.cell? ⟨w.heap.size, 6, none⟩ = some (.int .i64 lock) := HI1.out.bm.met.cell 6
    have o0 := HI1.out.bm.ora.cell 0
    have t0 := HI1.out.tok.cell 0
    have t1 := HI1.out.tok.cell 1
    have t2 := HI1.out.tok.cell 2
    have t3 := HI1.out.tok.cell 3
    go_wp2_with fail
    refine (HOM.out _ HI1.out.bm.row).mono ?_
    rintro e w2 ⟨r2, rfl, hr2, hb2⟩
    have HI2 : Hid (Bk w w2 ⟨me, rev, cr, h, b, bad, lock⟩ a n cap l c i am t) := HI1.out.next hb2
    clear hb2 c0 c1 c2 c3 c4 c5 c6 o0 t0 t1 t2 t3 HI1
    cases r2 with
    | false =>
      have HOU : Hid (Blk w2 (w.heap.size + 3) #[.int .i64 0, .int .i64 0, .int .i64 0, .int .i64 0, .int .u64 0, .int .i64 0, .int .i64 0] 40) := HI2.out.out
      have HBE : Hid (Below w.heap.size w w2) := HI2.out.bm.bel
      have HF : Hid (KeyIs ⟨me, rev, cr, h, b, bad, lock⟩ l c i am t (bodyI c i am) ⟨0, 0, 0, 0, 0, 0, 0⟩ 0 5) := KeyIs.state fun hx => by have := hr2.2 hx.2; cases this
      clear hr2 HI2
      go_wp2_with (first
        | (refine wp_letAll rfl 40 _ _ rfl (w.heap.size + 3) rfl #[.int .i64 0, .int .i64 0, .int .i64 0, .int .i64 0, .int .u64 0, .int .i64 0, .int .i64 0] rfl (by kernel_rfl) (by simp [Value.oneCell']) #[.int .i64 0, .int .i64 0, .int .i64 0, .int .i64 0, .int .u64 0, .int .i64 0, .int .i64 0] 40 HOU.out rfl ?_)
        | go_in)
      intro WF hUF
      have R0 : Hid (WF.cell? ⟨w.heap.size + 3, 0, none⟩ = some (.int .i64 0)) := hUF.blk.cell 0
      have R1 : Hid (WF.cell? ⟨w.heap.size + 3, 1, none⟩ = some (.int .i64 0)) := hUF.blk.cell 1
      have R2 : Hid (WF.cell? ⟨w.heap.size + 3, 2, none⟩ = some (.int .i64 0)) := hUF.blk.cell 2
      have R3 : Hid (WF.cell? ⟨w.heap.size + 3, 3, none⟩ = some (.int .i64 0)) := hUF.blk.cell 3
      have R4 : Hid (WF.cell? ⟨w.heap.size + 3, 4, none⟩ = some (.int .u64 0)) := hUF.blk.cell 4
      have R5 : Hid (WF.cell? ⟨w.heap.size + 3, 5, none⟩ = some (.int .i64 0)) := hUF.blk.cell 5
      have R6 : Hid (WF.cell? ⟨w.heap.size + 3, 6, none⟩ = some (.int .i64 0)) := hUF.blk.cell 6
      have HB : Hid (Below w.heap.size w WF) := hUF.bel _ _ (by omega) HBE.out
      clear hUF HOU HBE
      go_wp2_with fail
      exact bodyPost_ret (v := .tuple #[.agg #[.int .i64 0, .int .i64 0, .int .i64 0, .int .i64 0, .int .u64 0, .int .i64 0, .int .i64 0], .int .i64 0, .int .i64 5]) (by simp [results, Tryz.results18, R0.out, R1.out, R2.out, R3.out, R4.out, R5.out, R6.out, go_sem]) rfl ⟨⟨0, 0, 0, 0, 0, 0, 0⟩, 0, 5, rfl, HF.out, HB.out⟩
    | true =>
      have HML : Hid (Mt.may ⟨me, rev, cr, h, b, bad, lock⟩ ∧ May l) := ⟨HMY.out, hr2.1 rfl⟩
      have hn : n ≤ 500 := by rw [← HL.out]; exact HML.out.2.few
      clear hr2 HMY
      have c0 : w2.cell? ⟨w.heap.size, 0, none⟩ = some (.int .i64 me) := HI2.out.bm.met.cell 0
      have c1 : w2.cell? ⟨w.heap.size, 1, none⟩ = some (.int .i64 rev) := HI2.out.bm.met.cell 1
      have c2 : w2.cell? ⟨w.heap.size, 2, none⟩ = some (.int .i64 cr) := HI2.out.bm.met.cell 2
      have c3 : w2.cell? ⟨w.heap.size, 3, none⟩ = some (.int .i64 h) := HI2.out.bm.met.cell 3
      have c4 : w2.cell? ⟨w.heap.size, 4, none⟩ = some (.int .u64 (b : Int)) := HI2.out.bm.met.cell 4
      have c5 : w2.cell? ⟨w.heap.size, 5, none⟩ = some (.int .i64 bad) := HI2.out.bm.met.cell 5
      have c6 : w2.cell? ⟨w.heap.size, 6, none⟩ = some (.int .i64 lock) := HI2.out.bm.met.cell 6
      have o0 := HI2.out.bm.ora.cell 0
      have t0 := HI2.out.tok.cell 0
      have t1 := HI2.out.tok.cell 1
      have t2 := HI2.out.tok.cell 2
      have t3 := HI2.out.tok.cell 3
      by_cases hfl : flawT c i am t = 0
      · obtain ⟨k, hk, hkc, hki, hka, hkt⟩ := flaw_ok hfl
        have HBD : Hid (∀ W, Calls Tryz.prog 46 #[.agg #[.int .i64 c, .int .i64 i, .int .i64 am, .int .i64 t]] W fun e w' => e = .returned (.tuple #[.int .i64 (bodyI c i am), .int .i64 0]) ∧ Below W.heap.size W w') := fun W => by
          have := bodyOf_ok k W hk
          rw [← body_tok] at this
          unfold Tok.v at this
          rw [← hkc, ← hki, ← hka, ← hkt] at this
          exact this
        have HFL : Hid (flawT c i am t = 0) := hfl
        have HTR : Hid (0 ≤ c ∧ c ≤ 3 ∧ 0 ≤ am ∧ am ≤ 2097151 ∧ 1 ≤ i ∧ i ≤ 1048575) := ⟨by omega, by have := hk.c3; omega, by omega, by have := hk.a2; omega, by have := hk.i1; omega, by have := hk.i2; omega⟩
        clear hfl hkc hki hka hkt hk
        generalize hbo : bodyI c i am = bo at *
        have HBO : Hid (bodyI c i am = bo) := hbo
        clear hbo
        go_wp2_with fail
        refine (HBD.out _).mono ?_
        rintro e w3 ⟨rfl, hb3⟩
        have HI3 : Hid (Bk w w3 ⟨me, rev, cr, h, b, bad, lock⟩ a n cap l c i am t) := HI2.out.next hb3
        clear hb3 c0 c1 c2 c3 c4 c5 c6 o0 t0 t1 t2 t3 HI2
        have c0 : w3.cell? ⟨w.heap.size, 0, none⟩ = some (.int .i64 me) := HI3.out.bm.met.cell 0
        have c1 : w3.cell? ⟨w.heap.size, 1, none⟩ = some (.int .i64 rev) := HI3.out.bm.met.cell 1
        have c2 : w3.cell? ⟨w.heap.size, 2, none⟩ = some (.int .i64 cr) := HI3.out.bm.met.cell 2
        have c3 : w3.cell? ⟨w.heap.size, 3, none⟩ = some (.int .i64 h) := HI3.out.bm.met.cell 3
        have c4 : w3.cell? ⟨w.heap.size, 4, none⟩ = some (.int .u64 (b : Int)) := HI3.out.bm.met.cell 4
        have c5 : w3.cell? ⟨w.heap.size, 5, none⟩ = some (.int .i64 bad) := HI3.out.bm.met.cell 5
        have c6 : w3.cell? ⟨w.heap.size, 6, none⟩ = some (.int .i64 lock) := HI3.out.bm.met.cell 6
        have o0 := HI3.out.bm.ora.cell 0
        have t0 := HI3.out.tok.cell 0
        have t1 := HI3.out.tok.cell 1
        have t2 := HI3.out.tok.cell 2
        have t3 := HI3.out.tok.cell 3
        by_cases hlk : 0 < lock
        · have HLK : Hid (¬ lock ≤ 0) := by show ¬ lock ≤ 0; omega
          have q1 : decide (0 < lock) = true := by simp [hlk]
          have HOU : Hid (Blk w3 (w.heap.size + 3) #[.int .i64 0, .int .i64 0, .int .i64 0, .int .i64 0, .int .u64 0, .int .i64 0, .int .i64 0] 40) := HI3.out.out
          have HBE : Hid (Below w.heap.size w w3) := HI3.out.bm.bel
          have HF : Hid (KeyIs ⟨me, rev, cr, h, b, bad, lock⟩ l c i am t (bodyI c i am) ⟨me, rev, cr, h, b, bad, lock⟩ 0 10) := KeyIs.locked HML.out HFL.out HLK.out
          clear HI3
          go_wp2_with (first
            | (refine wp_letAll rfl 40 _ _ rfl (w.heap.size + 3) rfl #[.int .i64 me, .int .i64 rev, .int .i64 cr, .int .i64 h, .int .u64 (b : Int), .int .i64 bad, .int .i64 lock] rfl (by kernel_rfl) (by simp [Value.oneCell']) #[.int .i64 0, .int .i64 0, .int .i64 0, .int .i64 0, .int .u64 0, .int .i64 0, .int .i64 0] 40 HOU.out rfl ?_)
            | go_in)
          intro WF hUF
          have R0 : Hid (WF.cell? ⟨w.heap.size + 3, 0, none⟩ = some (.int .i64 me)) := hUF.blk.cell 0
          have R1 : Hid (WF.cell? ⟨w.heap.size + 3, 1, none⟩ = some (.int .i64 rev)) := hUF.blk.cell 1
          have R2 : Hid (WF.cell? ⟨w.heap.size + 3, 2, none⟩ = some (.int .i64 cr)) := hUF.blk.cell 2
          have R3 : Hid (WF.cell? ⟨w.heap.size + 3, 3, none⟩ = some (.int .i64 h)) := hUF.blk.cell 3
          have R4 : Hid (WF.cell? ⟨w.heap.size + 3, 4, none⟩ = some (.int .u64 (b : Int))) := hUF.blk.cell 4
          have R5 : Hid (WF.cell? ⟨w.heap.size + 3, 5, none⟩ = some (.int .i64 bad)) := hUF.blk.cell 5
          have R6 : Hid (WF.cell? ⟨w.heap.size + 3, 6, none⟩ = some (.int .i64 lock)) := hUF.blk.cell 6
          have HB : Hid (Below w.heap.size w WF) := hUF.bel _ _ (by omega) HBE.out
          clear hUF HOU HBE
          go_wp2_with fail
          exact bodyPost_ret (v := .tuple #[.agg #[.int .i64 me, .int .i64 rev, .int .i64 cr, .int .i64 h, .int .u64 (b : Int), .int .i64 bad, .int .i64 lock], .int .i64 0, .int .i64 10]) (by simp [results, Tryz.results18, R0.out, R1.out, R2.out, R3.out, R4.out, R5.out, R6.out, go_sem]) rfl ⟨⟨me, rev, cr, h, b, bad, lock⟩, 0, 10, rfl, HF.out, HB.out⟩
        · have HLK : Hid (lock ≤ 0) := by show lock ≤ 0; omega
          have q1 : decide (0 < lock) = false := by simp; omega
          by_cases hc3 : c = 3
          · have q2 : (c == 3) = true := by simp [hc3]
            have HC3 : Hid (¬ (c ≠ 3)) := fun h => h hc3
            clear hc3
            have HOU : Hid (Blk w3 (w.heap.size + 3) #[.int .i64 0, .int .i64 0, .int .i64 0, .int .i64 0, .int .u64 0, .int .i64 0, .int .i64 0] 40) := HI3.out.out
            have HBE : Hid (Below w.heap.size w w3) := HI3.out.bm.bel
            have HF : Hid (KeyIs ⟨me, rev, cr, h, b, bad, lock⟩ l c i am t (bodyI c i am) ⟨me, rev, cr, h, b, bad, lock⟩ 0 0) := KeyIs.test HML.out HFL.out HLK.out HC3.out
            clear HI3
            go_wp2_with (first
              | (refine wp_letAll rfl 40 _ _ rfl (w.heap.size + 3) rfl #[.int .i64 me, .int .i64 rev, .int .i64 cr, .int .i64 h, .int .u64 (b : Int), .int .i64 bad, .int .i64 lock] rfl (by kernel_rfl) (by simp [Value.oneCell']) #[.int .i64 0, .int .i64 0, .int .i64 0, .int .i64 0, .int .u64 0, .int .i64 0, .int .i64 0] 40 HOU.out rfl ?_)
              | go_in)
            intro WF hUF
            have R0 : Hid (WF.cell? ⟨w.heap.size + 3, 0, none⟩ = some (.int .i64 me)) := hUF.blk.cell 0
            have R1 : Hid (WF.cell? ⟨w.heap.size + 3, 1, none⟩ = some (.int .i64 rev)) := hUF.blk.cell 1
            have R2 : Hid (WF.cell? ⟨w.heap.size + 3, 2, none⟩ = some (.int .i64 cr)) := hUF.blk.cell 2
            have R3 : Hid (WF.cell? ⟨w.heap.size + 3, 3, none⟩ = some (.int .i64 h)) := hUF.blk.cell 3
            have R4 : Hid (WF.cell? ⟨w.heap.size + 3, 4, none⟩ = some (.int .u64 (b : Int))) := hUF.blk.cell 4
            have R5 : Hid (WF.cell? ⟨w.heap.size + 3, 5, none⟩ = some (.int .i64 bad)) := hUF.blk.cell 5
            have R6 : Hid (WF.cell? ⟨w.heap.size + 3, 6, none⟩ = some (.int .i64 lock)) := hUF.blk.cell 6
            have HB : Hid (Below w.heap.size w WF) := hUF.bel _ _ (by omega) HBE.out
            clear hUF HOU HBE
            go_wp2_with fail
            exact bodyPost_ret (v := .tuple #[.agg #[.int .i64 me, .int .i64 rev, .int .i64 cr, .int .i64 h, .int .u64 (b : Int), .int .i64 bad, .int .i64 lock], .int .i64 0, .int .i64 0]) (by simp [results, Tryz.results18, R0.out, R1.out, R2.out, R3.out, R4.out, R5.out, R6.out, go_sem]) rfl ⟨⟨me, rev, cr, h, b, bad, lock⟩, 0, 0, rfl, HF.out, HB.out⟩
          · have q2 : (c == 3) = false := by simp [hc3]
            have HC3 : Hid (c ≠ 3) := hc3
            have HS3 : Hid (Calls Tryz.prog 47 #[.agg #[.int .i64 me, .int .i64 rev, .int .i64 cr, .int .i64 h, .int .u64 (b : Int), .int .i64 bad, .int .i64 lock], .agg #[.slice a n cap], .int .i64 bo, .int .i64 t] w3 fun e w' => SellPost w3 l me rev bo t e w') := HSL.out w3 bo HI3.out.bm.row hn
            clear hc3
            go_wp2_with fail
            refine HS3.out.mono ?_
            rintro e w4 ⟨hb4, r, rfl, hsell⟩
            have HI4 : Hid (Bk w w4 ⟨me, rev, cr, h, b, bad, lock⟩ a n cap l c i am t) := HI3.out.next hb4
            clear hb4 c0 c1 c2 c3 c4 c5 c6 o0 t0 t1 t2 t3 HI3 HS3
            have c0 : w4.cell? ⟨w.heap.size, 0, none⟩ = some (.int .i64 me) := HI4.out.bm.met.cell 0
            have c1 : w4.cell? ⟨w.heap.size, 1, none⟩ = some (.int .i64 rev) := HI4.out.bm.met.cell 1
            have c2 : w4.cell? ⟨w.heap.size, 2, none⟩ = some (.int .i64 cr) := HI4.out.bm.met.cell 2
            have c3 : w4.cell? ⟨w.heap.size, 3, none⟩ = some (.int .i64 h) := HI4.out.bm.met.cell 3
            have c4 : w4.cell? ⟨w.heap.size, 4, none⟩ = some (.int .u64 (b : Int)) := HI4.out.bm.met.cell 4
            have c5 : w4.cell? ⟨w.heap.size, 5, none⟩ = some (.int .i64 bad) := HI4.out.bm.met.cell 5
            have c6 : w4.cell? ⟨w.heap.size, 6, none⟩ = some (.int .i64 lock) := HI4.out.bm.met.cell 6
            have o0 := HI4.out.bm.ora.cell 0
            have t0 := HI4.out.tok.cell 0
            have t1 := HI4.out.tok.cell 1
            have t2 := HI4.out.tok.cell 2
            have t3 := HI4.out.tok.cell 3
            rw [← HBO.out] at hsell
            rcases hsell with ⟨rfl, hhe⟩ | ⟨rfl, hhe, hea⟩ | ⟨rfl, hhe, hea⟩
            · have HHE : Hid (Here l me rev (bodyI c i am) t) := hhe
              clear hhe
              have HI5 : Hid (Bk w (w4.alloc (.cells #[.int .i64 me, .int .i64 rev, .int .i64 cr, .int .i64 h, .int .u64 (b : Int), .int .i64 bad, .int .i64 lock] 40)) ⟨me, rev, cr, h, b, bad, lock⟩ a n cap l c i am t) := HI4.out.alloc _
              have HG5 : Hid (Blk (w4.alloc (.cells #[.int .i64 me, .int .i64 rev, .int .i64 cr, .int .i64 h, .int .u64 (b : Int), .int .i64 bad, .int .i64 lock] 40)) w4.heap.size #[.int .i64 me, .int .i64 rev, .int .i64 cr, .int .i64 h, .int .u64 (b : Int), .int .i64 bad, .int .i64 lock] 40) := Blk.new _ _ _
              have HLT : Hid (w.heap.size + 4 ≤ w4.heap.size) := HI4.out.out.lt
              have HT5 : Hid (Calls Tryz.prog 48 #[.agg #[.int .i64 h, .int .u64 (b : Int)], .int .i64 i] (w4.alloc (.cells #[.int .i64 me, .int .i64 rev, .int .i64 cr, .int .i64 h, .int .u64 (b : Int), .int .i64 bad, .int .i64 lock] 40)) fun e w' => win.TakePost (w4.alloc (.cells #[.int .i64 me, .int .i64 rev, .int .i64 cr, .int .i64 h, .int .u64 (b : Int), .int .i64 bad, .int .i64 lock] 40)) h b i e w') := HTK.out _
              have d3 : (w4.alloc (.cells #[.int .i64 me, .int .i64 rev, .int .i64 cr, .int .i64 h, .int .u64 (b : Int), .int .i64 bad, .int .i64 lock] 40)).cell? ⟨w.heap.size, 3, none⟩ = some (.int .i64 h) := HI5.out.bm.met.cell 3
              have d4 : (w4.alloc (.cells #[.int .i64 me, .int .i64 rev, .int .i64 cr, .int .i64 h, .int .u64 (b : Int), .int .i64 bad, .int .i64 lock] 40)).cell? ⟨w.heap.size, 4, none⟩ = some (.int .u64 (b : Int)) := HI5.out.bm.met.cell 4
              have e1 : (w4.alloc (.cells #[.int .i64 me, .int .i64 rev, .int .i64 cr, .int .i64 h, .int .u64 (b : Int), .int .i64 bad, .int .i64 lock] 40)).cell? ⟨w.heap.size + 2, 1, none⟩ = some (.int .i64 i) := HI5.out.tok.cell 1
              go_wp2_with fail
              refine HT5.out.mono ?_
              rintro e w6 ⟨h1, b1, f, rfl, hj, hne, heq, hb6⟩
              have HI6 : Hid (Bk w (w6.alloc (.cells #[.int .i64 h1, .int .u64 (b1 : Int)] 38)) ⟨me, rev, cr, h, b, bad, lock⟩ a n cap l c i am t) := (HI5.out.next hb6).alloc _
              have HG6 : Hid (Blk (w6.alloc (.cells #[.int .i64 h1, .int .u64 (b1 : Int)] 38)) w4.heap.size #[.int .i64 me, .int .i64 rev, .int .i64 cr, .int .i64 h, .int .u64 (b : Int), .int .i64 bad, .int .i64 lock] 40) := (HG5.out.next hb6).alloc _
              have HW6 : Hid (Blk (w6.alloc (.cells #[.int .i64 h1, .int .u64 (b1 : Int)] 38)) w6.heap.size #[.int .i64 h1, .int .u64 (b1 : Int)] 38) := Blk.new _ _ _
              have HJ6 : Hid (win.JudgeIs h b i f ∧ (f = 0 → h1 = max h i ∧ b1 = win.took h b i)) := ⟨hj, heq⟩
              clear hj hne heq hb6 d3 d4 e1 c0 c1 c2 c3 c4 c5 c6 o0 t0 t1 t2 t3 HI4 HI5 HG5 HT5
              generalize w4.heap.size = g12 at *
              have c0 : (w6.alloc (.cells #[.int .i64 h1, .int .u64 (b1 : Int)] 38)).cell? ⟨w.heap.size, 0, none⟩ = some (.int .i64 me) := HI6.out.bm.met.cell 0
              have c1 : (w6.alloc (.cells #[.int .i64 h1, .int .u64 (b1 : Int)] 38)).cell? ⟨w.heap.size, 1, none⟩ = some (.int .i64 rev) := HI6.out.bm.met.cell 1
              have c2 : (w6.alloc (.cells #[.int .i64 h1, .int .u64 (b1 : Int)] 38)).cell? ⟨w.heap.size, 2, none⟩ = some (.int .i64 cr) := HI6.out.bm.met.cell 2
              have c3 : (w6.alloc (.cells #[.int .i64 h1, .int .u64 (b1 : Int)] 38)).cell? ⟨w.heap.size, 3, none⟩ = some (.int .i64 h) := HI6.out.bm.met.cell 3
              have c4 : (w6.alloc (.cells #[.int .i64 h1, .int .u64 (b1 : Int)] 38)).cell? ⟨w.heap.size, 4, none⟩ = some (.int .u64 (b : Int)) := HI6.out.bm.met.cell 4
              have c5 : (w6.alloc (.cells #[.int .i64 h1, .int .u64 (b1 : Int)] 38)).cell? ⟨w.heap.size, 5, none⟩ = some (.int .i64 bad) := HI6.out.bm.met.cell 5
              have c6 : (w6.alloc (.cells #[.int .i64 h1, .int .u64 (b1 : Int)] 38)).cell? ⟨w.heap.size, 6, none⟩ = some (.int .i64 lock) := HI6.out.bm.met.cell 6
              have o0 := HI6.out.bm.ora.cell 0
              have t0 := HI6.out.tok.cell 0
              have t1 := HI6.out.tok.cell 1
              have t2 := HI6.out.tok.cell 2
              have t3 := HI6.out.tok.cell 3
              by_cases hf : f = 0
              · subst hf
                have HJ0 : Hid (win.JudgeIs h b i 0) := HJ6.out.1
                obtain ⟨hh1, hb1⟩ := HJ6.out.2 rfl
                have HHB : Hid (max h i = h1 ∧ win.took h b i = b1) := ⟨hh1.symm, hb1.symm⟩
                have hcr := HML.out.1.cr
                simp only [] at hcr
                obtain ⟨cr0, cr1⟩ := hcr
                obtain ⟨tr1, tr2, tr3, tr4, _, _⟩ := HTR.out
                clear hh1 hb1 HJ6
                by_cases hfu : c = 0 ∧ 99999999 - cr < am
                · have s1 : (c == 0) = true := by simp [hfu.1]
                  have s2 : decide (99999999 - cr < am) = true := by simp; omega
                  have HFU : Hid (¬ ¬ (c = 0 ∧ 99999999 - cr < am)) := fun h => h hfu
                  clear hfu
                  have HOU : Hid (Blk (w6.alloc (.cells #[.int .i64 h1, .int .u64 (b1 : Int)] 38)) (w.heap.size + 3) #[.int .i64 0, .int .i64 0, .int .i64 0, .int .i64 0, .int .u64 0, .int .i64 0, .int .i64 0] 40) := HI6.out.out
                  have HBE : Hid (Below w.heap.size w (w6.alloc (.cells #[.int .i64 h1, .int .u64 (b1 : Int)] 38))) := HI6.out.bm.bel
                  have HF : Hid (KeyIs ⟨me, rev, cr, h, b, bad, lock⟩ l c i am t (bodyI c i am) ⟨me, rev, cr, h, b, bad, lock⟩ 0 15) := KeyIs.full HML.out HFL.out HLK.out HC3.out HHE.out HJ0.out HFU.out
                  clear HI6
                  go_wp2_with (first
                    | (refine wp_letAll rfl 40 _ _ rfl (w.heap.size + 3) rfl #[.int .i64 me, .int .i64 rev, .int .i64 cr, .int .i64 h, .int .u64 (b : Int), .int .i64 bad, .int .i64 lock] rfl (by kernel_rfl) (by simp [Value.oneCell']) #[.int .i64 0, .int .i64 0, .int .i64 0, .int .i64 0, .int .u64 0, .int .i64 0, .int .i64 0] 40 HOU.out rfl ?_)
                    | go_in)
                  intro WF hUF
                  have R0 : Hid (WF.cell? ⟨w.heap.size + 3, 0, none⟩ = some (.int .i64 me)) := hUF.blk.cell 0
                  have R1 : Hid (WF.cell? ⟨w.heap.size + 3, 1, none⟩ = some (.int .i64 rev)) := hUF.blk.cell 1
                  have R2 : Hid (WF.cell? ⟨w.heap.size + 3, 2, none⟩ = some (.int .i64 cr)) := hUF.blk.cell 2
                  have R3 : Hid (WF.cell? ⟨w.heap.size + 3, 3, none⟩ = some (.int .i64 h)) := hUF.blk.cell 3
                  have R4 : Hid (WF.cell? ⟨w.heap.size + 3, 4, none⟩ = some (.int .u64 (b : Int))) := hUF.blk.cell 4
                  have R5 : Hid (WF.cell? ⟨w.heap.size + 3, 5, none⟩ = some (.int .i64 bad)) := hUF.blk.cell 5
                  have R6 : Hid (WF.cell? ⟨w.heap.size + 3, 6, none⟩ = some (.int .i64 lock)) := hUF.blk.cell 6
                  have HB : Hid (Below w.heap.size w WF) := hUF.bel _ _ (by omega) HBE.out
                  clear hUF HOU HBE
                  go_wp2_with fail
                  exact bodyPost_ret (v := .tuple #[.agg #[.int .i64 me, .int .i64 rev, .int .i64 cr, .int .i64 h, .int .u64 (b : Int), .int .i64 bad, .int .i64 lock], .int .i64 0, .int .i64 15]) (by simp [results, Tryz.results18, R0.out, R1.out, R2.out, R3.out, R4.out, R5.out, R6.out, go_sem]) rfl ⟨⟨me, rev, cr, h, b, bad, lock⟩, 0, 15, rfl, HF.out, HB.out⟩
                · have HFU : Hid (¬ (c = 0 ∧ 99999999 - cr < am)) := hfu
                  by_cases hky : c = 2 ∧ am ≤ rev
                  · have s1 : (c == 0) = false := by simp only [beq_eq_false_iff_ne, ne_eq]; omega
                    have s3 : (c == 2) = true := by simp [hky.1]
                    have s4 : decide (am ≤ rev) = true := by simp; omega
                    have HKY : Hid (¬ ¬ (c = 2 ∧ am ≤ rev)) := fun h => h hky
                    clear hky hfu
                    have HOU : Hid (Blk (w6.alloc (.cells #[.int .i64 h1, .int .u64 (b1 : Int)] 38)) (w.heap.size + 3) #[.int .i64 0, .int .i64 0, .int .i64 0, .int .i64 0, .int .u64 0, .int .i64 0, .int .i64 0] 40) := HI6.out.out
                    have HBE : Hid (Below w.heap.size w (w6.alloc (.cells #[.int .i64 h1, .int .u64 (b1 : Int)] 38))) := HI6.out.bm.bel
                    have HF : Hid (KeyIs ⟨me, rev, cr, h, b, bad, lock⟩ l c i am t (bodyI c i am) ⟨me, rev, cr, h, b, bad, lock⟩ 0 24) := KeyIs.key HML.out HFL.out HLK.out HC3.out HHE.out HJ0.out HFU.out HKY.out
                    clear HI6
                    go_wp2_with (first
                      | (refine wp_letAll rfl 40 _ _ rfl (w.heap.size + 3) rfl #[.int .i64 me, .int .i64 rev, .int .i64 cr, .int .i64 h, .int .u64 (b : Int), .int .i64 bad, .int .i64 lock] rfl (by kernel_rfl) (by simp [Value.oneCell']) #[.int .i64 0, .int .i64 0, .int .i64 0, .int .i64 0, .int .u64 0, .int .i64 0, .int .i64 0] 40 HOU.out rfl ?_)
                      | go_in)
                    intro WF hUF
                    have R0 : Hid (WF.cell? ⟨w.heap.size + 3, 0, none⟩ = some (.int .i64 me)) := hUF.blk.cell 0
                    have R1 : Hid (WF.cell? ⟨w.heap.size + 3, 1, none⟩ = some (.int .i64 rev)) := hUF.blk.cell 1
                    have R2 : Hid (WF.cell? ⟨w.heap.size + 3, 2, none⟩ = some (.int .i64 cr)) := hUF.blk.cell 2
                    have R3 : Hid (WF.cell? ⟨w.heap.size + 3, 3, none⟩ = some (.int .i64 h)) := hUF.blk.cell 3
                    have R4 : Hid (WF.cell? ⟨w.heap.size + 3, 4, none⟩ = some (.int .u64 (b : Int))) := hUF.blk.cell 4
                    have R5 : Hid (WF.cell? ⟨w.heap.size + 3, 5, none⟩ = some (.int .i64 bad)) := hUF.blk.cell 5
                    have R6 : Hid (WF.cell? ⟨w.heap.size + 3, 6, none⟩ = some (.int .i64 lock)) := hUF.blk.cell 6
                    have HB : Hid (Below w.heap.size w WF) := hUF.bel _ _ (by omega) HBE.out
                    clear hUF HOU HBE
                    go_wp2_with fail
                    exact bodyPost_ret (v := .tuple #[.agg #[.int .i64 me, .int .i64 rev, .int .i64 cr, .int .i64 h, .int .u64 (b : Int), .int .i64 bad, .int .i64 lock], .int .i64 0, .int .i64 24]) (by simp [results, Tryz.results18, R0.out, R1.out, R2.out, R3.out, R4.out, R5.out, R6.out, go_sem]) rfl ⟨⟨me, rev, cr, h, b, bad, lock⟩, 0, 24, rfl, HF.out, HB.out⟩
                  · have HKY : Hid (¬ (c = 2 ∧ am ≤ rev)) := hky
                    have HTN : Hid (KeyIs ⟨me, rev, cr, h, b, bad, lock⟩ l c i am t (bodyI c i am) (taken ⟨me, rev, cr, h, b, bad, lock⟩ c i am) (if c = 0 then am else 0) 0) := KeyIs.take HML.out HFL.out HLK.out HC3.out HHE.out HJ0.out HFU.out HKY.out
                    have hcc : c = 0 ∨ c = 1 ∨ c = 2 := by have := HC3.out; omega
                    rcases hcc with hcc | hcc | hcc
                    · have HTV : Hid (KeyIs ⟨me, rev, cr, h, b, bad, lock⟩ l c i am t (bodyI c i am) ⟨me, rev, cr + am, h1, b1, 0, lock⟩ am 0) := by
                        have := HTN.out
                        rw [show taken ⟨me, rev, cr, h, b, bad, lock⟩ c i am = ⟨me, rev, cr + am, h1, b1, 0, lock⟩ from by rw [taken, HHB.out.1, HHB.out.2, hcc]; rfl, show (if c = 0 then am else 0) = am from by rw [hcc]; rfl] at this
                        exact this
                      have s1 : (c == 0) = true := by rw [hcc]; rfl
                      have s2 : (c == 1) = false := by rw [hcc]; rfl
                      have s3 : (c == 2) = false := by rw [hcc]; rfl
                      have s6 : decide (99999999 - cr < am) = false := by simp only [decide_eq_false_iff_not]; omega
                      have hw0 := HW6.out.cell 0
                      have hw1 := HW6.out.cell 1
                      have H6 : Hid (Blk (w6.alloc (.cells #[.int .i64 h1, .int .u64 (b1 : Int)] 38)) g12 #[.int .i64 me, .int .i64 rev, .int .i64 cr, .int .i64 h, .int .u64 (b : Int), .int .i64 bad, .int .i64 lock] 40 ∧ Blk (w6.alloc (.cells #[.int .i64 h1, .int .u64 (b1 : Int)] 38)) (w.heap.size + 2) #[.int .i64 c, .int .i64 i, .int .i64 am, .int .i64 t] 44 ∧ Blk (w6.alloc (.cells #[.int .i64 h1, .int .u64 (b1 : Int)] 38)) w.heap.size #[.int .i64 me, .int .i64 rev, .int .i64 cr, .int .i64 h, .int .u64 (b : Int), .int .i64 bad, .int .i64 lock] 40 ∧ Blk (w6.alloc (.cells #[.int .i64 h1, .int .u64 (b1 : Int)] 38)) (w.heap.size + 3) #[.int .i64 0, .int .i64 0, .int .i64 0, .int .i64 0, .int .u64 0, .int .i64 0, .int .i64 0] 40 ∧ Below w.heap.size w (w6.alloc (.cells #[.int .i64 h1, .int .u64 (b1 : Int)] 38))) := ⟨HG6.out, HI6.out.tok, HI6.out.bm.met, HI6.out.out, HI6.out.bm.bel⟩
                      clear hcc HTN hky hfu HI6 HW6
                      go_wp2_with (first
                        | (refine wp_let rfl 38 _ _ rfl g12 3 rfl _ rfl #[.int .i64 h1, .int .u64 (b1 : Int)] rfl (by kernel_rfl) (by simp [Value.oneCell']) #[.int .i64 me, .int .i64 rev, .int .i64 cr, .int .i64 h, .int .u64 (b : Int), .int .i64 bad, .int .i64 lock] 40 HG6.out (by simp) _ (by rfl) ?_)
                        | go_in)
                      intro W7 hU
                      have hlt := HLT.out
                      clear c0 c1 c2 c3 c4 c5 c6 o0 t0 t1 t2 t3 hw0 hw1
                      have H7 : Hid (Blk W7 g12 #[.int .i64 me, .int .i64 rev, .int .i64 cr, .int .i64 h1, .int .u64 (b1 : Int), .int .i64 bad, .int .i64 lock] 40 ∧ Blk W7 (w.heap.size + 2) #[.int .i64 c, .int .i64 i, .int .i64 am, .int .i64 t] 44 ∧ Blk W7 w.heap.size #[.int .i64 me, .int .i64 rev, .int .i64 cr, .int .i64 h, .int .u64 (b : Int), .int .i64 bad, .int .i64 lock] 40 ∧ Blk W7 (w.heap.size + 3) #[.int .i64 0, .int .i64 0, .int .i64 0, .int .i64 0, .int .u64 0, .int .i64 0, .int .i64 0] 40 ∧ Below w.heap.size w W7) := ⟨hU.blk, hU.keep H6.out.2.1 (by omega), hU.keep H6.out.2.2.1 (by omega), hU.keep H6.out.2.2.2.1 (by omega), hU.bel _ _ (by omega) H6.out.2.2.2.2⟩
                      have HG7 : Hid (Blk W7 g12 #[.int .i64 me, .int .i64 rev, .int .i64 cr, .int .i64 h1, .int .u64 (b1 : Int), .int .i64 bad, .int .i64 lock] 40) := hU.blk
                      clear hU hlt H6 HG6
                      go_wp2_with (first
                        | (refine wp_let1 rfl 3 _ _ rfl g12 5 rfl .i64 0 rfl (by kernel_rfl) #[.int .i64 me, .int .i64 rev, .int .i64 cr, .int .i64 h1, .int .u64 (b1 : Int), .int .i64 bad, .int .i64 lock] 40 HG7.out (by simp) ?_)
                        | go_in)
                      intro W8 hU
                      have hlt := HLT.out
                      have H8 : Hid (Blk W8 g12 #[.int .i64 me, .int .i64 rev, .int .i64 cr, .int .i64 h1, .int .u64 (b1 : Int), .int .i64 0, .int .i64 lock] 40 ∧ Blk W8 (w.heap.size + 2) #[.int .i64 c, .int .i64 i, .int .i64 am, .int .i64 t] 44 ∧ Blk W8 w.heap.size #[.int .i64 me, .int .i64 rev, .int .i64 cr, .int .i64 h, .int .u64 (b : Int), .int .i64 bad, .int .i64 lock] 40 ∧ Blk W8 (w.heap.size + 3) #[.int .i64 0, .int .i64 0, .int .i64 0, .int .i64 0, .int .u64 0, .int .i64 0, .int .i64 0] 40 ∧ Below w.heap.size w W8) := ⟨hU.blk, hU.keep H7.out.2.1 (by omega), hU.keep H7.out.2.2.1 (by omega), hU.keep H7.out.2.2.2.1 (by omega), hU.bel _ _ (by omega) H7.out.2.2.2.2⟩
                      have HG8 : Hid (Blk W8 g12 #[.int .i64 me, .int .i64 rev, .int .i64 cr, .int .i64 h1, .int .u64 (b1 : Int), .int .i64 0, .int .i64 lock] 40) := hU.blk
                      clear hU hlt H7 HG7
                      have a0 := H8.out.2.1.cell 0
                      have a2 := H8.out.2.1.cell 2
                      have m2 : W8.cell? ⟨w.heap.size, 2, none⟩ = some (.int .i64 cr) := H8.out.2.2.1.cell 2
                      go_wp2_with (first
                        | (refine wp_let1 rfl 3 _ _ rfl g12 2 rfl .i64 (cr + am) rfl (by kernel_rfl) #[.int .i64 me, .int .i64 rev, .int .i64 cr, .int .i64 h1, .int .u64 (b1 : Int), .int .i64 0, .int .i64 lock] 40 HG8.out (by simp) ?_)
                        | go_in)
                      intro W9 hU
                      have hlt := HLT.out
                      clear a0 a2 m2
                      have H9 : Hid (Blk W9 g12 #[.int .i64 me, .int .i64 rev, .int .i64 (cr + am), .int .i64 h1, .int .u64 (b1 : Int), .int .i64 0, .int .i64 lock] 40 ∧ Blk W9 (w.heap.size + 2) #[.int .i64 c, .int .i64 i, .int .i64 am, .int .i64 t] 44 ∧ Blk W9 w.heap.size #[.int .i64 me, .int .i64 rev, .int .i64 cr, .int .i64 h, .int .u64 (b : Int), .int .i64 bad, .int .i64 lock] 40 ∧ Blk W9 (w.heap.size + 3) #[.int .i64 0, .int .i64 0, .int .i64 0, .int .i64 0, .int .u64 0, .int .i64 0, .int .i64 0] 40 ∧ Below w.heap.size w W9) := ⟨hU.blk, hU.keep H8.out.2.1 (by omega), hU.keep H8.out.2.2.1 (by omega), hU.keep H8.out.2.2.2.1 (by omega), hU.bel _ _ (by omega) H8.out.2.2.2.2⟩
                      have HG9 : Hid (Blk W9 g12 #[.int .i64 me, .int .i64 rev, .int .i64 (cr + am), .int .i64 h1, .int .u64 (b1 : Int), .int .i64 0, .int .i64 lock] 40) := hU.blk
                      clear hU hlt H8 HG8
                      have a0 := H9.out.2.1.cell 0
                      have a2 := H9.out.2.1.cell 2
                      have HOU : Hid (Blk W9 (w.heap.size + 3) #[.int .i64 0, .int .i64 0, .int .i64 0, .int .i64 0, .int .u64 0, .int .i64 0, .int .i64 0] 40) := H9.out.2.2.2.1
                      have HBE : Hid (Below w.heap.size w W9) := H9.out.2.2.2.2
                      have HF : Hid (KeyIs ⟨me, rev, cr, h, b, bad, lock⟩ l c i am t (bodyI c i am) ⟨me, rev, cr + am, h1, b1, 0, lock⟩ am 0) := HTV.out
                      clear H9
                      go_wp2_with (first
                        | (refine wp_whole rfl 40 _ rfl g12 rfl 40 #[.int .i64 me, .int .i64 rev, .int .i64 (cr + am), .int .i64 h1, .int .u64 (b1 : Int), .int .i64 0, .int .i64 lock] _ HG9.out Tryz.underlying40 rfl (by kernel_rfl) ?_)
                        | (refine wp_letAll rfl 40 _ _ rfl (w.heap.size + 3) rfl #[.int .i64 me, .int .i64 rev, .int .i64 (cr + am), .int .i64 h1, .int .u64 (b1 : Int), .int .i64 0, .int .i64 lock] rfl (by kernel_rfl) (by simp [Value.oneCell']) #[.int .i64 0, .int .i64 0, .int .i64 0, .int .i64 0, .int .u64 0, .int .i64 0, .int .i64 0] 40 HOU.out rfl ?_)
                        | go_in)
                      intro WF hUF
                      have R0 : Hid (WF.cell? ⟨w.heap.size + 3, 0, none⟩ = some (.int .i64 me)) := hUF.blk.cell 0
                      have R1 : Hid (WF.cell? ⟨w.heap.size + 3, 1, none⟩ = some (.int .i64 rev)) := hUF.blk.cell 1
                      have R2 : Hid (WF.cell? ⟨w.heap.size + 3, 2, none⟩ = some (.int .i64 (cr + am))) := hUF.blk.cell 2
                      have R3 : Hid (WF.cell? ⟨w.heap.size + 3, 3, none⟩ = some (.int .i64 h1)) := hUF.blk.cell 3
                      have R4 : Hid (WF.cell? ⟨w.heap.size + 3, 4, none⟩ = some (.int .u64 (b1 : Int))) := hUF.blk.cell 4
                      have R5 : Hid (WF.cell? ⟨w.heap.size + 3, 5, none⟩ = some (.int .i64 0)) := hUF.blk.cell 5
                      have R6 : Hid (WF.cell? ⟨w.heap.size + 3, 6, none⟩ = some (.int .i64 lock)) := hUF.blk.cell 6
                      have HB : Hid (Below w.heap.size w WF) := hUF.bel _ _ (by omega) HBE.out
                      clear hUF HOU HBE
                      go_wp2_with fail
                      exact bodyPost_ret (v := .tuple #[.agg #[.int .i64 me, .int .i64 rev, .int .i64 (cr + am), .int .i64 h1, .int .u64 (b1 : Int), .int .i64 0, .int .i64 lock], .int .i64 am, .int .i64 0]) (by simp [results, Tryz.results18, R0.out, R1.out, R2.out, R3.out, R4.out, R5.out, R6.out, go_sem]) rfl ⟨⟨me, rev, cr + am, h1, b1, 0, lock⟩, am, 0, rfl, HF.out, HB.out⟩
                    · have HTV : Hid (KeyIs ⟨me, rev, cr, h, b, bad, lock⟩ l c i am t (bodyI c i am) ⟨me, rev, 0, h1, b1, 0, lock⟩ 0 0) := by
                        have := HTN.out
                        rw [show taken ⟨me, rev, cr, h, b, bad, lock⟩ c i am = ⟨me, rev, 0, h1, b1, 0, lock⟩ from by rw [taken, HHB.out.1, HHB.out.2, hcc]; rfl, show (if c = 0 then am else 0) = 0 from by rw [hcc]; rfl] at this
                        exact this
                      have s1 : (c == 0) = false := by rw [hcc]; rfl
                      have s2 : (c == 1) = true := by rw [hcc]; rfl
                      have s3 : (c == 2) = false := by rw [hcc]; rfl
                      have hw0 := HW6.out.cell 0
                      have hw1 := HW6.out.cell 1
                      have H6 : Hid (Blk (w6.alloc (.cells #[.int .i64 h1, .int .u64 (b1 : Int)] 38)) g12 #[.int .i64 me, .int .i64 rev, .int .i64 cr, .int .i64 h, .int .u64 (b : Int), .int .i64 bad, .int .i64 lock] 40 ∧ Blk (w6.alloc (.cells #[.int .i64 h1, .int .u64 (b1 : Int)] 38)) (w.heap.size + 2) #[.int .i64 c, .int .i64 i, .int .i64 am, .int .i64 t] 44 ∧ Blk (w6.alloc (.cells #[.int .i64 h1, .int .u64 (b1 : Int)] 38)) w.heap.size #[.int .i64 me, .int .i64 rev, .int .i64 cr, .int .i64 h, .int .u64 (b : Int), .int .i64 bad, .int .i64 lock] 40 ∧ Blk (w6.alloc (.cells #[.int .i64 h1, .int .u64 (b1 : Int)] 38)) (w.heap.size + 3) #[.int .i64 0, .int .i64 0, .int .i64 0, .int .i64 0, .int .u64 0, .int .i64 0, .int .i64 0] 40 ∧ Below w.heap.size w (w6.alloc (.cells #[.int .i64 h1, .int .u64 (b1 : Int)] 38))) := ⟨HG6.out, HI6.out.tok, HI6.out.bm.met, HI6.out.out, HI6.out.bm.bel⟩
                      clear hcc HTN hky hfu HI6 HW6
                      go_wp2_with (first
                        | (refine wp_let rfl 38 _ _ rfl g12 3 rfl _ rfl #[.int .i64 h1, .int .u64 (b1 : Int)] rfl (by kernel_rfl) (by simp [Value.oneCell']) #[.int .i64 me, .int .i64 rev, .int .i64 cr, .int .i64 h, .int .u64 (b : Int), .int .i64 bad, .int .i64 lock] 40 HG6.out (by simp) _ (by rfl) ?_)
                        | go_in)
                      intro W7 hU
                      have hlt := HLT.out
                      clear c0 c1 c2 c3 c4 c5 c6 o0 t0 t1 t2 t3 hw0 hw1
                      have H7 : Hid (Blk W7 g12 #[.int .i64 me, .int .i64 rev, .int .i64 cr, .int .i64 h1, .int .u64 (b1 : Int), .int .i64 bad, .int .i64 lock] 40 ∧ Blk W7 (w.heap.size + 2) #[.int .i64 c, .int .i64 i, .int .i64 am, .int .i64 t] 44 ∧ Blk W7 w.heap.size #[.int .i64 me, .int .i64 rev, .int .i64 cr, .int .i64 h, .int .u64 (b : Int), .int .i64 bad, .int .i64 lock] 40 ∧ Blk W7 (w.heap.size + 3) #[.int .i64 0, .int .i64 0, .int .i64 0, .int .i64 0, .int .u64 0, .int .i64 0, .int .i64 0] 40 ∧ Below w.heap.size w W7) := ⟨hU.blk, hU.keep H6.out.2.1 (by omega), hU.keep H6.out.2.2.1 (by omega), hU.keep H6.out.2.2.2.1 (by omega), hU.bel _ _ (by omega) H6.out.2.2.2.2⟩
                      have HG7 : Hid (Blk W7 g12 #[.int .i64 me, .int .i64 rev, .int .i64 cr, .int .i64 h1, .int .u64 (b1 : Int), .int .i64 bad, .int .i64 lock] 40) := hU.blk
                      clear hU hlt H6 HG6
                      go_wp2_with (first
                        | (refine wp_let1 rfl 3 _ _ rfl g12 5 rfl .i64 0 rfl (by kernel_rfl) #[.int .i64 me, .int .i64 rev, .int .i64 cr, .int .i64 h1, .int .u64 (b1 : Int), .int .i64 bad, .int .i64 lock] 40 HG7.out (by simp) ?_)
                        | go_in)
                      intro W8 hU
                      have hlt := HLT.out
                      have H8 : Hid (Blk W8 g12 #[.int .i64 me, .int .i64 rev, .int .i64 cr, .int .i64 h1, .int .u64 (b1 : Int), .int .i64 0, .int .i64 lock] 40 ∧ Blk W8 (w.heap.size + 2) #[.int .i64 c, .int .i64 i, .int .i64 am, .int .i64 t] 44 ∧ Blk W8 w.heap.size #[.int .i64 me, .int .i64 rev, .int .i64 cr, .int .i64 h, .int .u64 (b : Int), .int .i64 bad, .int .i64 lock] 40 ∧ Blk W8 (w.heap.size + 3) #[.int .i64 0, .int .i64 0, .int .i64 0, .int .i64 0, .int .u64 0, .int .i64 0, .int .i64 0] 40 ∧ Below w.heap.size w W8) := ⟨hU.blk, hU.keep H7.out.2.1 (by omega), hU.keep H7.out.2.2.1 (by omega), hU.keep H7.out.2.2.2.1 (by omega), hU.bel _ _ (by omega) H7.out.2.2.2.2⟩
                      have HG8 : Hid (Blk W8 g12 #[.int .i64 me, .int .i64 rev, .int .i64 cr, .int .i64 h1, .int .u64 (b1 : Int), .int .i64 0, .int .i64 lock] 40) := hU.blk
                      clear hU hlt H7 HG7
                      have a0 := H8.out.2.1.cell 0
                      have a2 := H8.out.2.1.cell 2
                      have m2 : W8.cell? ⟨w.heap.size, 2, none⟩ = some (.int .i64 cr) := H8.out.2.2.1.cell 2
                      go_wp2_with (first
                        | (refine wp_let1 rfl 3 _ _ rfl g12 2 rfl .i64 0 rfl (by kernel_rfl) #[.int .i64 me, .int .i64 rev, .int .i64 cr, .int .i64 h1, .int .u64 (b1 : Int), .int .i64 0, .int .i64 lock] 40 HG8.out (by simp) ?_)
                        | go_in)
                      intro W9 hU
                      have hlt := HLT.out
                      clear a0 a2 m2
                      have H9 : Hid (Blk W9 g12 #[.int .i64 me, .int .i64 rev, .int .i64 0, .int .i64 h1, .int .u64 (b1 : Int), .int .i64 0, .int .i64 lock] 40 ∧ Blk W9 (w.heap.size + 2) #[.int .i64 c, .int .i64 i, .int .i64 am, .int .i64 t] 44 ∧ Blk W9 w.heap.size #[.int .i64 me, .int .i64 rev, .int .i64 cr, .int .i64 h, .int .u64 (b : Int), .int .i64 bad, .int .i64 lock] 40 ∧ Blk W9 (w.heap.size + 3) #[.int .i64 0, .int .i64 0, .int .i64 0, .int .i64 0, .int .u64 0, .int .i64 0, .int .i64 0] 40 ∧ Below w.heap.size w W9) := ⟨hU.blk, hU.keep H8.out.2.1 (by omega), hU.keep H8.out.2.2.1 (by omega), hU.keep H8.out.2.2.2.1 (by omega), hU.bel _ _ (by omega) H8.out.2.2.2.2⟩
                      have HG9 : Hid (Blk W9 g12 #[.int .i64 me, .int .i64 rev, .int .i64 0, .int .i64 h1, .int .u64 (b1 : Int), .int .i64 0, .int .i64 lock] 40) := hU.blk
                      clear hU hlt H8 HG8
                      have a0 := H9.out.2.1.cell 0
                      have a2 := H9.out.2.1.cell 2
                      have HOU : Hid (Blk W9 (w.heap.size + 3) #[.int .i64 0, .int .i64 0, .int .i64 0, .int .i64 0, .int .u64 0, .int .i64 0, .int .i64 0] 40) := H9.out.2.2.2.1
                      have HBE : Hid (Below w.heap.size w W9) := H9.out.2.2.2.2
                      have HF : Hid (KeyIs ⟨me, rev, cr, h, b, bad, lock⟩ l c i am t (bodyI c i am) ⟨me, rev, 0, h1, b1, 0, lock⟩ 0 0) := HTV.out
                      clear H9
                      go_wp2_with (first
                        | (refine wp_whole rfl 40 _ rfl g12 rfl 40 #[.int .i64 me, .int .i64 rev, .int .i64 0, .int .i64 h1, .int .u64 (b1 : Int), .int .i64 0, .int .i64 lock] _ HG9.out Tryz.underlying40 rfl (by kernel_rfl) ?_)
                        | (refine wp_letAll rfl 40 _ _ rfl (w.heap.size + 3) rfl #[.int .i64 me, .int .i64 rev, .int .i64 0, .int .i64 h1, .int .u64 (b1 : Int), .int .i64 0, .int .i64 lock] rfl (by kernel_rfl) (by simp [Value.oneCell']) #[.int .i64 0, .int .i64 0, .int .i64 0, .int .i64 0, .int .u64 0, .int .i64 0, .int .i64 0] 40 HOU.out rfl ?_)
                        | go_in)
                      intro WF hUF
                      have R0 : Hid (WF.cell? ⟨w.heap.size + 3, 0, none⟩ = some (.int .i64 me)) := hUF.blk.cell 0
                      have R1 : Hid (WF.cell? ⟨w.heap.size + 3, 1, none⟩ = some (.int .i64 rev)) := hUF.blk.cell 1
                      have R2 : Hid (WF.cell? ⟨w.heap.size + 3, 2, none⟩ = some (.int .i64 0)) := hUF.blk.cell 2
                      have R3 : Hid (WF.cell? ⟨w.heap.size + 3, 3, none⟩ = some (.int .i64 h1)) := hUF.blk.cell 3
                      have R4 : Hid (WF.cell? ⟨w.heap.size + 3, 4, none⟩ = some (.int .u64 (b1 : Int))) := hUF.blk.cell 4
                      have R5 : Hid (WF.cell? ⟨w.heap.size + 3, 5, none⟩ = some (.int .i64 0)) := hUF.blk.cell 5
                      have R6 : Hid (WF.cell? ⟨w.heap.size + 3, 6, none⟩ = some (.int .i64 lock)) := hUF.blk.cell 6
                      have HB : Hid (Below w.heap.size w WF) := hUF.bel _ _ (by omega) HBE.out
                      clear hUF HOU HBE
                      go_wp2_with fail
                      exact bodyPost_ret (v := .tuple #[.agg #[.int .i64 me, .int .i64 rev, .int .i64 0, .int .i64 h1, .int .u64 (b1 : Int), .int .i64 0, .int .i64 lock], .int .i64 0, .int .i64 0]) (by simp [results, Tryz.results18, R0.out, R1.out, R2.out, R3.out, R4.out, R5.out, R6.out, go_sem]) rfl ⟨⟨me, rev, 0, h1, b1, 0, lock⟩, 0, 0, rfl, HF.out, HB.out⟩
                    · have HTV : Hid (KeyIs ⟨me, rev, cr, h, b, bad, lock⟩ l c i am t (bodyI c i am) ⟨me, am, cr, h1, b1, 0, lock⟩ 0 0) := by
                        have := HTN.out
                        rw [show taken ⟨me, rev, cr, h, b, bad, lock⟩ c i am = ⟨me, am, cr, h1, b1, 0, lock⟩ from by rw [taken, HHB.out.1, HHB.out.2, hcc]; rfl, show (if c = 0 then am else 0) = 0 from by rw [hcc]; rfl] at this
                        exact this
                      have s1 : (c == 0) = false := by rw [hcc]; rfl
                      have s2 : (c == 1) = false := by rw [hcc]; rfl
                      have s3 : (c == 2) = true := by rw [hcc]; rfl
                      have s6 : decide (am ≤ rev) = false := by simp only [decide_eq_false_iff_not]; omega
                      have hw0 := HW6.out.cell 0
                      have hw1 := HW6.out.cell 1
                      have H6 : Hid (Blk (w6.alloc (.cells #[.int .i64 h1, .int .u64 (b1 : Int)] 38)) g12 #[.int .i64 me, .int .i64 rev, .int .i64 cr, .int .i64 h, .int .u64 (b : Int), .int .i64 bad, .int .i64 lock] 40 ∧ Blk (w6.alloc (.cells #[.int .i64 h1, .int .u64 (b1 : Int)] 38)) (w.heap.size + 2) #[.int .i64 c, .int .i64 i, .int .i64 am, .int .i64 t] 44 ∧ Blk (w6.alloc (.cells #[.int .i64 h1, .int .u64 (b1 : Int)] 38)) w.heap.size #[.int .i64 me, .int .i64 rev, .int .i64 cr, .int .i64 h, .int .u64 (b : Int), .int .i64 bad, .int .i64 lock] 40 ∧ Blk (w6.alloc (.cells #[.int .i64 h1, .int .u64 (b1 : Int)] 38)) (w.heap.size + 3) #[.int .i64 0, .int .i64 0, .int .i64 0, .int .i64 0, .int .u64 0, .int .i64 0, .int .i64 0] 40 ∧ Below w.heap.size w (w6.alloc (.cells #[.int .i64 h1, .int .u64 (b1 : Int)] 38))) := ⟨HG6.out, HI6.out.tok, HI6.out.bm.met, HI6.out.out, HI6.out.bm.bel⟩
                      clear hcc HTN hky hfu HI6 HW6
                      go_wp2_with (first
                        | (refine wp_let rfl 38 _ _ rfl g12 3 rfl _ rfl #[.int .i64 h1, .int .u64 (b1 : Int)] rfl (by kernel_rfl) (by simp [Value.oneCell']) #[.int .i64 me, .int .i64 rev, .int .i64 cr, .int .i64 h, .int .u64 (b : Int), .int .i64 bad, .int .i64 lock] 40 HG6.out (by simp) _ (by rfl) ?_)
                        | go_in)
                      intro W7 hU
                      have hlt := HLT.out
                      clear c0 c1 c2 c3 c4 c5 c6 o0 t0 t1 t2 t3 hw0 hw1
                      have H7 : Hid (Blk W7 g12 #[.int .i64 me, .int .i64 rev, .int .i64 cr, .int .i64 h1, .int .u64 (b1 : Int), .int .i64 bad, .int .i64 lock] 40 ∧ Blk W7 (w.heap.size + 2) #[.int .i64 c, .int .i64 i, .int .i64 am, .int .i64 t] 44 ∧ Blk W7 w.heap.size #[.int .i64 me, .int .i64 rev, .int .i64 cr, .int .i64 h, .int .u64 (b : Int), .int .i64 bad, .int .i64 lock] 40 ∧ Blk W7 (w.heap.size + 3) #[.int .i64 0, .int .i64 0, .int .i64 0, .int .i64 0, .int .u64 0, .int .i64 0, .int .i64 0] 40 ∧ Below w.heap.size w W7) := ⟨hU.blk, hU.keep H6.out.2.1 (by omega), hU.keep H6.out.2.2.1 (by omega), hU.keep H6.out.2.2.2.1 (by omega), hU.bel _ _ (by omega) H6.out.2.2.2.2⟩
                      have HG7 : Hid (Blk W7 g12 #[.int .i64 me, .int .i64 rev, .int .i64 cr, .int .i64 h1, .int .u64 (b1 : Int), .int .i64 bad, .int .i64 lock] 40) := hU.blk
                      clear hU hlt H6 HG6
                      go_wp2_with (first
                        | (refine wp_let1 rfl 3 _ _ rfl g12 5 rfl .i64 0 rfl (by kernel_rfl) #[.int .i64 me, .int .i64 rev, .int .i64 cr, .int .i64 h1, .int .u64 (b1 : Int), .int .i64 bad, .int .i64 lock] 40 HG7.out (by simp) ?_)
                        | go_in)
                      intro W8 hU
                      have hlt := HLT.out
                      have H8 : Hid (Blk W8 g12 #[.int .i64 me, .int .i64 rev, .int .i64 cr, .int .i64 h1, .int .u64 (b1 : Int), .int .i64 0, .int .i64 lock] 40 ∧ Blk W8 (w.heap.size + 2) #[.int .i64 c, .int .i64 i, .int .i64 am, .int .i64 t] 44 ∧ Blk W8 w.heap.size #[.int .i64 me, .int .i64 rev, .int .i64 cr, .int .i64 h, .int .u64 (b : Int), .int .i64 bad, .int .i64 lock] 40 ∧ Blk W8 (w.heap.size + 3) #[.int .i64 0, .int .i64 0, .int .i64 0, .int .i64 0, .int .u64 0, .int .i64 0, .int .i64 0] 40 ∧ Below w.heap.size w W8) := ⟨hU.blk, hU.keep H7.out.2.1 (by omega), hU.keep H7.out.2.2.1 (by omega), hU.keep H7.out.2.2.2.1 (by omega), hU.bel _ _ (by omega) H7.out.2.2.2.2⟩
                      have HG8 : Hid (Blk W8 g12 #[.int .i64 me, .int .i64 rev, .int .i64 cr, .int .i64 h1, .int .u64 (b1 : Int), .int .i64 0, .int .i64 lock] 40) := hU.blk
                      clear hU hlt H7 HG7
                      have a0 := H8.out.2.1.cell 0
                      have a2 := H8.out.2.1.cell 2
                      have m2 : W8.cell? ⟨w.heap.size, 2, none⟩ = some (.int .i64 cr) := H8.out.2.2.1.cell 2
                      go_wp2_with (first
                        | (refine wp_let1 rfl 3 _ _ rfl g12 1 rfl .i64 am rfl (by kernel_rfl) #[.int .i64 me, .int .i64 rev, .int .i64 cr, .int .i64 h1, .int .u64 (b1 : Int), .int .i64 0, .int .i64 lock] 40 HG8.out (by simp) ?_)
                        | go_in)
                      intro W9 hU
                      have hlt := HLT.out
                      clear a0 a2 m2
                      have H9 : Hid (Blk W9 g12 #[.int .i64 me, .int .i64 am, .int .i64 cr, .int .i64 h1, .int .u64 (b1 : Int), .int .i64 0, .int .i64 lock] 40 ∧ Blk W9 (w.heap.size + 2) #[.int .i64 c, .int .i64 i, .int .i64 am, .int .i64 t] 44 ∧ Blk W9 w.heap.size #[.int .i64 me, .int .i64 rev, .int .i64 cr, .int .i64 h, .int .u64 (b : Int), .int .i64 bad, .int .i64 lock] 40 ∧ Blk W9 (w.heap.size + 3) #[.int .i64 0, .int .i64 0, .int .i64 0, .int .i64 0, .int .u64 0, .int .i64 0, .int .i64 0] 40 ∧ Below w.heap.size w W9) := ⟨hU.blk, hU.keep H8.out.2.1 (by omega), hU.keep H8.out.2.2.1 (by omega), hU.keep H8.out.2.2.2.1 (by omega), hU.bel _ _ (by omega) H8.out.2.2.2.2⟩
                      have HG9 : Hid (Blk W9 g12 #[.int .i64 me, .int .i64 am, .int .i64 cr, .int .i64 h1, .int .u64 (b1 : Int), .int .i64 0, .int .i64 lock] 40) := hU.blk
                      clear hU hlt H8 HG8
                      have a0 := H9.out.2.1.cell 0
                      have a2 := H9.out.2.1.cell 2
                      have HOU : Hid (Blk W9 (w.heap.size + 3) #[.int .i64 0, .int .i64 0, .int .i64 0, .int .i64 0, .int .u64 0, .int .i64 0, .int .i64 0] 40) := H9.out.2.2.2.1
                      have HBE : Hid (Below w.heap.size w W9) := H9.out.2.2.2.2
                      have HF : Hid (KeyIs ⟨me, rev, cr, h, b, bad, lock⟩ l c i am t (bodyI c i am) ⟨me, am, cr, h1, b1, 0, lock⟩ 0 0) := HTV.out
                      clear H9
                      go_wp2_with (first
                        | (refine wp_whole rfl 40 _ rfl g12 rfl 40 #[.int .i64 me, .int .i64 am, .int .i64 cr, .int .i64 h1, .int .u64 (b1 : Int), .int .i64 0, .int .i64 lock] _ HG9.out Tryz.underlying40 rfl (by kernel_rfl) ?_)
                        | (refine wp_letAll rfl 40 _ _ rfl (w.heap.size + 3) rfl #[.int .i64 me, .int .i64 am, .int .i64 cr, .int .i64 h1, .int .u64 (b1 : Int), .int .i64 0, .int .i64 lock] rfl (by kernel_rfl) (by simp [Value.oneCell']) #[.int .i64 0, .int .i64 0, .int .i64 0, .int .i64 0, .int .u64 0, .int .i64 0, .int .i64 0] 40 HOU.out rfl ?_)
                        | go_in)
                      intro WF hUF
                      have R0 : Hid (WF.cell? ⟨w.heap.size + 3, 0, none⟩ = some (.int .i64 me)) := hUF.blk.cell 0
                      have R1 : Hid (WF.cell? ⟨w.heap.size + 3, 1, none⟩ = some (.int .i64 am)) := hUF.blk.cell 1
                      have R2 : Hid (WF.cell? ⟨w.heap.size + 3, 2, none⟩ = some (.int .i64 cr)) := hUF.blk.cell 2
                      have R3 : Hid (WF.cell? ⟨w.heap.size + 3, 3, none⟩ = some (.int .i64 h1)) := hUF.blk.cell 3
                      have R4 : Hid (WF.cell? ⟨w.heap.size + 3, 4, none⟩ = some (.int .u64 (b1 : Int))) := hUF.blk.cell 4
                      have R5 : Hid (WF.cell? ⟨w.heap.size + 3, 5, none⟩ = some (.int .i64 0)) := hUF.blk.cell 5
                      have R6 : Hid (WF.cell? ⟨w.heap.size + 3, 6, none⟩ = some (.int .i64 lock)) := hUF.blk.cell 6
                      have HB : Hid (Below w.heap.size w WF) := hUF.bel _ _ (by omega) HBE.out
                      clear hUF HOU HBE
                      go_wp2_with fail
                      exact bodyPost_ret (v := .tuple #[.agg #[.int .i64 me, .int .i64 am, .int .i64 cr, .int .i64 h1, .int .u64 (b1 : Int), .int .i64 0, .int .i64 lock], .int .i64 0, .int .i64 0]) (by simp [results, Tryz.results18, R0.out, R1.out, R2.out, R3.out, R4.out, R5.out, R6.out, go_sem]) rfl ⟨⟨me, am, cr, h1, b1, 0, lock⟩, 0, 0, rfl, HF.out, HB.out⟩
              · have HNZ : Hid (f ≠ 0) := hf
                have q6 : (f != 0) = true := by simp [hf]
                clear hf
                have HOU : Hid (Blk (w6.alloc (.cells #[.int .i64 h1, .int .u64 (b1 : Int)] 38)) (w.heap.size + 3) #[.int .i64 0, .int .i64 0, .int .i64 0, .int .i64 0, .int .u64 0, .int .i64 0, .int .i64 0] 40) := HI6.out.out
                have HBE : Hid (Below w.heap.size w (w6.alloc (.cells #[.int .i64 h1, .int .u64 (b1 : Int)] 38))) := HI6.out.bm.bel
                have HF : Hid (KeyIs ⟨me, rev, cr, h, b, bad, lock⟩ l c i am t (bodyI c i am) ⟨me, rev, cr, h, b, bad, lock⟩ 0 f) := KeyIs.judge f HML.out HFL.out HLK.out HC3.out HHE.out HJ6.out.1 HNZ.out
                clear HI6
                go_wp2_with (first
                  | (refine wp_letAll rfl 40 _ _ rfl (w.heap.size + 3) rfl #[.int .i64 me, .int .i64 rev, .int .i64 cr, .int .i64 h, .int .u64 (b : Int), .int .i64 bad, .int .i64 lock] rfl (by kernel_rfl) (by simp [Value.oneCell']) #[.int .i64 0, .int .i64 0, .int .i64 0, .int .i64 0, .int .u64 0, .int .i64 0, .int .i64 0] 40 HOU.out rfl ?_)
                  | go_in)
                intro WF hUF
                have R0 : Hid (WF.cell? ⟨w.heap.size + 3, 0, none⟩ = some (.int .i64 me)) := hUF.blk.cell 0
                have R1 : Hid (WF.cell? ⟨w.heap.size + 3, 1, none⟩ = some (.int .i64 rev)) := hUF.blk.cell 1
                have R2 : Hid (WF.cell? ⟨w.heap.size + 3, 2, none⟩ = some (.int .i64 cr)) := hUF.blk.cell 2
                have R3 : Hid (WF.cell? ⟨w.heap.size + 3, 3, none⟩ = some (.int .i64 h)) := hUF.blk.cell 3
                have R4 : Hid (WF.cell? ⟨w.heap.size + 3, 4, none⟩ = some (.int .u64 (b : Int))) := hUF.blk.cell 4
                have R5 : Hid (WF.cell? ⟨w.heap.size + 3, 5, none⟩ = some (.int .i64 bad)) := hUF.blk.cell 5
                have R6 : Hid (WF.cell? ⟨w.heap.size + 3, 6, none⟩ = some (.int .i64 lock)) := hUF.blk.cell 6
                have HB : Hid (Below w.heap.size w WF) := hUF.bel _ _ (by omega) HBE.out
                clear hUF HOU HBE
                go_wp2_with fail
                exact bodyPost_ret (v := .tuple #[.agg #[.int .i64 me, .int .i64 rev, .int .i64 cr, .int .i64 h, .int .u64 (b : Int), .int .i64 bad, .int .i64 lock], .int .i64 0, .int .i64 f]) (by simp [results, Tryz.results18, R0.out, R1.out, R2.out, R3.out, R4.out, R5.out, R6.out, go_sem]) rfl ⟨⟨me, rev, cr, h, b, bad, lock⟩, 0, f, rfl, HF.out, HB.out⟩
            · have HHE : Hid (¬ Here l me rev (bodyI c i am) t ∧ Early l me rev (bodyI c i am) t) := ⟨hhe, hea⟩
              clear hhe hea
              have HOU : Hid (Blk w4 (w.heap.size + 3) #[.int .i64 0, .int .i64 0, .int .i64 0, .int .i64 0, .int .u64 0, .int .i64 0, .int .i64 0] 40) := HI4.out.out
              have HBE : Hid (Below w.heap.size w w4) := HI4.out.bm.bel
              have HF : Hid (KeyIs ⟨me, rev, cr, h, b, bad, lock⟩ l c i am t (bodyI c i am) ⟨me, rev, cr, h, b, bad, lock⟩ 0 11) := KeyIs.old HML.out HFL.out HLK.out HC3.out HHE.out.1 HHE.out.2
              clear HI4
              go_wp2_with (first
                | (refine wp_letAll rfl 40 _ _ rfl (w.heap.size + 3) rfl #[.int .i64 me, .int .i64 rev, .int .i64 cr, .int .i64 h, .int .u64 (b : Int), .int .i64 bad, .int .i64 lock] rfl (by kernel_rfl) (by simp [Value.oneCell']) #[.int .i64 0, .int .i64 0, .int .i64 0, .int .i64 0, .int .u64 0, .int .i64 0, .int .i64 0] 40 HOU.out rfl ?_)
                | go_in)
              intro WF hUF
              have R0 : Hid (WF.cell? ⟨w.heap.size + 3, 0, none⟩ = some (.int .i64 me)) := hUF.blk.cell 0
              have R1 : Hid (WF.cell? ⟨w.heap.size + 3, 1, none⟩ = some (.int .i64 rev)) := hUF.blk.cell 1
              have R2 : Hid (WF.cell? ⟨w.heap.size + 3, 2, none⟩ = some (.int .i64 cr)) := hUF.blk.cell 2
              have R3 : Hid (WF.cell? ⟨w.heap.size + 3, 3, none⟩ = some (.int .i64 h)) := hUF.blk.cell 3
              have R4 : Hid (WF.cell? ⟨w.heap.size + 3, 4, none⟩ = some (.int .u64 (b : Int))) := hUF.blk.cell 4
              have R5 : Hid (WF.cell? ⟨w.heap.size + 3, 5, none⟩ = some (.int .i64 bad)) := hUF.blk.cell 5
              have R6 : Hid (WF.cell? ⟨w.heap.size + 3, 6, none⟩ = some (.int .i64 lock)) := hUF.blk.cell 6
              have HB : Hid (Below w.heap.size w WF) := hUF.bel _ _ (by omega) HBE.out
              clear hUF HOU HBE
              go_wp2_with fail
              exact bodyPost_ret (v := .tuple #[.agg #[.int .i64 me, .int .i64 rev, .int .i64 cr, .int .i64 h, .int .u64 (b : Int), .int .i64 bad, .int .i64 lock], .int .i64 0, .int .i64 11]) (by simp [results, Tryz.results18, R0.out, R1.out, R2.out, R3.out, R4.out, R5.out, R6.out, go_sem]) rfl ⟨⟨me, rev, cr, h, b, bad, lock⟩, 0, 11, rfl, HF.out, HB.out⟩
            · have HHE : Hid (¬ Here l me rev (bodyI c i am) t ∧ ¬ Early l me rev (bodyI c i am) t) := ⟨hhe, hea⟩
              clear hhe hea
              have HBM := HML.out.1.bad
              simp only [] at HBM
              by_cases hbd : bad + 1 ≥ 5
              · have q5 : decide (5 ≤ bad + 1) = true := by simp; omega
                have HKT : Hid (KeyIs ⟨me, rev, cr, h, b, bad, lock⟩ l c i am t (bodyI c i am) ⟨me, rev, cr, h, b, 0, 30⟩ 0 12) := by
                  have := KeyIs.tag (i := i) (a := am) HML.out HFL.out HLK.out HC3.out HHE.out.1 HHE.out.2
                  rw [badTry, if_pos hbd] at this
                  exact this
                have HI5 : Hid (Bk w (w4.alloc (.cells #[.int .i64 me, .int .i64 rev, .int .i64 cr, .int .i64 h, .int .u64 (b : Int), .int .i64 0, .int .i64 30] 40)) ⟨me, rev, cr, h, b, bad, lock⟩ a n cap l c i am t) := HI4.out.alloc _
                have d5 : (w4.alloc (.cells #[.int .i64 me, .int .i64 rev, .int .i64 cr, .int .i64 h, .int .u64 (b : Int), .int .i64 bad, .int .i64 lock] 40)).cell? ⟨w.heap.size, 5, none⟩ = some (.int .i64 bad) := (HI4.out.bm.met.alloc _).cell 5
                clear hbd
                have HOU : Hid (Blk (w4.alloc (.cells #[.int .i64 me, .int .i64 rev, .int .i64 cr, .int .i64 h, .int .u64 (b : Int), .int .i64 0, .int .i64 30] 40)) (w.heap.size + 3) #[.int .i64 0, .int .i64 0, .int .i64 0, .int .i64 0, .int .u64 0, .int .i64 0, .int .i64 0] 40) := HI5.out.out
                have HBE : Hid (Below w.heap.size w (w4.alloc (.cells #[.int .i64 me, .int .i64 rev, .int .i64 cr, .int .i64 h, .int .u64 (b : Int), .int .i64 0, .int .i64 30] 40))) := HI5.out.bm.bel
                have HF : Hid (KeyIs ⟨me, rev, cr, h, b, bad, lock⟩ l c i am t (bodyI c i am) ⟨me, rev, cr, h, b, 0, 30⟩ 0 12) := HKT.out
                clear HI5
                go_wp2_with (first
                  | (refine wp_letAll rfl 40 _ _ rfl (w.heap.size + 3) rfl #[.int .i64 me, .int .i64 rev, .int .i64 cr, .int .i64 h, .int .u64 (b : Int), .int .i64 0, .int .i64 30] rfl (by kernel_rfl) (by simp [Value.oneCell']) #[.int .i64 0, .int .i64 0, .int .i64 0, .int .i64 0, .int .u64 0, .int .i64 0, .int .i64 0] 40 HOU.out rfl ?_)
                  | go_in)
                intro WF hUF
                have R0 : Hid (WF.cell? ⟨w.heap.size + 3, 0, none⟩ = some (.int .i64 me)) := hUF.blk.cell 0
                have R1 : Hid (WF.cell? ⟨w.heap.size + 3, 1, none⟩ = some (.int .i64 rev)) := hUF.blk.cell 1
                have R2 : Hid (WF.cell? ⟨w.heap.size + 3, 2, none⟩ = some (.int .i64 cr)) := hUF.blk.cell 2
                have R3 : Hid (WF.cell? ⟨w.heap.size + 3, 3, none⟩ = some (.int .i64 h)) := hUF.blk.cell 3
                have R4 : Hid (WF.cell? ⟨w.heap.size + 3, 4, none⟩ = some (.int .u64 (b : Int))) := hUF.blk.cell 4
                have R5 : Hid (WF.cell? ⟨w.heap.size + 3, 5, none⟩ = some (.int .i64 0)) := hUF.blk.cell 5
                have R6 : Hid (WF.cell? ⟨w.heap.size + 3, 6, none⟩ = some (.int .i64 30)) := hUF.blk.cell 6
                have HB : Hid (Below w.heap.size w WF) := hUF.bel _ _ (by omega) HBE.out
                clear hUF HOU HBE
                go_wp2_with fail
                exact bodyPost_ret (v := .tuple #[.agg #[.int .i64 me, .int .i64 rev, .int .i64 cr, .int .i64 h, .int .u64 (b : Int), .int .i64 0, .int .i64 30], .int .i64 0, .int .i64 12]) (by simp [results, Tryz.results18, R0.out, R1.out, R2.out, R3.out, R4.out, R5.out, R6.out, go_sem]) rfl ⟨⟨me, rev, cr, h, b, 0, 30⟩, 0, 12, rfl, HF.out, HB.out⟩
              · have q5 : decide (5 ≤ bad + 1) = false := by simp; omega
                have HKT : Hid (KeyIs ⟨me, rev, cr, h, b, bad, lock⟩ l c i am t (bodyI c i am) ⟨me, rev, cr, h, b, bad + 1, lock⟩ 0 12) := by
                  have := KeyIs.tag (i := i) (a := am) HML.out HFL.out HLK.out HC3.out HHE.out.1 HHE.out.2
                  rw [badTry, if_neg hbd] at this
                  exact this
                have HI5 : Hid (Bk w (w4.alloc (.cells #[.int .i64 me, .int .i64 rev, .int .i64 cr, .int .i64 h, .int .u64 (b : Int), .int .i64 (bad + 1), .int .i64 lock] 40)) ⟨me, rev, cr, h, b, bad, lock⟩ a n cap l c i am t) := HI4.out.alloc _
                have d5 : (w4.alloc (.cells #[.int .i64 me, .int .i64 rev, .int .i64 cr, .int .i64 h, .int .u64 (b : Int), .int .i64 bad, .int .i64 lock] 40)).cell? ⟨w.heap.size, 5, none⟩ = some (.int .i64 bad) := (HI4.out.bm.met.alloc _).cell 5
                clear hbd
                have HOU : Hid (Blk (w4.alloc (.cells #[.int .i64 me, .int .i64 rev, .int .i64 cr, .int .i64 h, .int .u64 (b : Int), .int .i64 (bad + 1), .int .i64 lock] 40)) (w.heap.size + 3) #[.int .i64 0, .int .i64 0, .int .i64 0, .int .i64 0, .int .u64 0, .int .i64 0, .int .i64 0] 40) := HI5.out.out
                have HBE : Hid (Below w.heap.size w (w4.alloc (.cells #[.int .i64 me, .int .i64 rev, .int .i64 cr, .int .i64 h, .int .u64 (b : Int), .int .i64 (bad + 1), .int .i64 lock] 40))) := HI5.out.bm.bel
                have HF : Hid (KeyIs ⟨me, rev, cr, h, b, bad, lock⟩ l c i am t (bodyI c i am) ⟨me, rev, cr, h, b, bad + 1, lock⟩ 0 12) := HKT.out
                clear HI5
                go_wp2_with (first
                  | (refine wp_letAll rfl 40 _ _ rfl (w.heap.size + 3) rfl #[.int .i64 me, .int .i64 rev, .int .i64 cr, .int .i64 h, .int .u64 (b : Int), .int .i64 (bad + 1), .int .i64 lock] rfl (by kernel_rfl) (by simp [Value.oneCell']) #[.int .i64 0, .int .i64 0, .int .i64 0, .int .i64 0, .int .u64 0, .int .i64 0, .int .i64 0] 40 HOU.out rfl ?_)
                  | go_in)
                intro WF hUF
                have R0 : Hid (WF.cell? ⟨w.heap.size + 3, 0, none⟩ = some (.int .i64 me)) := hUF.blk.cell 0
                have R1 : Hid (WF.cell? ⟨w.heap.size + 3, 1, none⟩ = some (.int .i64 rev)) := hUF.blk.cell 1
                have R2 : Hid (WF.cell? ⟨w.heap.size + 3, 2, none⟩ = some (.int .i64 cr)) := hUF.blk.cell 2
                have R3 : Hid (WF.cell? ⟨w.heap.size + 3, 3, none⟩ = some (.int .i64 h)) := hUF.blk.cell 3
                have R4 : Hid (WF.cell? ⟨w.heap.size + 3, 4, none⟩ = some (.int .u64 (b : Int))) := hUF.blk.cell 4
                have R5 : Hid (WF.cell? ⟨w.heap.size + 3, 5, none⟩ = some (.int .i64 (bad + 1))) := hUF.blk.cell 5
                have R6 : Hid (WF.cell? ⟨w.heap.size + 3, 6, none⟩ = some (.int .i64 lock)) := hUF.blk.cell 6
                have HB : Hid (Below w.heap.size w WF) := hUF.bel _ _ (by omega) HBE.out
                clear hUF HOU HBE
                go_wp2_with fail
                exact bodyPost_ret (v := .tuple #[.agg #[.int .i64 me, .int .i64 rev, .int .i64 cr, .int .i64 h, .int .u64 (b : Int), .int .i64 (bad + 1), .int .i64 lock], .int .i64 0, .int .i64 12]) (by simp [results, Tryz.results18, R0.out, R1.out, R2.out, R3.out, R4.out, R5.out, R6.out, go_sem]) rfl ⟨⟨me, rev, cr, h, b, bad + 1, lock⟩, 0, 12, rfl, HF.out, HB.out⟩
      · have HFN : Hid (flawT c i am t ≠ 0) := hfl
        have HBD : Hid (∀ W, Calls Tryz.prog 46 #[.agg #[.int .i64 c, .int .i64 i, .int .i64 am, .int .i64 t]] W fun e w' => e = .returned (.tuple #[.int .i64 0, .int .i64 (flawT c i am t)]) ∧ Below W.heap.size W w') := fun W => bodyOf_no c i am t W hfl
        have HPF : Hid (KeyIs ⟨me, rev, cr, h, b, bad, lock⟩ l c i am t (bodyI c i am) ⟨me, rev, cr, h, b, bad, lock⟩ 0 (flawT c i am t)) := KeyIs.flaw HML.out hfl
        have hq : (flawT c i am t != 0) = true := by simpa using hfl
        clear hfl
        generalize hfx : flawT c i am t = fl at *
        clear hfx
        go_wp2_with fail
        refine (HBD.out _).mono ?_
        rintro e w3 ⟨rfl, hb3⟩
        have HI3 : Hid (Bk w w3 ⟨me, rev, cr, h, b, bad, lock⟩ a n cap l c i am t) := HI2.out.next hb3
        clear hb3 c0 c1 c2 c3 c4 c5 c6 o0 t0 t1 t2 t3 HI2
        have c0 : w3.cell? ⟨w.heap.size, 0, none⟩ = some (.int .i64 me) := HI3.out.bm.met.cell 0
        have c1 : w3.cell? ⟨w.heap.size, 1, none⟩ = some (.int .i64 rev) := HI3.out.bm.met.cell 1
        have c2 : w3.cell? ⟨w.heap.size, 2, none⟩ = some (.int .i64 cr) := HI3.out.bm.met.cell 2
        have c3 : w3.cell? ⟨w.heap.size, 3, none⟩ = some (.int .i64 h) := HI3.out.bm.met.cell 3
        have c4 : w3.cell? ⟨w.heap.size, 4, none⟩ = some (.int .u64 (b : Int)) := HI3.out.bm.met.cell 4
        have c5 : w3.cell? ⟨w.heap.size, 5, none⟩ = some (.int .i64 bad) := HI3.out.bm.met.cell 5
        have c6 : w3.cell? ⟨w.heap.size, 6, none⟩ = some (.int .i64 lock) := HI3.out.bm.met.cell 6
        have o0 := HI3.out.bm.ora.cell 0
        have t0 := HI3.out.tok.cell 0
        have t1 := HI3.out.tok.cell 1
        have t2 := HI3.out.tok.cell 2
        have t3 := HI3.out.tok.cell 3
        have HOU : Hid (Blk w3 (w.heap.size + 3) #[.int .i64 0, .int .i64 0, .int .i64 0, .int .i64 0, .int .u64 0, .int .i64 0, .int .i64 0] 40) := HI3.out.out
        have HBE : Hid (Below w.heap.size w w3) := HI3.out.bm.bel
        have HF : Hid (KeyIs ⟨me, rev, cr, h, b, bad, lock⟩ l c i am t (bodyI c i am) ⟨me, rev, cr, h, b, bad, lock⟩ 0 fl) := HPF.out
        clear HI3
        go_wp2_with (first
          | (refine wp_letAll rfl 40 _ _ rfl (w.heap.size + 3) rfl #[.int .i64 me, .int .i64 rev, .int .i64 cr, .int .i64 h, .int .u64 (b : Int), .int .i64 bad, .int .i64 lock] rfl (by kernel_rfl) (by simp [Value.oneCell']) #[.int .i64 0, .int .i64 0, .int .i64 0, .int .i64 0, .int .u64 0, .int .i64 0, .int .i64 0] 40 HOU.out rfl ?_)
          | go_in)
        intro WF hUF
        have R0 : Hid (WF.cell? ⟨w.heap.size + 3, 0, none⟩ = some (.int .i64 me)) := hUF.blk.cell 0
        have R1 : Hid (WF.cell? ⟨w.heap.size + 3, 1, none⟩ = some (.int .i64 rev)) := hUF.blk.cell 1
        have R2 : Hid (WF.cell? ⟨w.heap.size + 3, 2, none⟩ = some (.int .i64 cr)) := hUF.blk.cell 2
        have R3 : Hid (WF.cell? ⟨w.heap.size + 3, 3, none⟩ = some (.int .i64 h)) := hUF.blk.cell 3
        have R4 : Hid (WF.cell? ⟨w.heap.size + 3, 4, none⟩ = some (.int .u64 (b : Int))) := hUF.blk.cell 4
        have R5 : Hid (WF.cell? ⟨w.heap.size + 3, 5, none⟩ = some (.int .i64 bad)) := hUF.blk.cell 5
        have R6 : Hid (WF.cell? ⟨w.heap.size + 3, 6, none⟩ = some (.int .i64 lock)) := hUF.blk.cell 6
        have HB : Hid (Below w.heap.size w WF) := hUF.bel _ _ (by omega) HBE.out
        clear hUF HOU HBE
        go_wp2_with fail
        exact bodyPost_ret (v := .tuple #[.agg #[.int .i64 me, .int .i64 rev, .int .i64 cr, .int .i64 h, .int .u64 (b : Int), .int .i64 bad, .int .i64 lock], .int .i64 0, .int .i64 fl]) (by simp [results, Tryz.results18, R0.out, R1.out, R2.out, R3.out, R4.out, R5.out, R6.out, go_sem]) rfl ⟨⟨me, rev, cr, h, b, bad, lock⟩, 0, fl, rfl, HF.out, HB.out⟩

end Go.Proofs.YtgipkpkjoicehaaGreatDoor.met

/- Numbers of any size as lists of words, the least first: plain facts. -/
namespace Go.Proofs.YtgipkpkjoicehaaGreatDoor.words

/-- The number that words make. -/
def nv : List Nat → Nat
  | [] => 0
  | x :: l => x + 4294967296 * nv l
/-- A number's words, without a nought at the end. -/
def digF : Nat → Nat → List Nat
  | 0, _ => []
  | k + 1, m => if m = 0 then [] else (m % 4294967296) :: digF k (m / 4294967296)
def dig (m : Nat) : List Nat := digF m m

theorem digF_same : ∀ (k j m : Nat), m ≤ k → m ≤ j → digF k m = digF j m := by
  intro k
  induction k with
  | zero =>
    intro j m h1 h2
    have : m = 0 := by omega
    subst this
    cases j with
    | zero => rfl
    | succ j => simp [digF]
  | succ k ih =>
    intro j m h1 h2
    by_cases h0 : m = 0
    · subst h0
      cases j with
      | zero => simp [digF]
      | succ j => simp [digF]
    · obtain ⟨j', rfl⟩ : ∃ j', j = j' + 1 := ⟨j - 1, by omega⟩
      rw [digF, digF, if_neg h0, if_neg h0, ih j' (m / 4294967296) (by omega) (by omega)]
theorem dig_zero : dig 0 = [] := rfl
theorem dig_pos {m : Nat} (h : m ≠ 0) : dig m = (m % 4294967296) :: dig (m / 4294967296) := by
  obtain ⟨k, rfl⟩ : ∃ k, m = k + 1 := ⟨m - 1, by omega⟩
  unfold dig
  rw [digF, if_neg h, digF_same k _ _ (by omega) (Nat.le_refl _)]
theorem nv_dig (m : Nat) : nv (dig m) = m := by
  induction m using Nat.strongRecOn with
  | _ m ih =>
    by_cases h : m = 0
    · subst h; rw [dig_zero]; rfl
    · rw [dig_pos h, nv, ih (m / 4294967296) (by omega)]; omega
theorem dig_lt (m : Nat) : ∀ x ∈ dig m, x < 4294967296 := by
  induction m using Nat.strongRecOn with
  | _ m ih =>
    by_cases h : m = 0
    · subst h; rw [dig_zero]; intro x hx; cases hx
    · rw [dig_pos h]
      intro x hx
      rcases List.mem_cons.1 hx with rfl | hx
      · omega
      · exact ih (m / 4294967296) (by omega) x hx
theorem dig_nil {m : Nat} (h : dig m = []) : m = 0 := by
  by_cases h0 : m = 0
  · exact h0
  · rw [dig_pos h0] at h; cases h

theorem getD_cons_succ (x : Nat) (r : List Nat) (i : Nat) : (x :: r).getD (i + 1) 0 = r.getD i 0 := by simp [List.getD]

/-- What is left of words when the noughts at their end are taken off. -/
theorem trim_dig : ∀ (l : List Nat) (n : Nat), (∀ x ∈ l, x < 4294967296) → n ≤ l.length → (∀ i, n ≤ i → i < l.length → l.getD i 0 = 0) → (n = 0 ∨ l.getD (n - 1) 0 ≠ 0) → l.take n = dig (nv l)
  | [], n, _, hn, _, _ => by
    have : n = 0 := by simpa using hn
    subst this; rw [nv, dig_zero]; rfl
  | x :: r, 0, hlt, _, hz, _ => by
    have hx : x = 0 := by simpa using hz 0 (Nat.le_refl _) (by simp)
    have hr := trim_dig r 0 (fun y hy => hlt y (List.mem_cons_of_mem _ hy)) (Nat.zero_le _) (fun i _ hi => by
      have := hz (i + 1) (Nat.zero_le _) (by simp; omega)
      rwa [getD_cons_succ] at this) (.inl rfl)
    have h0 : nv r = 0 := dig_nil (by rw [← hr]; rfl)
    rw [nv, hx, h0, dig_zero]; rfl
  | x :: r, k + 1, hlt, hn, hz, hne => by
    have hx := hlt x (List.mem_cons_self ..)
    have hr := trim_dig r k (fun y hy => hlt y (List.mem_cons_of_mem _ hy)) (by simp at hn; omega) (fun i hi hi2 => by
      have := hz (i + 1) (by omega) (by simp; omega)
      rwa [getD_cons_succ] at this) (by
      by_cases hk : k = 0
      · exact .inl hk
      · right
        rcases hne with h | h
        · omega
        · have e : k + 1 - 1 = (k - 1) + 1 := by omega
          rw [e, getD_cons_succ] at h
          exact h)
    have hnz : nv (x :: r) ≠ 0 := by
      intro h0
      rw [nv] at h0
      rcases hne with h | h
      · omega
      · by_cases hk : k = 0
        · subst hk; simp at h; omega
        · have h1 : nv r = 0 := by omega
          rw [h1, dig_zero] at hr
          have h2 : r.length = 0 ∨ k = 0 := by
            have := congrArg List.length hr
            simp only [List.length_take, List.length_nil] at this
            omega
          simp at hn; omega
    rw [List.take_succ_cons, hr, dig_pos hnz]
    congr 1
    · rw [nv]; omega
    · congr 1; rw [nv]; omega

theorem dig_inj {m n : Nat} (h : dig m = dig n) : m = n := by rw [← nv_dig m, h, nv_dig]

theorem dig_len {m : Nat} : ∀ k : Nat, m < 4294967296 ^ k → (dig m).length ≤ k := by
  intro k
  induction k generalizing m with
  | zero => intro h; have : m = 0 := by simpa using h
            subst this; rw [dig_zero]; simp
  | succ k ih =>
    intro h
    by_cases h0 : m = 0
    · subst h0; rw [dig_zero]; simp
    · rw [dig_pos h0]
      have := ih (m := m / 4294967296) (by rw [Nat.pow_succ] at h; exact Nat.div_lt_of_lt_mul (by rw [Nat.mul_comm]; exact h))
      simp; omega

/-- A word ahead. -/
theorem dig_shift (m x : Nat) (hx : x < 4294967296) (h : m ≠ 0 ∨ x ≠ 0) : dig (m * 4294967296 + x) = x :: dig m := by
  rw [dig_pos (by omega)]
  congr 1
  · omega
  · congr 1; omega

end Go.Proofs.YtgipkpkjoicehaaGreatDoor.words

/- A wide number that came in: its three words, out of its reading and back into it. -/
namespace Go.Proofs.YtgipkpkjoicehaaGreatDoor.words
open Go.ChangeShapes Go.WideShapes Go.ChangeAt Go.RowKit
set_option maxRecDepth 100000

theorem cells_word : Tryz.prog.cellsOf 51 = 1 := by kernel_rfl
theorem cells_wide : Tryz.prog.cellsOf 59 = 3 := by kernel_rfl

theorem list3 {α : Type} (l : List α) (h : (⟨l⟩ : Array α).size = 3) : ∃ a b c, l = [a, b, c] := by
  match l, h with
  | [a, b, c], _ => exact ⟨a, b, c, rfl⟩

theorem open_wide {H : Type} {enc : TypeId × Value → H} {W : World} {r : Reach} {b0 b1 : Nat} {spare : Nat → Bool} {held : Bool} {v : Value} {d : DataW H} {ps : List MemPlace}
    (hval : Value.okWide Tryz.prog W r b0 59 v) (h : DataW.Trod enc Tryz.prog W b1 spare held 59 v d ps) :
    ∃ x y z, v = .agg #[.int .u32 x, .int .u32 y, .int .u32 z] ∧ d = .agg [.lit (.int .u32 x), .lit (.int .u32 y), .lit (.int .u32 z)] ∧ ps = [] ∧
      ((Lit.int .u32 x).wf = true ∧ (Lit.int .u32 y).wf = true ∧ (Lit.int .u32 z).wf = true) := by
  obtain ⟨cs, rfl, hsz, _⟩ : ∃ cs, v = .agg cs ∧ cs.size = Tryz.prog.cellsOf 59 ∧ Row.okWide Tryz.prog W r b0 59 cs := by
    simpa [Value.okWide, Tryz.underlying59] using hval
  rw [cells_wide] at hsz
  obtain ⟨l⟩ := cs
  obtain ⟨c0, c1, c2, rfl⟩ := list3 l hsz
  obtain ⟨fuel, hf⟩ := h
  obtain ⟨y0, y1, y2, m, hx, hy0, hy1, hy2⟩ := trod_array3 Tryz.underlying59 cells_word hf
  obtain ⟨x0, e0, rfl, w0⟩ := DataW.trod_int Tryz.underlying51 hy0
  obtain ⟨x1, e1, rfl, w1⟩ := DataW.trod_int Tryz.underlying51 hy1
  obtain ⟨x2, e2, rfl, w2⟩ := DataW.trod_int Tryz.underlying51 hy2
  simp at e0 e1 e2
  subst e0 e1 e2
  simp only [Prod.mk.injEq] at hx
  obtain ⟨rfl, rfl⟩ := hx
  exact ⟨x0, x1, x2, rfl, rfl, rfl, w0, w1, w2⟩

theorem shut_wide {H : Type} {enc : TypeId × Value → H} {W : World} {b1 : Nat} {spare : Nat → Bool} {held : Bool} {x y z : Int}
    (hw : (Lit.int .u32 x).wf = true ∧ (Lit.int .u32 y).wf = true ∧ (Lit.int .u32 z).wf = true) :
    DataW.Trod enc Tryz.prog W b1 spare held 59 (.agg #[.int .u32 x, .int .u32 y, .int .u32 z]) (.agg [.lit (.int .u32 x), .lit (.int .u32 y), .lit (.int .u32 z)]) [] :=
  ⟨2, by simp [DataW.trod, Value.cells, Tryz.underlying59, Tryz.underlying51, cells_wide, cells_word, hw.1, hw.2.1, hw.2.2, show List.range 3 = [0, 1, 2] from rfl]⟩

end Go.Proofs.YtgipkpkjoicehaaGreatDoor.words

/- A number that a closure carries on, in a variable of its own: what a call does to it, and to nothing else. -/
namespace Go.Proofs.YtgipkpkjoicehaaGreatDoor.words
open Go.RowKit

/-- Behind w0, w: block B holds v, and may be written; every other block that was there is as it was. -/
structure Acc (w0 w : World) (B : Nat) (v : Value) : Prop where
  os : w.os = w0.os
  tape : w.tape = w0.tape
  output : w.output = w0.output
  size : w0.heap.size ≤ w.heap.size
  block : ∀ k, k < w0.heap.size → k ≠ B → w.heap[k]? = w0.heap[k]?
  old : B < w0.heap.size
  cell : w.cell? ⟨B, 0, none⟩ = some v
  free : w.frozen? ⟨B, 0, none⟩ = false

theorem Acc.trans {w0 w1 w2 : World} {B : Nat} {v v' : Value} (h : Acc w0 w1 B v) (h' : Acc w1 w2 B v') : Acc w0 w2 B v' :=
  ⟨h'.os.trans h.os, h'.tape.trans h.tape, h'.output.trans h.output, Nat.le_trans h.size h'.size, fun k hk hB => (h'.block k (Nat.lt_of_lt_of_le hk h.size) hB).trans (h.block k hk hB), h.old, h'.cell, h'.free⟩

theorem Acc.refl {w : World} {B : Nat} {v : Value} (hc : w.cell? ⟨B, 0, none⟩ = some v) (hf : w.frozen? ⟨B, 0, none⟩ = false) : Acc w w B v := by
  refine ⟨rfl, rfl, rfl, Nat.le_refl _, fun _ _ _ => rfl, ?_, hc, hf⟩
  by_cases hh : B < w.heap.size
  · exact hh
  · simp [World.cell?, Array.getElem?_eq_none (show w.heap.size ≤ B by omega)] at hc

theorem Acc.set {w0 w : World} {B : Nat} {v : Value} (h : Acc w0 w B v) (u : Value) : Acc w0 (w.setCell ⟨B, 0, none⟩ u) B u := by
  refine ⟨h.os, h.tape, h.output, by simp [World.setCell]; exact h.size, fun k hk hB => ?_, h.old, ?_, ?_⟩
  · simp only [World.setCell, Array.getElem?_modify]
    rw [if_neg (fun e => hB e.symm)]
    exact h.block k hk hB
  · apply World.cell?_setCell_same; exact h.cell
  · rw [World.frozen?_setCell]; exact h.free

theorem Acc.drewN {w0 w : World} {B : Nat} {v : Value} (h : Acc w0 w B v) (n : Nat) : Acc w0 (w.drewN n) B v := ⟨h.os, h.tape, h.output, h.size, h.block, h.old, h.cell, h.free⟩

/-- Three cells of a block. -/
def Trio (w : World) (G : Nat) (y0 y1 y2 : Value) : Prop := w.heap[G]? = some (.cells #[y0, y1, y2] 59 (0, 0))

theorem Trio.c0 {w : World} {G : Nat} {y0 y1 y2 : Value} (h : Trio w G y0 y1 y2) : w.cell? ⟨G, 0, none⟩ = some y0 := by unfold Trio at h; simp [World.cell?, h]
theorem Trio.c1 {w : World} {G : Nat} {y0 y1 y2 : Value} (h : Trio w G y0 y1 y2) : w.cell? ⟨G, 1, none⟩ = some y1 := by unfold Trio at h; simp [World.cell?, h]
theorem Trio.c2 {w : World} {G : Nat} {y0 y1 y2 : Value} (h : Trio w G y0 y1 y2) : w.cell? ⟨G, 2, none⟩ = some y2 := by unfold Trio at h; simp [World.cell?, h]
theorem Trio.free {w : World} {G : Nat} {y0 y1 y2 : Value} (h : Trio w G y0 y1 y2) (i : Nat) : w.frozen? ⟨G, i, none⟩ = false := by unfold Trio at h; simp [World.frozen?, h]
theorem Trio.acc {w w' : World} {G B : Nat} {y0 y1 y2 v : Value} (h : Trio w G y0 y1 y2) (ha : Acc w w' B v) (hG : G ≠ B) : Trio w' G y0 y1 y2 := by
  have hlt : G < w.heap.size := by
    by_cases hh : G < w.heap.size
    · exact hh
    · unfold Trio at h; rw [Array.getElem?_eq_none (by omega)] at h; cases h
  unfold Trio at *
  rw [ha.block G hlt hG]; exact h
theorem Trio.set0 {w : World} {G : Nat} {y0 y1 y2 : Value} (h : Trio w G y0 y1 y2) (u : Value) : Trio (w.setCell ⟨G, 0, none⟩ u) G u y1 y2 := by
  unfold Trio at *; simp [World.setCell, Array.getElem?_modify, h]
theorem Trio.set1 {w : World} {G : Nat} {y0 y1 y2 : Value} (h : Trio w G y0 y1 y2) (u : Value) : Trio (w.setCell ⟨G, 1, none⟩ u) G y0 u y2 := by
  unfold Trio at *; simp [World.setCell, Array.getElem?_modify, h]
theorem Trio.set2 {w : World} {G : Nat} {y0 y1 y2 : Value} (h : Trio w G y0 y1 y2) (u : Value) : Trio (w.setCell ⟨G, 2, none⟩ u) G y0 y1 u := by
  unfold Trio at *; simp [World.setCell, Array.getElem?_modify, h]
theorem Trio.other {w : World} {G G' : Nat} {y0 y1 y2 : Value} (h : Trio w G y0 y1 y2) (i : Nat) (u : Value) (hne : G' ≠ G) : Trio (w.setCell ⟨G', i, none⟩ u) G y0 y1 y2 := by
  unfold Trio at *; simp only [World.setCell, Array.getElem?_modify]; rw [if_neg hne]; exact h

/-- A write to a new block. -/
theorem Acc.setNew {w0 w : World} {B : Nat} {v : Value} (h : Acc w0 w B v) (G i : Nat) (u : Value) (hG : w0.heap.size ≤ G) : Acc w0 (w.setCell ⟨G, i, none⟩ u) B v := by
  have hne : G ≠ B := by have := h.old; omega
  refine ⟨h.os, h.tape, h.output, by simp [World.setCell]; exact h.size, fun k hk hB => ?_, h.old, ?_, ?_⟩
  · simp only [World.setCell, Array.getElem?_modify]
    rw [if_neg (by omega)]
    exact h.block k hk hB
  · rw [World.cell?_setCell_other]
    · exact h.cell
    · intro e; exact hne (congrArg Addr.block e)
  · rw [World.frozen?_setCell]; exact h.free
theorem Acc.alloc {w0 w : World} {B : Nat} {v : Value} (h : Acc w0 w B v) (o : Obj) : Acc w0 (w.alloc o) B v := by
  have hlt : ∀ k, k < w.heap.size → (w.alloc o).heap[k]? = w.heap[k]? := fun k hk => by
    show (w.heap.push o)[k]? = _
    rw [Array.getElem?_push, if_neg (by omega)]
  have hB := Nat.lt_of_lt_of_le h.old h.size
  refine ⟨h.os, h.tape, h.output, ?_, fun k hk hB => ?_, h.old, ?_, ?_⟩
  · show _ ≤ (w.heap.push o).size
    have := h.size
    simp; omega
  · rw [hlt k (Nat.lt_of_lt_of_le hk h.size)]; exact h.block k hk hB
  · rw [← h.cell]; exact World.cell?_of_block (w := w) (a := ⟨B, 0, none⟩) (hlt B hB)
  · have : ((w.alloc o).frozen? ⟨B, 0, none⟩) = w.frozen? ⟨B, 0, none⟩ := by simp only [World.frozen?, hlt B hB]
    rw [this]; exact h.free

theorem trio_a (w : World) (x y z : Value) (o : Obj) : Trio ((w.alloc (.cells #[x, y, z] 59)).alloc o) w.heap.size x y z := by
  show ((w.heap.push _).push o)[w.heap.size]? = _
  rw [Array.getElem?_push, if_neg (by simp), Array.getElem?_push_size]
theorem trio_b (w : World) (o : Obj) (x y z : Value) : Trio ((w.alloc o).alloc (.cells #[x, y, z] 59)) (w.heap.size + 1) x y z := by
  show ((w.heap.push o).push _)[w.heap.size + 1]? = _
  have : w.heap.size + 1 = (w.heap.push o).size := by simp
  rw [this, Array.getElem?_push_size]

/-- What is made of each word, the least first, while the number at B goes from v0 to v1, v2 and v3. -/
theorem upward_any (K : Nat) (caps : Array Value) (B : Nat) (v0 v1 v2 v3 : Value) (x0 x1 x2 y0 y1 y2 : Int) (w : World) (h : Acc w w B v0) (hK : ∀ args w, (callFunc K args).run Tryz.prog w = .ok (.enter K args) w)
    (s0 : ∀ w', Acc w w' B v0 → Calls Tryz.prog K (#[.int .u32 x0] ++ caps) w' fun e w'' => e = .returned (.int .u32 y0) ∧ Acc w' w'' B v1)
    (s1 : ∀ w', Acc w w' B v1 → Calls Tryz.prog K (#[.int .u32 x1] ++ caps) w' fun e w'' => e = .returned (.int .u32 y1) ∧ Acc w' w'' B v2)
    (s2 : ∀ w', Acc w w' B v2 → Calls Tryz.prog K (#[.int .u32 x2] ++ caps) w' fun e w'' => e = .returned (.int .u32 y2) ∧ Acc w' w'' B v3) :
    Calls Tryz.prog 84 #[.agg #[.int .u32 x0, .int .u32 x1, .int .u32 x2], .func (.func K) #[] caps] w fun e w' => e = .returned (.agg #[.int .u32 y0, .int .u32 y1, .int .u32 y2]) ∧ Acc w w' B v3 := by
  have HS0 : Hid (∀ w', Acc w w' B v0 → Calls Tryz.prog K (#[.int .u32 x0] ++ caps) w' fun e w'' => e = .returned (.int .u32 y0) ∧ Acc w' w'' B v1) := s0
  have HS1 : Hid (∀ w', Acc w w' B v1 → Calls Tryz.prog K (#[.int .u32 x1] ++ caps) w' fun e w'' => e = .returned (.int .u32 y1) ∧ Acc w' w'' B v2) := s1
  have HS2 : Hid (∀ w', Acc w w' B v2 → Calls Tryz.prog K (#[.int .u32 x2] ++ caps) w' fun e w'' => e = .returned (.int .u32 y2) ∧ Acc w' w'' B v3) := s2
  have HA : Hid (Acc w w B v0) := h
  clear s0 s1 s2 h
  go_enter Tryz.func84, Tryz.ntmps84
  go_wp2_with fail
  refine wp_loop_rounds 4 ?_
  rw [rounds_succ]
  go_wp2_with fail
  refine (HS0.out _ ((HA.out.alloc _).alloc _)).mono ?_
  rintro e w1 ⟨rfl, h1⟩
  have hB := HA.out.old
  have T1 : Trio w1 w.heap.size (.int .u32 x0) (.int .u32 x1) (.int .u32 x2) := (trio_a _ _ _ _ _).acc h1 (by omega)
  have R1 : Trio w1 (w.heap.size + 1) (.int .u32 0) (.int .u32 0) (.int .u32 0) := (trio_b _ _ _ _ _).acc h1 (by omega)
  have A1 := ((HA.out.alloc _).alloc _).trans h1
  have c0 := T1.c0
  have f0 := T1.free 0
  have T1' := T1.set0 (.int .u32 y0)
  have d1 := T1'.c1
  have HT : Hid (Trio (w1.setCell ⟨w.heap.size, 0, none⟩ (.int .u32 y0)) w.heap.size (.int .u32 y0) (.int .u32 x1) (.int .u32 x2)) := T1'
  have HR : Hid (Trio (w1.setCell ⟨w.heap.size, 0, none⟩ (.int .u32 y0)) (w.heap.size + 1) (.int .u32 0) (.int .u32 0) (.int .u32 0)) := R1.other _ _ (by omega)
  have HA1 : Hid (Acc w (w1.setCell ⟨w.heap.size, 0, none⟩ (.int .u32 y0)) B v1) := A1.setNew _ _ _ (Nat.le_refl _)
  clear h1 T1 R1 A1 T1' HA HS0
  go_wp2_with fail
  rw [rounds_succ]
  go_wp2_with fail
  refine (HS1.out _ HA1.out).mono ?_
  rintro e w2 ⟨rfl, h2⟩
  have T2 := HT.out.acc h2 (by omega)
  have R2 := HR.out.acc h2 (by omega)
  have A2 := HA1.out.trans h2
  clear c0 f0 d1 HT HR HA1 HS1 h2
  have c1 := T2.c1
  have f1 := T2.free 1
  have T2' := T2.set1 (.int .u32 y1)
  have d2 := T2'.c2
  have HT : Hid (Trio (w2.setCell ⟨w.heap.size, 1, none⟩ (.int .u32 y1)) w.heap.size (.int .u32 y0) (.int .u32 y1) (.int .u32 x2)) := T2'
  have HR : Hid (Trio (w2.setCell ⟨w.heap.size, 1, none⟩ (.int .u32 y1)) (w.heap.size + 1) (.int .u32 0) (.int .u32 0) (.int .u32 0)) := R2.other _ _ (by omega)
  have HA2 : Hid (Acc w (w2.setCell ⟨w.heap.size, 1, none⟩ (.int .u32 y1)) B v2) := A2.setNew _ _ _ (Nat.le_refl _)
  clear T2 R2 A2 T2'
  go_wp2_with fail
  rw [rounds_succ]
  go_wp2_with fail
  refine (HS2.out _ HA2.out).mono ?_
  rintro e w3 ⟨rfl, h3⟩
  have T3 := HT.out.acc h3 (by omega)
  have R3 := HR.out.acc h3 (by omega)
  have A3 := HA2.out.trans h3
  clear c1 f1 d2 HT HR HA2 HS2 h3
  have c2 := T3.c2
  have f2 := T3.free 2
  have T3' := T3.set2 (.int .u32 y2)
  have R3' := R3.other (G' := w.heap.size) 2 (.int .u32 y2) (by omega)
  have e0 := T3'.c0
  have e1 := T3'.c1
  have e2 := T3'.c2
  have r0 := R3'.c0
  have r1 := R3'.c1
  have r2 := R3'.c2
  have g0 := R3'.free 0
  have g1 := R3'.free 1
  have g2 := R3'.free 2
  have HR3 : Hid (Trio (w3.setCell ⟨w.heap.size, 2, none⟩ (.int .u32 y2)) (w.heap.size + 1) (.int .u32 0) (.int .u32 0) (.int .u32 0)) := R3'
  have HA3 : Hid (Acc w (w3.setCell ⟨w.heap.size, 2, none⟩ (.int .u32 y2)) B v3) := A3.setNew _ _ _ (Nat.le_refl _)
  clear T3 R3 A3 T3' R3'
  go_wp2_with fail
  rw [rounds_succ]
  go_wp2_with fail
  have RR := ((HR3.out.set0 (.int .u32 y0)).set1 (.int .u32 y1)).set2 (.int .u32 y2)
  have AA := ((HA3.out.setNew (w.heap.size + 1) 0 (.int .u32 y0) (by omega)).setNew (w.heap.size + 1) 1 (.int .u32 y1) (by omega)).setNew (w.heap.size + 1) 2 (.int .u32 y2) (by omega)
  refine bodyPost_ret (v := .agg #[.int .u32 y0, .int .u32 y1, .int .u32 y2]) (by simp [results, Tryz.results84, RR.c0, RR.c1, RR.c2, go_sem]) rfl ⟨rfl, AA⟩

theorem below_set {B : Nat} {w w' : World} (h : Below B w w') (G i : Nat) (u : Value) (hG : B ≤ G) : Below B w (w'.setCell ⟨G, i, none⟩ u) := by
  refine ⟨h.os, h.tape, h.output, by simp [World.setCell]; exact h.size, fun k hk => ?_⟩
  rw [← h.block k hk]
  simp only [World.setCell, Array.getElem?_modify]
  rw [if_neg (by omega)]
theorem Acc.below {w0 w1 w : World} {B : Nat} {v : Value} (hb : Below w0.heap.size w0 w1) (h : Acc w1 w B v) (hB : w0.heap.size ≤ B) : Below w0.heap.size w0 w :=
  hb.trans ⟨h.os, h.tape, h.output, h.size, fun k hk => h.block k (Nat.lt_of_lt_of_le hk hb.size) (by omega)⟩

theorem trio_c (w : World) (cs : Array Value) (x y z u : Value) (T : TypeId) :
    ((((w.alloc (.cells cs 59)).alloc (.cells #[x, y, z] 59)).alloc (.cells #[u] T)).cell? ⟨w.heap.size + 1 + 1, 0, none⟩ = some u) ∧
    ((((w.alloc (.cells cs 59)).alloc (.cells #[x, y, z] 59)).alloc (.cells #[u] T)).frozen? ⟨w.heap.size + 1 + 1, 0, none⟩ = false) ∧
    Trio (((w.alloc (.cells cs 59)).alloc (.cells #[x, y, z] 59)).alloc (.cells #[u] T)) (w.heap.size + 1) x y z := by
  have e : (((w.heap.push (.cells cs 59)).push (.cells #[x, y, z] 59)).push (.cells #[u] T))[w.heap.size + 1 + 1]? = some (.cells #[u] T) := by
    have : w.heap.size + 1 + 1 = ((w.heap.push (.cells cs 59)).push (.cells #[x, y, z] 59)).size := by simp
    rw [this, Array.getElem?_push_size]
  refine ⟨?_, ?_, ?_⟩
  · simp only [World.cell?, World.alloc, e]; rfl
  · simp only [World.frozen?, World.alloc, e]; rfl
  · show (((w.heap.push _).push _).push _)[w.heap.size + 1]? = _
    rw [Array.getElem?_push, if_neg (by simp)]
    have : w.heap.size + 1 = (w.heap.push (.cells cs 59)).size := by simp
    rw [this, Array.getElem?_push_size]

theorem Trio.alloc {w : World} {G : Nat} {y0 y1 y2 : Value} (h : Trio w G y0 y1 y2) (o : Obj) : Trio (w.alloc o) G y0 y1 y2 := by
  have hlt : G < w.heap.size := by
    by_cases hh : G < w.heap.size
    · exact hh
    · unfold Trio at h; rw [Array.getElem?_eq_none (by omega)] at h; cases h
  unfold Trio at *
  show (w.heap.push o)[G]? = _
  rw [Array.getElem?_push, if_neg (by omega)]; exact h

theorem below_put {B : Nat} {w w' : World} (h : Below B w w') (G i j k : Nat) (u v x : Value) (hG : B ≤ G) : Below B w (((w'.setCell ⟨G, i, none⟩ u).setCell ⟨G, j, none⟩ v).setCell ⟨G, k, none⟩ x).drew :=
  (below_set (below_set (below_set h G i u hG) G j v hG) G k x hG).drew

theorem bel2 (w : World) (o1 o2 : Obj) : Below w.heap.size w ((w.alloc o1).alloc o2) := ((Below.refl _ _).alloc (Nat.le_refl _) o1).alloc (by simp) o2
theorem bel3 (w : World) (o1 o2 o3 : Obj) : Below w.heap.size w (((w.alloc o1).alloc o2).alloc o3) := (bel2 w o1 o2).alloc (by simp; omega) _

theorem Acc.keep {w0 w : World} {B M : Nat} {v u : Value} (h : Acc w0 w B v) (hc : w0.cell? ⟨M, 0, none⟩ = some u) (hM : M ≠ B) : w.cell? ⟨M, 0, none⟩ = some u := by
  have hlt : M < w0.heap.size := by
    by_cases hh : M < w0.heap.size
    · exact hh
    · simp [World.cell?, Array.getElem?_eq_none (show w0.heap.size ≤ M by omega)] at hc
  rw [← hc]
  exact World.cell?_of_block (w := w0) (a := ⟨M, 0, none⟩) (h.block M hlt hM)

theorem bel4 (w : World) (o1 o2 o3 o4 : Obj) : Below w.heap.size w ((((w.alloc o1).alloc o2).alloc o3).alloc o4) := (bel3 w o1 o2 o3).alloc (by simp; omega) _

theorem trio_d (w : World) (cs : Array Value) (m : Value) (T : TypeId) (x y z u : Value) (U : TypeId) :
    (((((w.alloc (.cells cs 59)).alloc (.cells #[m] T)).alloc (.cells #[x, y, z] 59)).alloc (.cells #[u] U)).cell? ⟨w.heap.size + 1 + 1 + 1, 0, none⟩ = some u) ∧
    (((((w.alloc (.cells cs 59)).alloc (.cells #[m] T)).alloc (.cells #[x, y, z] 59)).alloc (.cells #[u] U)).frozen? ⟨w.heap.size + 1 + 1 + 1, 0, none⟩ = false) ∧
    Trio ((((w.alloc (.cells cs 59)).alloc (.cells #[m] T)).alloc (.cells #[x, y, z] 59)).alloc (.cells #[u] U)) (w.heap.size + 1 + 1) x y z ∧
    ((((w.alloc (.cells cs 59)).alloc (.cells #[m] T)).alloc (.cells #[x, y, z] 59)).alloc (.cells #[u] U)).cell? ⟨w.heap.size + 1, 0, none⟩ = some m := by
  have s1 : w.heap.size + 1 = (w.heap.push (.cells cs 59)).size := by simp
  have s2 : w.heap.size + 1 + 1 = ((w.heap.push (.cells cs 59)).push (.cells #[m] T)).size := by simp
  have s3 : w.heap.size + 1 + 1 + 1 = (((w.heap.push (.cells cs 59)).push (.cells #[m] T)).push (.cells #[x, y, z] 59)).size := by simp
  have e : ((((w.heap.push (.cells cs 59)).push (.cells #[m] T)).push (.cells #[x, y, z] 59)).push (.cells #[u] U))[w.heap.size + 1 + 1 + 1]? = some (.cells #[u] U) := by
    rw [s3, Array.getElem?_push_size]
  have em : ((((w.heap.push (.cells cs 59)).push (.cells #[m] T)).push (.cells #[x, y, z] 59)).push (.cells #[u] U))[w.heap.size + 1]? = some (.cells #[m] T) := by
    rw [Array.getElem?_push, if_neg (by simp), Array.getElem?_push, if_neg (by simp), s1, Array.getElem?_push_size]
  refine ⟨?_, ?_, ?_, ?_⟩
  · simp only [World.cell?, World.alloc, e]; rfl
  · simp only [World.frozen?, World.alloc, e]; rfl
  · show ((((w.heap.push _).push _).push _).push _)[w.heap.size + 1 + 1]? = _
    rw [Array.getElem?_push, if_neg (by simp), s2, Array.getElem?_push_size]
  · simp only [World.cell?, World.alloc, em]; rfl

end Go.Proofs.YtgipkpkjoicehaaGreatDoor.words

/- What Plus and Times do to a number that is carried on. -/
namespace Go.Proofs.YtgipkpkjoicehaaGreatDoor.words
open Go.RowKit

theorem cutWord_any (B : Nat) (n : Int) (w : World) (hc : w.cell? ⟨B, 0, none⟩ = some (.int .u64 n)) (hf : w.frozen? ⟨B, 0, none⟩ = false) :
    Calls Tryz.prog 86 #[.pointer (some ⟨B, 0, none⟩)] w fun e w' => e = .returned (.int .u32 (n % 4294967296)) ∧ w' = w.setCell ⟨B, 0, none⟩ (.int .u64 (n / 4294967296)) := by
  go_enter Tryz.func86, Tryz.ntmps86
  go_wp2
  go_ret
  exact ⟨rfl, rfl⟩

/-- A number's word, carried on by Plus. -/
theorem plusStep_any (B : Nat) (n x : Int) (w : World) (hc : w.cell? ⟨B, 0, none⟩ = some (.int .u64 n)) (hf : w.frozen? ⟨B, 0, none⟩ = false) (h0 : 0 ≤ n) (h1 : n ≤ 4294967296) (x0 : 0 ≤ x) (x1 : x < 4294967296) :
    Calls Tryz.prog 87 #[.int .u32 x, .pointer (some ⟨B, 0, none⟩)] w fun e w' => e = .returned (.int .u32 ((n + x) % 4294967296)) ∧ Acc w w' B (.int .u64 ((n + x) / 4294967296)) := by
  have hA : Acc w w B (.int .u64 n) := Acc.refl hc hf
  have HA : Hid (Acc w w B (.int .u64 n)) := hA
  clear hA
  go_enter Tryz.func87, Tryz.ntmps87
  go_wp2_with fail
  refine (cutWord_any B (n + x) _ (by apply World.cell?_setCell_same; exact hc) (by rw [World.frozen?_setCell]; exact hf)).mono ?_
  rintro e w' ⟨rfl, rfl⟩
  go_wp2_with fail
  go_ret
  exact ⟨rfl, (HA.out.set _).set _⟩

/-- A number's word, carried on by Times. -/
theorem timesStep_any (B M : Nat) (n x m : Int) (w : World) (hc : w.cell? ⟨B, 0, none⟩ = some (.int .u64 n)) (hf : w.frozen? ⟨B, 0, none⟩ = false) (hm : w.cell? ⟨M, 0, none⟩ = some (.int .u32 m)) (h0 : 0 ≤ n) (h1 : n < 4294967296) (x0 : 0 ≤ x) (x1 : x < 4294967296) (m0 : 0 ≤ m) (m1 : m < 4294967296) :
    Calls Tryz.prog 85 #[.int .u32 x, .pointer (some ⟨B, 0, none⟩), .pointer (some ⟨M, 0, none⟩)] w fun e w' => e = .returned (.int .u32 ((n + x * m) % 4294967296)) ∧ Acc w w' B (.int .u64 ((n + x * m) / 4294967296)) := by
  have hA : Acc w w B (.int .u64 n) := Acc.refl hc hf
  have HA : Hid (Acc w w B (.int .u64 n)) := hA
  obtain ⟨p1, p2⟩ := prod_bd x0 x1 m0 m1
  clear hA
  go_enter Tryz.func85, Tryz.ntmps85
  go_wp2_with fail
  refine (cutWord_any B (n + x * m) _ (by apply World.cell?_setCell_same; exact hc) (by rw [World.frozen?_setCell]; exact hf)).mono ?_
  rintro e w' ⟨rfl, rfl⟩
  go_wp2_with fail
  go_ret
  exact ⟨rfl, (HA.out.set _).set _⟩

theorem run_plusStep (args : Array Value) (w : World) : (callFunc 87 args).run Tryz.prog w = .ok (.enter 87 args) w := by kernel_rfl

end Go.Proofs.YtgipkpkjoicehaaGreatDoor.words

/- What words.Plus and words.Times give back. -/
namespace Go.Proofs.YtgipkpkjoicehaaGreatDoor.words
open Go.RowKit

/-- A wide number as the program holds it. -/
abbrev wv (w : W3) : Value := .agg #[.int .u32 w.a, .int .u32 w.b, .int .u32 w.c]

set_option maxHeartbeats 1000000 in
theorem plus_any (x : W3) (a : Int) (w : World) (hx : x.ok) (a0 : 0 ≤ a) (a1 : a < 4294967296) :
    Calls Tryz.prog 56 #[wv x, .int .u32 a] w fun e w' => e = .returned (.tuple #[wv (plusW x a), .int .u32 (plusO x a)]) ∧ Below w.heap.size w w' := by
  obtain ⟨x0, x1, x2⟩ := x
  obtain ⟨⟨h0, h0'⟩, ⟨h1, h1'⟩, h2, h2'⟩ := hx
  simp only at h0 h0' h1 h1' h2 h2'
  go_enter Tryz.func56, Tryz.ntmps56
  go_wp2_with fail
  have hB : w.heap.size + 1 + 1 = ((w.alloc (.cells #[.int .u32 x0, .int .u32 x1, .int .u32 x2] 59)).alloc (.cells #[.int .u32 0, .int .u32 0, .int .u32 0] 59)).heap.size := by simp
  have hc := trio_c w #[.int .u32 x0, .int .u32 x1, .int .u32 x2] (.int .u32 0) (.int .u32 0) (.int .u32 0) (.int .u64 a) 36
  have hb3 := bel3 w (.cells #[.int .u32 x0, .int .u32 x1, .int .u32 x2] 59) (.cells #[.int .u32 0, .int .u32 0, .int .u32 0] 59) (.cells #[.int .u64 a] 36)
  refine (upward_any 87 #[.pointer (some ⟨w.heap.size + 1 + 1, 0, none⟩)] (w.heap.size + 1 + 1) (.int .u64 a) (.int .u64 ((a + x0) / 4294967296)) (.int .u64 (((a + x0) / 4294967296 + x1) / 4294967296)) (.int .u64 ((((a + x0) / 4294967296 + x1) / 4294967296 + x2) / 4294967296)) x0 x1 x2
    ((a + x0) % 4294967296) (((a + x0) / 4294967296 + x1) % 4294967296) ((((a + x0) / 4294967296 + x1) / 4294967296 + x2) % 4294967296) _ (Acc.refl hc.1 hc.2.1) run_plusStep
    (fun w' h => plusStep_any _ _ _ w' h.cell h.free (by omega) (by omega) h0 h0')
    (fun w' h => plusStep_any _ _ _ w' h.cell h.free (by omega) (by omega) h1 h1')
    (fun w' h => plusStep_any _ _ _ w' h.cell h.free (by omega) (by omega) h2 h2')).mono ?_
  rintro e w1 ⟨he, hA⟩
  have hR : Trio w1 (w.heap.size + 1) (.int .u32 0) (.int .u32 0) (.int .u32 0) := hc.2.2.acc hA (by omega)
  have HB : Hid (Below w.heap.size w w1) := hA.below hb3 (by omega)
  have hcell := hA.cell
  have hsz : w.heap.size + 1 + 1 < w1.heap.size := Nat.lt_of_lt_of_le hA.old hA.size
  have EW : wv (plusW ⟨x0, x1, x2⟩ a) = .agg #[.int .u32 ((a + x0) % 4294967296), .int .u32 (((a + x0) / 4294967296 + x1) % 4294967296), .int .u32 ((((a + x0) / 4294967296 + x1) / 4294967296 + x2) % 4294967296)] := rfl
  have EO : plusO ⟨x0, x1, x2⟩ a = (((a + x0) / 4294967296 + x1) / 4294967296 + x2) / 4294967296 := rfl
  have z0 : 0 ≤ (((a + x0) / 4294967296 + x1) / 4294967296 + x2) / 4294967296 := by omega
  have z1 : (((a + x0) / 4294967296 + x1) / 4294967296 + x2) / 4294967296 ≤ 1 := by omega
  have HE : Hid (.returned (.tuple #[wv (plusW ⟨x0, x1, x2⟩ a), .int .u32 (plusO ⟨x0, x1, x2⟩ a)]) = Ending.returned (.tuple #[.agg #[.int .u32 ((a + x0) % 4294967296), .int .u32 (((a + x0) / 4294967296 + x1) % 4294967296), .int .u32 ((((a + x0) / 4294967296 + x1) / 4294967296 + x2) % 4294967296)], .int .u32 ((((a + x0) / 4294967296 + x1) / 4294967296 + x2) / 4294967296)])) := by
    have : Ending.returned (.tuple #[wv (plusW ⟨x0, x1, x2⟩ a), .int .u32 (plusO ⟨x0, x1, x2⟩ a)]) = Ending.returned (.tuple #[.agg #[.int .u32 ((a + x0) % 4294967296), .int .u32 (((a + x0) / 4294967296 + x1) % 4294967296), .int .u32 ((((a + x0) / 4294967296 + x1) / 4294967296 + x2) % 4294967296)], .int .u32 ((((a + x0) / 4294967296 + x1) / 4294967296 + x2) / 4294967296)]) := by rw [EW, EO]
    exact this
  clear hA hc hb3 hB EW EO
  have HE2 : Hid (e = .returned (.agg #[.int .u32 ((a + x0) % 4294967296), .int .u32 (((a + x0) / 4294967296 + x1) % 4294967296), .int .u32 ((((a + x0) / 4294967296 + x1) / 4294967296 + x2) % 4294967296)])) := he
  clear he
  generalize hz : (((a + x0) / 4294967296 + x1) / 4294967296 + x2) / 4294967296 = z at hcell z0 z1 HE HE2
  generalize hy0 : (a + x0) % 4294967296 = y0 at HE HE2
  generalize hy1 : ((a + x0) / 4294967296 + x1) % 4294967296 = y1 at HE HE2
  generalize hy2 : (((a + x0) / 4294967296 + x1) / 4294967296 + x2) % 4294967296 = y2 at HE HE2
  clear hz hy0 hy1 hy2
  obtain rfl := HE2.out
  clear HE2
  have hR := hR.alloc (.cells #[.int .u32 y0, .int .u32 y1, .int .u32 y2] 59)
  have r0 := hR.c0
  have r1 := hR.c1
  have r2 := hR.c2
  have g0 := hR.free 0
  have g1 := hR.free 1
  have g2 := hR.free 2
  have HR : Hid (Trio (w1.alloc (.cells #[.int .u32 y0, .int .u32 y1, .int .u32 y2] 59)) (w.heap.size + 1) (.int .u32 0) (.int .u32 0) (.int .u32 0)) := hR
  clear hR
  go_wp2_with fail
  go_region
  all_goals go_wp2_with fail
  have RR := ((HR.out.set0 (.int .u32 y0)).set1 (.int .u32 y1)).set2 (.int .u32 y2)
  refine bodyPost_ret (v := .tuple #[.agg #[.int .u32 y0, .int .u32 y1, .int .u32 y2], .int .u32 z]) (by simp [results, Tryz.results56, RR.c0, RR.c1, RR.c2, go_sem]) rfl ⟨HE.out.symm, ?_⟩
  exact below_put (HB.out.alloc HB.out.size _) _ _ _ _ _ _ _ (by omega)

end Go.Proofs.YtgipkpkjoicehaaGreatDoor.words

/- What words.Times gives back. -/
namespace Go.Proofs.YtgipkpkjoicehaaGreatDoor.words
open Go.RowKit

theorem run_timesStep (args : Array Value) (w : World) : (callFunc 85 args).run Tryz.prog w = .ok (.enter 85 args) w := by kernel_rfl

set_option maxHeartbeats 1000000 in
theorem times_any (x : W3) (m : Int) (w : World) (hx : x.ok) (m0 : 0 ≤ m) (m1 : m < 4294967296) :
    Calls Tryz.prog 55 #[wv x, .int .u32 m] w fun e w' => e = .returned (.tuple #[wv (timesW x m), .int .u32 (timesO x m)]) ∧ Below w.heap.size w w' := by
  obtain ⟨x0, x1, x2⟩ := x
  obtain ⟨⟨h0, h0'⟩, ⟨h1, h1'⟩, h2, h2'⟩ := hx
  simp only at h0 h0' h1 h1' h2 h2'
  go_enter Tryz.func55, Tryz.ntmps55
  go_wp2_with fail
  obtain ⟨p0, p0'⟩ := prod_bd h0 h0' m0 m1
  obtain ⟨p1, p1'⟩ := prod_bd h1 h1' m0 m1
  obtain ⟨p2, p2'⟩ := prod_bd h2 h2' m0 m1
  have hc := trio_d w #[.int .u32 x0, .int .u32 x1, .int .u32 x2] (.int .u32 m) 51 (.int .u32 0) (.int .u32 0) (.int .u32 0) (.int .u64 0) 36
  have hb3 := bel4 w (.cells #[.int .u32 x0, .int .u32 x1, .int .u32 x2] 59) (.cells #[.int .u32 m] 51) (.cells #[.int .u32 0, .int .u32 0, .int .u32 0] 59) (.cells #[.int .u64 0] 36)
  have e0 : (0 : Int) + x0 * m = x0 * m := by omega
  refine (upward_any 85 #[.pointer (some ⟨w.heap.size + 1 + 1 + 1, 0, none⟩), .pointer (some ⟨w.heap.size + 1, 0, none⟩)] (w.heap.size + 1 + 1 + 1) (.int .u64 0) (.int .u64 ((x0 * m) / 4294967296)) (.int .u64 (((x0 * m) / 4294967296 + x1 * m) / 4294967296)) (.int .u64 ((((x0 * m) / 4294967296 + x1 * m) / 4294967296 + x2 * m) / 4294967296)) x0 x1 x2
    ((x0 * m) % 4294967296) (((x0 * m) / 4294967296 + x1 * m) % 4294967296) ((((x0 * m) / 4294967296 + x1 * m) / 4294967296 + x2 * m) % 4294967296) _ (Acc.refl hc.1 hc.2.1) run_timesStep
    (fun w' h => by have := timesStep_any (w.heap.size + 1 + 1 + 1) (w.heap.size + 1) 0 x0 m w' h.cell h.free (h.keep hc.2.2.2 (by omega)) (by omega) (by omega) h0 h0' m0 m1; rw [e0] at this; exact this)
    (fun w' h => timesStep_any _ _ _ _ _ w' h.cell h.free (h.keep hc.2.2.2 (by omega)) (by omega) (by omega) h1 h1' m0 m1)
    (fun w' h => timesStep_any _ _ _ _ _ w' h.cell h.free (h.keep hc.2.2.2 (by omega)) (by omega) (by omega) h2 h2' m0 m1)).mono ?_
  rintro e w1 ⟨he, hA⟩
  have hR : Trio w1 (w.heap.size + 1 + 1) (.int .u32 0) (.int .u32 0) (.int .u32 0) := hc.2.2.1.acc hA (by omega)
  have HB : Hid (Below w.heap.size w w1) := hA.below hb3 (by omega)
  have hcell := hA.cell
  have hsz : w.heap.size + 1 + 1 + 1 < w1.heap.size := Nat.lt_of_lt_of_le hA.old hA.size
  have EW : wv (timesW ⟨x0, x1, x2⟩ m) = .agg #[.int .u32 ((x0 * m) % 4294967296), .int .u32 (((x0 * m) / 4294967296 + x1 * m) % 4294967296), .int .u32 ((((x0 * m) / 4294967296 + x1 * m) / 4294967296 + x2 * m) % 4294967296)] := rfl
  have EO : timesO ⟨x0, x1, x2⟩ m = (((x0 * m) / 4294967296 + x1 * m) / 4294967296 + x2 * m) / 4294967296 := rfl
  have z0 : 0 ≤ (((x0 * m) / 4294967296 + x1 * m) / 4294967296 + x2 * m) / 4294967296 := by omega
  have z1 : (((x0 * m) / 4294967296 + x1 * m) / 4294967296 + x2 * m) / 4294967296 < 4294967296 := by omega
  have HE : Hid (.returned (.tuple #[wv (timesW ⟨x0, x1, x2⟩ m), .int .u32 (timesO ⟨x0, x1, x2⟩ m)]) = Ending.returned (.tuple #[.agg #[.int .u32 ((x0 * m) % 4294967296), .int .u32 (((x0 * m) / 4294967296 + x1 * m) % 4294967296), .int .u32 ((((x0 * m) / 4294967296 + x1 * m) / 4294967296 + x2 * m) % 4294967296)], .int .u32 ((((x0 * m) / 4294967296 + x1 * m) / 4294967296 + x2 * m) / 4294967296)])) := by
    have : Ending.returned (.tuple #[wv (timesW ⟨x0, x1, x2⟩ m), .int .u32 (timesO ⟨x0, x1, x2⟩ m)]) = Ending.returned (.tuple #[.agg #[.int .u32 ((x0 * m) % 4294967296), .int .u32 (((x0 * m) / 4294967296 + x1 * m) % 4294967296), .int .u32 ((((x0 * m) / 4294967296 + x1 * m) / 4294967296 + x2 * m) % 4294967296)], .int .u32 ((((x0 * m) / 4294967296 + x1 * m) / 4294967296 + x2 * m) / 4294967296)]) := by rw [EW, EO]
    exact this
  clear hA hc hb3 EW EO e0 p0 p0' p1 p1' p2 p2'
  have HE2 : Hid (e = .returned (.agg #[.int .u32 ((x0 * m) % 4294967296), .int .u32 (((x0 * m) / 4294967296 + x1 * m) % 4294967296), .int .u32 ((((x0 * m) / 4294967296 + x1 * m) / 4294967296 + x2 * m) % 4294967296)])) := he
  clear he
  generalize hz : (((x0 * m) / 4294967296 + x1 * m) / 4294967296 + x2 * m) / 4294967296 = z at hcell z0 z1 HE HE2
  generalize hy0 : (x0 * m) % 4294967296 = y0 at HE HE2
  generalize hy1 : ((x0 * m) / 4294967296 + x1 * m) % 4294967296 = y1 at HE HE2
  generalize hy2 : (((x0 * m) / 4294967296 + x1 * m) / 4294967296 + x2 * m) % 4294967296 = y2 at HE HE2
  clear hz hy0 hy1 hy2
  obtain rfl := HE2.out
  clear HE2
  have hR := hR.alloc (.cells #[.int .u32 y0, .int .u32 y1, .int .u32 y2] 59)
  have r0 := hR.c0
  have r1 := hR.c1
  have r2 := hR.c2
  have g0 := hR.free 0
  have g1 := hR.free 1
  have g2 := hR.free 2
  have HR : Hid (Trio (w1.alloc (.cells #[.int .u32 y0, .int .u32 y1, .int .u32 y2] 59)) (w.heap.size + 1 + 1) (.int .u32 0) (.int .u32 0) (.int .u32 0)) := hR
  clear hR
  go_wp2_with fail
  go_region
  all_goals go_wp2_with fail
  have RR := ((HR.out.set0 (.int .u32 y0)).set1 (.int .u32 y1)).set2 (.int .u32 y2)
  refine bodyPost_ret (v := .tuple #[.agg #[.int .u32 y0, .int .u32 y1, .int .u32 y2], .int .u32 z]) (by simp [results, Tryz.results55, RR.c0, RR.c1, RR.c2, go_sem]) rfl ⟨HE.out.symm, ?_⟩
  exact below_put (HB.out.alloc HB.out.size _) _ _ _ _ _ _ _ (by omega)

end Go.Proofs.YtgipkpkjoicehaaGreatDoor.words

/- Wide numbers in variables of their own, while calls are made. -/
namespace Go.Proofs.YtgipkpkjoicehaaGreatDoor.words
open Go.RowKit

theorem u32_bd {x : Int} (h : (Lit.int .u32 x).wf = true) : 0 ≤ x ∧ x < 4294967296 := by
  have := bounds_u32 h
  omega
theorem ok_wf {x y z : Int} (h : (Lit.int .u32 x).wf = true ∧ (Lit.int .u32 y).wf = true ∧ (Lit.int .u32 z).wf = true) : W3.ok ⟨x, y, z⟩ := ⟨u32_bd h.1, u32_bd h.2.1, u32_bd h.2.2⟩

/-- A wide number lies in block G. -/
abbrev Wat (w : World) (G : Nat) (x : W3) : Prop := Trio w G (.int .u32 x.a) (.int .u32 x.b) (.int .u32 x.c)

theorem Trio.lt {w : World} {G : Nat} {y0 y1 y2 : Value} (h : Trio w G y0 y1 y2) : G < w.heap.size := by
  by_cases hh : G < w.heap.size
  · exact hh
  · unfold Trio at h; rw [Array.getElem?_eq_none (by omega)] at h; cases h
theorem Trio.below {w w' : World} {G : Nat} {y0 y1 y2 : Value} (h : Trio w G y0 y1 y2) (hb : Below w.heap.size w w') : Trio w' G y0 y1 y2 := by
  have hlt := h.lt
  unfold Trio at *
  rw [hb.block G hlt]; exact h
theorem trio_new (w : World) (x y z : Value) : Trio (w.alloc (.cells #[x, y, z] 59)) w.heap.size x y z := by
  show (w.heap.push _)[w.heap.size]? = _
  rw [Array.getElem?_push_size]

/-- A wide number is written into block G. -/
abbrev put3 (w : World) (G : Nat) (a b c : Value) : World := ((w.setCell ⟨G, 0, none⟩ a).setCell ⟨G, 1, none⟩ b).setCell ⟨G, 2, none⟩ c
theorem Trio.put {w : World} {G : Nat} {y0 y1 y2 : Value} (h : Trio w G y0 y1 y2) (a b c : Value) : Trio (put3 w G a b c) G a b c := ((h.set0 a).set1 b).set2 c
theorem Trio.putOther {w : World} {G G' : Nat} {y0 y1 y2 : Value} (h : Trio w G y0 y1 y2) (hne : G' ≠ G) (a b c : Value) : Trio (put3 w G' a b c) G y0 y1 y2 := ((h.other 0 a hne).other 1 b hne).other 2 c hne
theorem below_put3 {B : Nat} {w w' : World} (h : Below B w w') (G : Nat) (u v x : Value) (hG : B ≤ G) : Below B w (put3 w' G u v x) := below_set (below_set (below_set h G 0 u hG) G 1 v hG) G 2 x hG

theorem agg_ne {x y : W3} (h : x ≠ y) : ¬ (x.a = y.a ∧ x.b = y.b ∧ x.c = y.c) := fun ⟨h1, h2, h3⟩ => h (by cases x; cases y; simp_all)

end Go.Proofs.YtgipkpkjoicehaaGreatDoor.words

/- Wide numbers, with Plus and Times. -/


/- Slices of words: how they lie, and what trim and words make of them. -/
namespace Go.Proofs.YtgipkpkjoicehaaGreatDoor.words
open Go.RowKit
set_option maxRecDepth 100000

/-- Block b is a row of words. -/
def Ty (w : World) (b : Nat) : Prop := ∃ cs fr, w.heap[b]? = some (.cells cs 51 fr)
theorem Ty.lt {w : World} {b : Nat} (h : Ty w b) : b < w.heap.size := by
  obtain ⟨cs, fr, h⟩ := h
  by_cases hh : b < w.heap.size
  · exact hh
  · rw [Array.getElem?_eq_none (by omega)] at h; cases h
theorem Ty.same {w w' : World} {b : Nat} (h : Ty w b) (e : w'.heap[b]? = w.heap[b]?) : Ty w' b := by
  obtain ⟨cs, fr, h⟩ := h
  exact ⟨cs, fr, e.trans h⟩
theorem ty_new (w : World) (cs : Array Value) : Ty (w.alloc (.cells cs 51)) w.heap.size := by
  refine ⟨cs, (0, 0), ?_⟩
  show (w.heap.push _)[w.heap.size]? = _
  rw [Array.getElem?_push_size]

/-- The slice a, of length n, holds the words l. -/
structure Ru (w : World) (a : Option Addr) (n cap : Nat) (l : List Nat) : Prop where
  len : l.length = n
  lt : ∀ x ∈ l, x < 4294967296
  nil : a = none → cap = 0
  room : n ≤ cap
  cell : n = 0 ∨ ∃ b off, a = some ⟨b, off, none⟩ ∧ ∀ i, i < n → w.cell? ⟨b, off + i, none⟩ = some (.int .u32 ((l.getD i 0 : Nat) : Int))
  typ : ∀ b off s, a = some ⟨b, off, s⟩ → n ≠ 0 → Ty w b

theorem Ru.below {w w' : World} {a : Option Addr} {n cap : Nat} {l : List Nat} (h : Ru w a n cap l) (hb : Below w.heap.size w w') : Ru w' a n cap l := by
  refine ⟨h.len, h.lt, h.nil, h.room, ?_, fun b off s e hn => (h.typ b off s e hn).same (hb.block b (h.typ b off s e hn).lt)⟩
  rcases h.cell with h0 | ⟨b, off, rfl, hc⟩
  · exact .inl h0
  · refine .inr ⟨b, off, rfl, fun i hi => ?_⟩
    have h1 := hc i hi
    rw [hb.cell (p := ⟨b, off + i, none⟩) (World.block_lt_of_cell? w _ h1)]
    exact h1

theorem Ru.at {w : World} {a : Option Addr} {n cap : Nat} {l : List Nat} (h : Ru w a n cap l) {i : Nat} (hi : i < n) : ∃ b off, a = some ⟨b, off, none⟩ ∧ w.cell? ⟨b, off + i, none⟩ = some (.int .u32 ((l.getD i 0 : Nat) : Int)) := by
  rcases h.cell with h0 | ⟨b, off, rfl, hc⟩
  · omega
  · exact ⟨b, off, rfl, hc i hi⟩
theorem Ru.word {w : World} {a : Option Addr} {n cap : Nat} {l : List Nat} (h : Ru w a n cap l) (i : Nat) : l.getD i 0 < 4294967296 := by
  by_cases hi : i < l.length
  · exact h.lt _ (by simp [List.getD, List.getElem?_eq_getElem hi])
  · simp [List.getD, List.getElem?_eq_none (show l.length ≤ i by omega)]

/-- A slice was given back that holds a number's words; what was there stands. -/
def Gives (w : World) (m : Nat) (e : Ending) (w' : World) : Prop := ∃ a n cap, e = .returned (.slice a n cap) ∧ Ru w' a n cap (dig m) ∧ Below w.heap.size w w'
theorem Gives.mk {w w' : World} {m n cap : Nat} {a : Option Addr} (h1 : Ru w' a n cap (dig m)) (h2 : Below w.heap.size w w') : Gives w m (.returned (.slice a n cap)) w' := ⟨a, n, cap, rfl, h1, h2⟩

theorem slice_top (a : Option Addr) (n cap k : Nat) (w : World) (hk : k ≤ n) (hn : n ≤ cap) (ha : a = none → cap = 0) : (Instr.slice 22 (.slice a n cap) none (some (.int .i64 (k : Int))) none).run Tryz.prog w = .ok (.slice a k cap) w := by
  have h1 : k ≤ cap := by omega
  cases a with
  | none =>
    have := ha rfl
    have : k = 0 := by omega
    subst_vars
    simp [Instr.slice, Instr.sliceBounds, Instr.sliceBound, asIntOf, run_underlying Tryz.underlying22, go_sem]
  | some x => simp [Instr.slice, Instr.sliceBounds, Instr.sliceBound, asIntOf, run_underlying Tryz.underlying22, h1, go_sem]

set_option maxHeartbeats 1000000 in
theorem trim_any (a : Option Addr) (n cap : Nat) (l : List Nat) (w : World) (h : Ru w a n cap l) (hn : n ≤ 1000) :
    Calls Tryz.prog 103 #[.slice a n cap] w fun e w' => Gives w (nv l) e w' := by
  have HR : Hid (Ru w a n cap l) := h
  clear h
  go_enter Tryz.func103, Tryz.ntmps103
  go_wp2_with fail
  go_loop [3] (fun v => ∃ k : Nat, k ≤ n ∧ v = .int .i64 k ∧ ∀ i, k ≤ i → i < n → l.getD i 0 = 0) (fun v => (intOf v).toNat)
  case atStart => exact ⟨n, Nat.le_refl _, rfl, fun i h1 h2 => by omega⟩
  case round =>
    obtain ⟨k, hk, rfl, hz⟩ := hrel
    have HZ : Hid (∀ i, k ≤ i → i < n → l.getD i 0 = 0) := hz
    clear hz
    have fin : (k = 0 ∨ l.getD (k - 1) 0 ≠ 0) → Gives w (nv l) (.returned (.slice a k cap)) w := fun hh => by
      have e := trim_dig l k HR.out.lt (by rw [HR.out.len]; exact hk) (fun i h1 h2 => HZ.out i h1 (by rw [HR.out.len] at h2; exact h2)) hh
      refine Gives.mk ?_ (Below.refl _ _)
      rw [← e]
      refine ⟨by rw [List.length_take, HR.out.len]; omega, fun x hx => HR.out.lt x (List.mem_of_mem_take hx), HR.out.nil, Nat.le_trans hk HR.out.room, ?_, fun b off s e hn => HR.out.typ b off s e (by omega)⟩
      rcases HR.out.cell with h0 | ⟨b, off, rfl, hc⟩
      · exact .inl (by omega)
      · refine .inr ⟨b, off, rfl, fun i hi => ?_⟩
        rw [hc i (by omega)]
        congr 3
        simp [List.getD, hi]
    have HF : Hid ((k = 0 ∨ l.getD (k - 1) 0 ≠ 0) → Gives w (nv l) (.returned (.slice a k cap)) w) := fin
    have hsl := slice_top a n cap k w hk HR.out.room HR.out.nil
    clear fin
    by_cases hk0 : k = 0
    · subst hk0
      go_wp2_with fail
      go_ret
      exact HF.out (.inl (by trivial))
    · obtain ⟨b, off, rfl, hc⟩ := HR.out.at (i := k - 1) (by omega)
      have e1 : (k : Int) - 1 = ((k - 1 : Nat) : Int) := by omega
      have kp : (0 : Int) < (k : Int) := by omega
      by_cases hzero : l.getD (k - 1) 0 = 0
      · rw [hzero] at hc
        have HN : Hid (∀ i, k - 1 ≤ i → i < n → l.getD i 0 = 0) := fun i h1 h2 => by
          by_cases e : i = k - 1
          · rw [e]; exact hzero
          · exact HZ.out i (by omega) h2
        clear HF hsl hzero
        have hg : k - 1 < n := by omega
        generalize hgg : k - 1 = g at *
        go_wp2_with fail
        go_round
        case rel => exact ⟨g, by omega, by go_num, HN.out⟩
        case measure => simp [intOf]; omega
      · have hb : ((((l.getD (k - 1) 0 : Nat) : Int)) == 0) = false := beq_eq_false_iff_ne.2 (by omega)
        have HH : Hid (l.getD (k - 1) 0 ≠ 0) := hzero
        clear hzero
        have hg : k - 1 < n := by omega
        generalize ((l.getD (k - 1) 0 : Nat) : Int) = y at hb hc
        generalize hgg : k - 1 = g at hc e1 hg
        go_wp2_with fail
        go_ret
        exact HF.out (.inr HH.out)

theorem ru_two (w : World) (x y : Nat) (hx : x < 4294967296) (hy : y < 4294967296) : Ru (w.alloc (.cells #[.int .u32 (x : Int), .int .u32 (y : Int)] 51)) (some ⟨w.heap.size, 0, none⟩) 2 2 [x, y] := by
  refine ⟨rfl, ?_, (fun h => by cases h), Nat.le_refl _, .inr ⟨w.heap.size, 0, rfl, fun i hi => ?_⟩, fun b off s e _ => by obtain ⟨rfl, -, -⟩ := (by simpa using e : w.heap.size = b ∧ 0 = off ∧ none = s); exact ty_new _ _⟩
  · intro z hz; simp at hz; omega
  · match i, hi with
    | 0, _ => simp
    | 1, _ => simp

theorem words_any (x : Nat) (w : World) (hx : x < 18446744073709551616) :
    Calls Tryz.prog 104 #[.int .u64 (x : Int)] w fun e w' => Gives w x e w' := by
  have h1 : x % 4294967296 < 4294967296 := Nat.mod_lt _ (by decide)
  have h2 : x / 4294967296 < 4294967296 := by omega
  have hr := ru_two w (x % 4294967296) (x / 4294967296) h1 h2
  have HV : Hid (nv [x % 4294967296, x / 4294967296] = x) := (by simp only [nv]; omega : nv [x % 4294967296, x / 4294967296] = x)
  have e1 : ((x : Nat) : Int) % 4294967296 = ((x % 4294967296 : Nat) : Int) := by omega
  have e2 : ((x : Nat) : Int) / 4294967296 = ((x / 4294967296 : Nat) : Int) := by omega
  have HR : Hid (Ru (w.alloc (.cells #[.int .u32 ((x % 4294967296 : Nat) : Int), .int .u32 ((x / 4294967296 : Nat) : Int)] 51)) (some ⟨w.heap.size, 0, none⟩) 2 2 [x % 4294967296, x / 4294967296]) := hr
  have HB : Hid (Below w.heap.size w (w.alloc (.cells #[.int .u32 ((x % 4294967296 : Nat) : Int), .int .u32 ((x / 4294967296 : Nat) : Int)] 51))) := (Below.refl _ w).alloc (Nat.le_refl _) _
  clear hr h1
  generalize x % 4294967296 = lo at *
  generalize x / 4294967296 = hi at *
  go_enter Tryz.func104, Tryz.ntmps104
  go_wp2_with fail
  refine (trim_any _ _ _ _ _ HR.out (by omega)).mono ?_
  rintro e w' ⟨a, n, cap, rfl, hr, hb⟩
  rw [HV.out] at hr
  have HG : Hid (Gives w x (.returned (.slice a n cap)) w') := Gives.mk hr (HB.out.trans (hb.mono HB.out.size))
  clear hr hb
  go_wp2_with fail
  go_ret
  exact HG.out

end Go.Proofs.YtgipkpkjoicehaaGreatDoor.words

/- Numbers of any size behind a pointer: give, NewInt. -/
namespace Go.Proofs.YtgipkpkjoicehaaGreatDoor.words
open Go.RowKit
set_option maxRecDepth 100000

/-- Every block that was there, but z, is as it was. -/
structure Ex (w w' : World) (z : Nat) : Prop where
  os : w'.os = w.os
  tape : w'.tape = w.tape
  output : w'.output = w.output
  size : w.heap.size ≤ w'.heap.size
  block : ∀ k, k < w.heap.size → k ≠ z → w'.heap[k]? = w.heap[k]?

theorem Ex.below {w0 w w' : World} {z : Nat} (hb : Below w0.heap.size w0 w) (h : Ex w w' z) (hz : w0.heap.size ≤ z) : Below w0.heap.size w0 w' :=
  hb.trans ⟨h.os, h.tape, h.output, h.size, fun k hk => h.block k (Nat.lt_of_lt_of_le hk hb.size) (by omega)⟩
theorem Ex.of {w w1 w' : World} {z : Nat} (hb : Below w.heap.size w w1) (h : Ex w1 w' z) : Ex w w' z :=
  ⟨h.os.trans hb.os, h.tape.trans hb.tape, h.output.trans hb.output, Nat.le_trans hb.size h.size, fun k hk hz => (h.block k (Nat.lt_of_lt_of_le hk hb.size) hz).trans (hb.block k hk)⟩
theorem Ex.trans {w w1 w' : World} {z : Nat} (h : Ex w w1 z) (h' : Ex w1 w' z) : Ex w w' z :=
  ⟨h'.os.trans h.os, h'.tape.trans h.tape, h'.output.trans h.output, Nat.le_trans h.size h'.size, fun k hk hz => (h'.block k (Nat.lt_of_lt_of_le hk h.size) hz).trans (h.block k hk hz)⟩

/-- Block z holds a number of any size, of whatever worth. -/
def Ob (w : World) (z : Nat) : Prop := ∃ s a n c, w.heap[z]? = some (.cells #[.bool s, .slice a n c] 77 (0, 0))
/-- Block z holds the number m, which is not below 0. -/
def Bg (w : World) (z m : Nat) : Prop := ∃ a n c, w.heap[z]? = some (.cells #[.bool false, .slice a n c] 77 (0, 0)) ∧ Ru w a n c (dig m)

theorem Bg.ob {w : World} {z m : Nat} (h : Bg w z m) : Ob w z := let ⟨a, n, c, h1, _⟩ := h; ⟨false, a, n, c, h1⟩
theorem heap_lt {w : World} {z : Nat} {o : Obj} (h : w.heap[z]? = some o) : z < w.heap.size := by
  by_cases hh : z < w.heap.size
  · exact hh
  · rw [Array.getElem?_eq_none (by omega)] at h; cases h
theorem Ob.lt {w : World} {z : Nat} (h : Ob w z) : z < w.heap.size := let ⟨_, _, _, _, h⟩ := h; heap_lt h
theorem Ob.below {w w' : World} {z : Nat} (h : Ob w z) (hb : Below w.heap.size w w') : Ob w' z := by
  have hl := h.lt
  obtain ⟨s, a, n, c, h1⟩ := h
  exact ⟨s, a, n, c, by rw [hb.block z hl]; exact h1⟩
theorem Bg.below {w w' : World} {z m : Nat} (h : Bg w z m) (hb : Below w.heap.size w w') : Bg w' z m := by
  have hl := h.ob.lt
  obtain ⟨a, n, c, h1, h2⟩ := h
  exact ⟨a, n, c, by rw [hb.block z hl]; exact h1, h2.below hb⟩

/-- Words lie in no number's own block. -/
theorem Ty.ne {w : World} {b z : Nat} (h : Ty w b) (ho : Ob w z) : b ≠ z := by
  intro e
  subst e
  obtain ⟨cs, fr, h1⟩ := h
  obtain ⟨s, a, n, c, h2⟩ := ho
  rw [h1] at h2
  simp at h2
theorem Ru.ex {w w' : World} {z : Nat} {a : Option Addr} {n cap : Nat} {l : List Nat} (h : Ru w a n cap l) (ho : Ob w z) (he : Ex w w' z) : Ru w' a n cap l := by
  refine ⟨h.len, h.lt, h.nil, h.room, ?_, fun b off s e hn => (h.typ b off s e hn).same (he.block b (h.typ b off s e hn).lt ((h.typ b off s e hn).ne ho))⟩
  rcases h.cell with h0 | ⟨b, off, rfl, hc⟩
  · exact .inl h0
  · refine .inr ⟨b, off, rfl, fun i hi => ?_⟩
    have h1 := hc i hi
    have hlt := World.block_lt_of_cell? w _ h1
    have hne : b ≠ z := by
      intro e
      subst e
      obtain ⟨s, a', n', c', h2⟩ := ho
      simp only [World.cell?, h2] at h1
      match hj : off + i, h1 with
      | 0, h1 => simp at h1
      | 1, h1 => simp at h1
      | k + 2, h1 => simp at h1
    rw [World.cell?_of_block (w := w) (a := ⟨b, off + i, none⟩) (he.block b hlt hne)]
    exact h1
theorem Bg.ex {w w' : World} {z y m : Nat} (h : Bg w y m) (ho : Ob w z) (he : Ex w w' z) (hne : y ≠ z) : Bg w' y m := by
  have hl := h.ob.lt
  obtain ⟨a, n, c, h1, h2⟩ := h
  exact ⟨a, n, c, by rw [he.block y hl hne]; exact h1, h2.ex ho he⟩

theorem ob_cells {w : World} {z : Nat} {s : Bool} {v : Value} (h : w.heap[z]? = some (.cells #[.bool s, v] 77 (0, 0))) :
    w.cell? ⟨z, 0, none⟩ = some (.bool s) ∧ w.cell? ⟨z, 1, none⟩ = some v ∧ w.frozen? ⟨z, 0, none⟩ = false ∧ w.frozen? ⟨z, 1, none⟩ = false := by
  refine ⟨?_, ?_, ?_, ?_⟩ <;> simp [World.cell?, World.frozen?, h]

theorem ob_set {w : World} {z : Nat} {s : Bool} {v : Value} (h : w.heap[z]? = some (.cells #[.bool s, v] 77 (0, 0))) (u : Value) (t : Bool) :
    ((w.setCell ⟨z, 1, none⟩ u).setCell ⟨z, 0, none⟩ (.bool t)).heap[z]? = some (.cells #[.bool t, u] 77 (0, 0)) ∧ Ex w ((w.setCell ⟨z, 1, none⟩ u).setCell ⟨z, 0, none⟩ (.bool t)) z := by
  refine ⟨by simp [World.setCell, Array.getElem?_modify, h], rfl, rfl, rfl, by simp [World.setCell], fun k _ hz => ?_⟩
  simp only [World.setCell, Array.getElem?_modify]
  rw [if_neg (fun e => hz e.symm), if_neg (fun e => hz e.symm)]

/-- A number was given back behind the pointer z. -/
def GivePost (w : World) (z : Nat) (v : Value) (e : Ending) (w' : World) : Prop :=
  e = .returned (.pointer (some ⟨z, 0, none⟩)) ∧ w'.heap[z]? = some (.cells #[.bool false, v] 77 (0, 0)) ∧ Ex w w' z

theorem give_any (z : Nat) (a : Option Addr) (n cap : Nat) (w : World) (ho : Ob w z) :
    Calls Tryz.prog 70 #[.pointer (some ⟨z, 0, none⟩), .bool false, .slice a n cap] w fun e w' => GivePost w z (.slice a n cap) e w' := by
  obtain ⟨s, a', n', c', h⟩ := ho
  obtain ⟨c0, c1, f0, f1⟩ := ob_cells h
  have hs := ob_set h (.slice a n cap) false
  have HS : Hid (((w.setCell ⟨z, 1, none⟩ (.slice a n cap)).setCell ⟨z, 0, none⟩ (.bool false)).heap[z]? = some (.cells #[.bool false, .slice a n cap] 77 (0, 0)) ∧ Ex w ((w.setCell ⟨z, 1, none⟩ (.slice a n cap)).setCell ⟨z, 0, none⟩ (.bool false)) z) := hs
  clear hs h
  go_enter Tryz.func70, Tryz.ntmps70
  go_wp2_with fail
  go_ret
  exact ⟨rfl, HS.out.1, HS.out.2⟩

theorem ob_new (w : World) : Ob (w.alloc (.cells #[.bool false, .slice none 0 0] 77)) w.heap.size := by
  refine ⟨false, none, 0, 0, ?_⟩
  show (w.heap.push _)[w.heap.size]? = _
  rw [Array.getElem?_push_size]

/-- SetInt64 of a number that is not below 0. -/
theorem setInt_any (z x : Nat) (w : World) (ho : Ob w z) (hx : x < 9223372036854775808) :
    Calls Tryz.prog 72 #[.pointer (some ⟨z, 0, none⟩), .int .i64 (x : Int)] w fun e w' => e = .returned (.pointer (some ⟨z, 0, none⟩)) ∧ Bg w' z x ∧ Ex w w' z := by
  have h0 : ¬ ((x : Nat) : Int) < 0 := by omega
  have h1 : decide (((x : Nat) : Int) < 0) = false := decide_eq_false h0
  have HO : Hid (Ob w z) := ho
  clear ho
  go_enter Tryz.func72, Tryz.ntmps72
  go_wp2_with fail
  refine (words_any x _ (by omega)).mono ?_
  rintro e w1 ⟨a, n, cap, rfl, hr, hb⟩
  have HR : Hid (Ru w1 a n cap (dig x)) := hr
  have HB : Hid (Below w.heap.size w w1) := hb
  clear hr hb
  go_wp2_with fail
  refine (give_any z a n cap _ (HO.out.below HB.out)).mono ?_
  rintro e w2 ⟨rfl, h2, hex⟩
  have HF : Hid (Bg w2 z x ∧ Ex w w2 z) := ⟨⟨a, n, cap, h2, HR.out.ex (HO.out.below HB.out) hex⟩, Ex.of HB.out hex⟩
  clear h2 hex
  go_wp2_with fail
  go_ret
  exact ⟨rfl, HF.out.1, HF.out.2⟩

/-- NewInt of a number that is not below 0: a new block. -/
def NewPost (w : World) (x : Nat) (e : Ending) (w' : World) : Prop := ∃ z, e = .returned (.pointer (some ⟨z, 0, none⟩)) ∧ w.heap.size ≤ z ∧ Bg w' z x ∧ Below w.heap.size w w'
theorem NewPost.mk {w w' : World} {x z : Nat} (h1 : w.heap.size ≤ z) (h2 : Bg w' z x) (h3 : Below w.heap.size w w') : NewPost w x (.returned (.pointer (some ⟨z, 0, none⟩))) w' := ⟨z, rfl, h1, h2, h3⟩

theorem newInt_any (x : Nat) (w : World) (hx : x < 9223372036854775808) :
    Calls Tryz.prog 36 #[.int .i64 (x : Int)] w fun e w' => NewPost w x e w' := by
  have HO : Hid (Ob (w.alloc (.cells #[.bool false, .slice none 0 0] 77)) w.heap.size) := ob_new w
  have HB : Hid (Below w.heap.size w (w.alloc (.cells #[.bool false, .slice none 0 0] 77))) := (Below.refl _ w).alloc (Nat.le_refl _) _
  go_enter Tryz.func36, Tryz.ntmps36
  go_wp2_with fail
  refine (setInt_any w.heap.size x _ HO.out hx).mono ?_
  rintro e w1 ⟨rfl, h1, h2⟩
  have HP : Hid (NewPost w x (.returned (.pointer (some ⟨w.heap.size, 0, none⟩))) w1) := NewPost.mk (Nat.le_refl _) h1 (h2.below HB.out (Nat.le_refl _))
  clear h1 h2
  go_wp2_with fail
  go_ret
  exact HP.out

end Go.Proofs.YtgipkpkjoicehaaGreatDoor.words

/- The sum of numbers of any size. -/
namespace Go.Proofs.YtgipkpkjoicehaaGreatDoor.words
open Go.RowKit
set_option maxRecDepth 100000

/-- The number that the first n words of f make. -/
def nf (f : Nat → Nat) : Nat → Nat
  | 0 => 0
  | n + 1 => nf f n + 4294967296 ^ n * f n
theorem nf_congr {f g : Nat → Nat} {n : Nat} (h : ∀ i, i < n → f i = g i) : nf f n = nf g n := by
  induction n with
  | zero => rfl
  | succ n ih => rw [nf, nf, ih fun i hi => h i (by omega), h n (by omega)]
theorem nf_cons (f : Nat → Nat) (n : Nat) : nf f (n + 1) = f 0 + 4294967296 * nf (fun i => f (i + 1)) n := by
  induction n with
  | zero => simp [nf]
  | succ n ih =>
    rw [nf, ih, nf, Nat.mul_add, Nat.pow_succ]
    have : 4294967296 ^ n * 4294967296 * f (n + 1) = 4294967296 * (4294967296 ^ n * f (n + 1)) := by
      rw [Nat.mul_comm (4294967296 ^ n) 4294967296, Nat.mul_assoc]
    omega
theorem nv_nf (l : List Nat) : nv l = nf (fun i => l.getD i 0) l.length := by
  induction l with
  | nil => rfl
  | cons x r ih =>
    rw [List.length_cons, nf_cons, nv, ih]
    congr 1
theorem nv_range (f : Nat → Nat) (n : Nat) : nv ((List.range n).map f) = nf f n := by
  rw [nv_nf]
  rw [List.length_map, List.length_range]
  exact nf_congr fun i hi => by simp [List.getD, hi]
theorem nf_zero {f : Nat → Nat} {n : Nat} (h : ∀ i, i < n → f i = 0) : nf f n = 0 := by
  induction n with
  | zero => rfl
  | succ n ih => rw [nf, ih fun i hi => h i (by omega), h n (by omega)]; simp
theorem nf_more {f : Nat → Nat} {m n : Nat} (hmn : m ≤ n) (h : ∀ i, m ≤ i → f i = 0) : nf f n = nf f m := by
  induction n with
  | zero => have : m = 0 := by omega
            subst this; rfl
  | succ n ih =>
    by_cases e : m = n + 1
    · subst e; rfl
    · rw [nf, h n (by omega), ih (by omega)]; simp
theorem nv_more (l : List Nat) {n : Nat} (h : l.length ≤ n) : nv l = nf (fun i => l.getD i 0) n := by
  rw [nv_nf, nf_more h]
  intro i hi
  simp [List.getD, List.getElem?_eq_none hi]

/-- Block g holds the n words f. -/
def RowU (w : World) (g n : Nat) (f : Nat → Nat) : Prop := w.heap[g]? = some (.cells ((List.range n).map fun i => Value.int .u32 ((f i : Nat) : Int)).toArray 51 (0, 0))
variable {w w' : World} {g n : Nat} {f : Nat → Nat}
theorem RowU.cell (h : RowU w g n f) {i : Nat} (hi : i < n) : w.cell? ⟨g, i, none⟩ = some (.int .u32 ((f i : Nat) : Int)) := by unfold RowU at h; simp [World.cell?, h, hi]
theorem RowU.free (h : RowU w g n f) (i : Nat) : w.frozen? ⟨g, i, none⟩ = false := by unfold RowU at h; simp [World.frozen?, h]
def updU (f : Nat → Nat) (i v : Nat) : Nat → Nat := fun k => if k = i then v else f k
theorem RowU.set (h : RowU w g n f) (i v : Nat) : RowU (w.setCell ⟨g, i, none⟩ (.int .u32 ((v : Nat) : Int))) g n (updU f i v) := by
  unfold RowU at *
  simp only [World.setCell, Array.getElem?_modify, h, if_true, Option.map_some]
  congr 2
  simp only [Option.isSome_none, Bool.false_eq_true, if_false]
  apply Array.ext'
  simp only [Array.toList_setIfInBounds]
  apply List.ext_getElem?
  intro k
  by_cases hk : k < n
  · by_cases e : k = i
    · subst e; simp [updU, hk]
    · rw [List.getElem?_set_ne (by omega)]; simp [updU, hk, e]
  · rw [List.getElem?_eq_none (by simp; omega), List.getElem?_eq_none (by simp; omega)]
theorem RowU.ru (h : RowU w g n f) (hf : ∀ i, i < n → f i < 4294967296) : Ru w (some ⟨g, 0, none⟩) n n ((List.range n).map f) := by
  refine ⟨by simp, fun x hx => ?_, (fun h => by cases h), Nat.le_refl _, .inr ⟨g, 0, rfl, fun i hi => ?_⟩, fun b off s e _ => by obtain ⟨rfl, -, -⟩ := (by simpa using e : g = b ∧ 0 = off ∧ none = s); exact ⟨_, _, h⟩⟩
  · obtain ⟨i, hi, rfl⟩ := List.mem_map.1 hx
    exact hf i (by simpa using hi)
  · rw [Nat.zero_add, h.cell hi]
    simp [List.getD, hi]

theorem rowU_made {w1 : World} {n g base : Nat} (h : w1.ownsRow base 51 1 (.slice (some ⟨g, 0, none⟩) n n) n (madeCells #[Value.int .u32 0] n).toList) : RowU w1 g n (fun _ => 0) := by
  rcases h.2 with ⟨h1, _⟩ | ⟨g', cap, cur, h1, _, h2, _, _, h3, h4⟩
  · cases h1
  · simp only [Value.slice.injEq, Option.some.injEq, Addr.mk.injEq] at h1
    obtain ⟨⟨rfl, -⟩, -, rfl⟩ := h1
    unfold RowU
    rw [h2]
    congr 2
    apply Array.ext'
    have e1 : cur.toList = (madeCells #[Value.int .u32 0] n).toList := by
      rw [← h4, List.take_of_length_le (by simp; omega)]
    rw [e1, toList_madeCells_one]
    apply List.ext_getElem?
    intro k
    by_cases hk : k < n
    · simp [hk]
    · rw [List.getElem?_eq_none (by simp; omega), List.getElem?_eq_none (by simp; omega)]

theorem info_u32 : (Tryz.prog.info? 51).map (fun i => (i.zero, i.size, i.bytes)) = some (some (.int .u32 0), 1, 4) := by kernel_rfl

/-- One word more of a sum. -/
theorem add_step {S A B P c x y : Nat} (h : S + P * c = A + B) : S + P * ((c + x + y) % 4294967296) + P * 4294967296 * ((c + x + y) / 4294967296) = (A + P * x) + (B + P * y) := by
  have e : (c + x + y) % 4294967296 + 4294967296 * ((c + x + y) / 4294967296) = c + x + y := by omega
  have e2 : P * ((c + x + y) % 4294967296) + P * 4294967296 * ((c + x + y) / 4294967296) = P * c + P * x + P * y := by
    rw [Nat.mul_assoc, ← Nat.mul_add, e, Nat.mul_add, Nat.mul_add]
  omega

end Go.Proofs.YtgipkpkjoicehaaGreatDoor.words

/- What vendmeterbig.add gives back. -/
namespace Go.Proofs.YtgipkpkjoicehaaGreatDoor.words
open Go.RowKit
set_option maxRecDepth 100000

set_option maxHeartbeats 2000000 in
theorem add_ge (a b : Option Addr) (n k ca cb : Nat) (la lb : List Nat) (w : World) (ha : Ru w a n ca la) (hbb : Ru w b k cb lb) (hkn : k ≤ n) (hn : n ≤ 100) :
    Calls Tryz.prog 105 #[.slice a n ca, .slice b k cb] w fun e w' => Gives w (nv la + nv lb) e w' := by
  obtain ⟨i0, hi, hz0, hz1, hz2⟩ := info_parts info_u32
  have HA : Hid (Ru w a n ca la) := ha
  have HBB : Hid (Ru w b k cb lb) := hbb
  have hsw : ¬ (n : Int) < (k : Int) := by omega
  clear ha hbb
  go_enter Tryz.func105, Tryz.ntmps105
  go_wp2_with (first
    | (at_make; refine wpList_make_full _ rfl _ _ 22 rfl w.heap.size 51 i0 (.int .u32 0) 1 Tryz.underlying22 hi hz0 hz1 _ _ _ _ (n + 1) rfl rfl ?c0 ?c1 ?c2 ?c3 ?c4 ?_))
  try (case c0 => first | rfl | (congr 1; omega))
  try (case c1 => first | rfl | (congr 1; omega))
  case c2 => first | omega | (rw [hz2]; omega)
  case c3 => unfold maxLen; omega
  try (case c4 => simp)
  intro w1 hown hgr
  have HR1 : Hid (RowU w1 w.heap.size (n + 1) (fun _ => 0)) := rowU_made hown
  have HB1 : Hid (Below w.heap.size w w1) := (Below.refl _ _).grown hgr (Nat.le_refl _) (fun k hk => by cases hk)
  clear hown hgr hi hz0 hz1 hz2
  go_wp2_with fail
  go_loopw [6, 7] (fun cv iv wr => ∃ (i c : Nat) (f : Nat → Nat), i ≤ n ∧ iv = .int .i64 i ∧ cv = .int .u64 c ∧ c ≤ 2 ∧ RowU wr w.heap.size (n + 1) f ∧ (∀ j, j < n + 1 → f j < 4294967296) ∧ Below w.heap.size w wr ∧ nf f i + 4294967296 ^ i * c = nf (fun j => la.getD j 0) i + nf (fun j => lb.getD j 0) i) (fun _ iv _ => n - (intOf iv).toNat)
  case atStart => exact ⟨0, 0, fun _ => 0, Nat.zero_le _, rfl, rfl, by omega, HR1.out, fun _ _ => (by decide : 0 < 4294967296), HB1.out, rfl⟩
  case round =>
    obtain ⟨i, c, f, hin, rfl, rfl, hc2, hrow, hfb, hb, heq⟩ := hrel
    by_cases hlt : i < n
    · obtain ⟨ba, oa, rfl, hca⟩ := (HA.out.below hb).at hlt
      have r0 := hrow.cell (i := i) (by omega)
      have f0 := hrow.free i
      obtain ⟨fi, hfi⟩ : ∃ fi : Int, ((f i : Nat) : Int) = fi := ⟨_, rfl⟩
      rw [hfi] at r0
      clear hfi
      by_cases hik : i < k
      · have hx := HA.out.word i
        obtain ⟨bb, ob, rfl, hcb⟩ := (HBB.out.below hb).at hik
        have hy := HBB.out.word i
        have hst := add_step (S := nf f i) (A := nf (fun j => la.getD j 0) i) (B := nf (fun j => lb.getD j 0) i) (P := 4294967296 ^ i) (c := c) (x := la.getD i 0) (y := lb.getD i 0) heq
        obtain ⟨x, hxx⟩ : ∃ x, la.getD i 0 = x := ⟨_, rfl⟩
        have HX : Hid (la.getD i 0 = x) := hxx
        rw [hxx] at hx hst hca
        clear hxx
        obtain ⟨y, hyy⟩ : ∃ y, lb.getD i 0 = y := ⟨_, rfl⟩
        have HY : Hid (lb.getD i 0 = y) := hyy
        rw [hyy] at hy hst hcb
        clear hyy
        have e0 : (c : Int) + (x : Int) + (y : Int) = ((c + x + y : Nat) : Int) := by omega
        have HV : Hid (c + x + y < 8589934600) := (by omega : c + x + y < 8589934600)
        generalize hq : c + x + y = q at *
        have hqb : (q : Int) < 8589934600 := by have := HV.out; omega
        have e1 : ((q : Nat) : Int) % 4294967296 = ((q % 4294967296 : Nat) : Int) := by omega
        have e2 : ((q : Nat) : Int) / 4294967296 = ((q / 4294967296 : Nat) : Int) := by omega
        have HN : Hid (RowU (wr.setCell ⟨w.heap.size, i, none⟩ (.int .u32 ((q % 4294967296 : Nat) : Int))) w.heap.size (n + 1) (updU f i (q % 4294967296))) := hrow.set _ _
        have HBN : Hid (Below w.heap.size w (wr.setCell ⟨w.heap.size, i, none⟩ (.int .u32 ((q % 4294967296 : Nat) : Int)))) := below_set hb _ _ _ (Nat.le_refl _)
        have HF : Hid (∀ j, j < n + 1 → updU f i (q % 4294967296) j < 4294967296) := fun j hj => by
          unfold updU
          split
          · omega
          · exact hfb j hj
        have HC : Hid (q / 4294967296 ≤ 2) := by
          have := HV.out
          exact (by omega : q / 4294967296 ≤ 2)
        have HE : Hid (nf (updU f i (q % 4294967296)) (i + 1) + 4294967296 ^ (i + 1) * (q / 4294967296) = nf (fun j => la.getD j 0) (i + 1) + nf (fun j => lb.getD j 0) (i + 1)) := by
          have e3 : nf (updU f i (q % 4294967296)) i = nf f i := nf_congr fun j hj => by unfold updU; rw [if_neg (by omega)]
          have e4 : updU f i (q % 4294967296) i = q % 4294967296 := by unfold updU; rw [if_pos rfl]
          have goal : nf (updU f i (q % 4294967296)) (i + 1) + 4294967296 ^ (i + 1) * (q / 4294967296) = nf (fun j => la.getD j 0) (i + 1) + nf (fun j => lb.getD j 0) (i + 1) := by
            rw [nf, nf, nf, e3, e4, Nat.pow_succ]
            have hX : la.getD i 0 = x := HX.out
            have hY : lb.getD i 0 = y := HY.out
            rw [hX, hY]
            exact hst
          exact goal
        clear hst heq hfb HX HY
        generalize q % 4294967296 = u at *
        generalize hqq : q / 4294967296 = c2 at *
        clear hqq
        go_wp2_with fail
        go_roundw
        case rel => exact ⟨i + 1, c2, _, by omega, by go_num, rfl, HC.out, HN.out, HF.out, HBN.out, HE.out⟩
        case measure => simp [intOf]; omega
      · have hx := HA.out.word i
        have hy0 : lb.getD i 0 = 0 := by simp [List.getD, List.getElem?_eq_none (show lb.length ≤ i by rw [HBB.out.len]; omega)]
        have hst := add_step (S := nf f i) (A := nf (fun j => la.getD j 0) i) (B := nf (fun j => lb.getD j 0) i) (P := 4294967296 ^ i) (c := c) (x := la.getD i 0) (y := 0) heq
        rw [Nat.add_zero] at hst
        obtain ⟨x, hxx⟩ : ∃ x, la.getD i 0 = x := ⟨_, rfl⟩
        have HX : Hid (la.getD i 0 = x) := hxx
        have HY : Hid (lb.getD i 0 = 0) := hy0
        rw [hxx] at hx hst hca
        clear hxx hy0
        have e0 : (c : Int) + (x : Int) = ((c + x : Nat) : Int) := by omega
        have HV : Hid (c + x < 8589934600) := (by omega : c + x < 8589934600)
        generalize hq : c + x = q at *
        have hqb : (q : Int) < 8589934600 := by have := HV.out; omega
        have e1 : ((q : Nat) : Int) % 4294967296 = ((q % 4294967296 : Nat) : Int) := by omega
        have e2 : ((q : Nat) : Int) / 4294967296 = ((q / 4294967296 : Nat) : Int) := by omega
        have HN : Hid (RowU (wr.setCell ⟨w.heap.size, i, none⟩ (.int .u32 ((q % 4294967296 : Nat) : Int))) w.heap.size (n + 1) (updU f i (q % 4294967296))) := hrow.set _ _
        have HBN : Hid (Below w.heap.size w (wr.setCell ⟨w.heap.size, i, none⟩ (.int .u32 ((q % 4294967296 : Nat) : Int)))) := below_set hb _ _ _ (Nat.le_refl _)
        have HF : Hid (∀ j, j < n + 1 → updU f i (q % 4294967296) j < 4294967296) := fun j hj => by
          unfold updU
          split
          · omega
          · exact hfb j hj
        have HC : Hid (q / 4294967296 ≤ 2) := by
          have := HV.out
          exact (by omega : q / 4294967296 ≤ 2)
        have HE : Hid (nf (updU f i (q % 4294967296)) (i + 1) + 4294967296 ^ (i + 1) * (q / 4294967296) = nf (fun j => la.getD j 0) (i + 1) + nf (fun j => lb.getD j 0) (i + 1)) := by
          have e3 : nf (updU f i (q % 4294967296)) i = nf f i := nf_congr fun j hj => by unfold updU; rw [if_neg (by omega)]
          have e4 : updU f i (q % 4294967296) i = q % 4294967296 := by unfold updU; rw [if_pos rfl]
          have goal : nf (updU f i (q % 4294967296)) (i + 1) + 4294967296 ^ (i + 1) * (q / 4294967296) = nf (fun j => la.getD j 0) (i + 1) + nf (fun j => lb.getD j 0) (i + 1) := by
            rw [nf, nf, nf, e3, e4, Nat.pow_succ]
            have hX : la.getD i 0 = x := HX.out
            have hY : lb.getD i 0 = 0 := HY.out
            rw [hX, hY]
            exact hst
          exact goal
        clear hst heq hfb HX HY
        generalize q % 4294967296 = u at *
        generalize hqq : q / 4294967296 = c2 at *
        clear hqq
        go_wp2_with fail
        go_roundw
        case rel => exact ⟨i + 1, c2, _, by omega, by go_num, rfl, HC.out, HN.out, HF.out, HBN.out, HE.out⟩
        case measure => simp [intOf]; omega
    · obtain rfl : i = n := by omega
      have hvb : c < 4294967296 := by omega
      have r0 := hrow.cell (i := i) (by omega)
      have f0 := hrow.free i
      obtain ⟨fi, hfi⟩ : ∃ fi : Int, ((f i : Nat) : Int) = fi := ⟨_, rfl⟩
      rw [hfi] at r0
      clear hfi
      have e1 : ((c : Nat) : Int) % 4294967296 = ((c : Nat) : Int) := by omega
      have HN : Hid (RowU (wr.setCell ⟨w.heap.size, i, none⟩ (.int .u32 ((c : Nat) : Int))) w.heap.size (i + 1) (updU f i c)) := hrow.set _ _
      have HBN : Hid (Below w.heap.size w (wr.setCell ⟨w.heap.size, i, none⟩ (.int .u32 ((c : Nat) : Int)))) := below_set hb _ _ _ (Nat.le_refl _)
      have HF : Hid (∀ j, j < i + 1 → updU f i c j < 4294967296) := fun j hj => by
        unfold updU
        split
        · omega
        · exact hfb j hj
      have HE : Hid (nv ((List.range (i + 1)).map (updU f i c)) = nv la + nv lb) := by
        have e3 : nf (updU f i c) i = nf f i := nf_congr fun j hj => by unfold updU; rw [if_neg (by omega)]
        have e4 : updU f i c i = c := by unfold updU; rw [if_pos rfl]
        have goal : nv ((List.range (i + 1)).map (updU f i c)) = nv la + nv lb := by
          rw [nv_range, nf, e3, e4, heq, ← nv_more la (by rw [HA.out.len]; exact Nat.le_refl _), ← nv_more lb (by rw [HBB.out.len]; omega)]
        exact goal
      clear hrow hfb hb heq hlt
      go_wp2_with fail
      refine (trim_any _ _ _ _ _ (HN.out.ru HF.out) (by omega)).mono ?_
      rintro e w3 ⟨a3, n3, c3, rfl, hr3, hb3⟩
      rw [HE.out] at hr3
      have HG : Hid (Gives w (nv la + nv lb) (.returned (.slice a3 n3 c3)) w3) := Gives.mk hr3 (HBN.out.trans (hb3.mono HBN.out.size))
      clear hr3 hb3
      go_wp2_with fail
      go_ret
      exact HG.out

set_option maxHeartbeats 2000000 in
theorem add_lt (a b : Option Addr) (n k ca cb : Nat) (la lb : List Nat) (w : World) (ha : Ru w a n ca la) (hbb : Ru w b k cb lb) (hkn : k < n) (hn : n ≤ 100) :
    Calls Tryz.prog 105 #[.slice b k cb, .slice a n ca] w fun e w' => Gives w (nv la + nv lb) e w' := by
  obtain ⟨i0, hi, hz0, hz1, hz2⟩ := info_parts info_u32
  have HA : Hid (Ru w a n ca la) := ha
  have HBB : Hid (Ru w b k cb lb) := hbb
  have hsw : (k : Int) < (n : Int) := by omega
  clear ha hbb
  go_enter Tryz.func105, Tryz.ntmps105
  go_wp2_with (first
    | (at_make; refine wpList_make_full _ rfl _ _ 22 rfl w.heap.size 51 i0 (.int .u32 0) 1 Tryz.underlying22 hi hz0 hz1 _ _ _ _ (n + 1) rfl rfl ?c0 ?c1 ?c2 ?c3 ?c4 ?_))
  try (case c0 => first | rfl | (congr 1; omega))
  try (case c1 => first | rfl | (congr 1; omega))
  case c2 => first | omega | (rw [hz2]; omega)
  case c3 => unfold maxLen; omega
  try (case c4 => simp)
  intro w1 hown hgr
  have HR1 : Hid (RowU w1 w.heap.size (n + 1) (fun _ => 0)) := rowU_made hown
  have HB1 : Hid (Below w.heap.size w w1) := (Below.refl _ _).grown hgr (Nat.le_refl _) (fun k hk => by cases hk)
  clear hown hgr hi hz0 hz1 hz2
  go_wp2_with fail
  go_loopw [6, 7] (fun cv iv wr => ∃ (i c : Nat) (f : Nat → Nat), i ≤ n ∧ iv = .int .i64 i ∧ cv = .int .u64 c ∧ c ≤ 2 ∧ RowU wr w.heap.size (n + 1) f ∧ (∀ j, j < n + 1 → f j < 4294967296) ∧ Below w.heap.size w wr ∧ nf f i + 4294967296 ^ i * c = nf (fun j => la.getD j 0) i + nf (fun j => lb.getD j 0) i) (fun _ iv _ => n - (intOf iv).toNat)
  case atStart => exact ⟨0, 0, fun _ => 0, Nat.zero_le _, rfl, rfl, by omega, HR1.out, fun _ _ => (by decide : 0 < 4294967296), HB1.out, rfl⟩
  case round =>
    obtain ⟨i, c, f, hin, rfl, rfl, hc2, hrow, hfb, hb, heq⟩ := hrel
    by_cases hlt : i < n
    · obtain ⟨ba, oa, rfl, hca⟩ := (HA.out.below hb).at hlt
      have r0 := hrow.cell (i := i) (by omega)
      have f0 := hrow.free i
      obtain ⟨fi, hfi⟩ : ∃ fi : Int, ((f i : Nat) : Int) = fi := ⟨_, rfl⟩
      rw [hfi] at r0
      clear hfi
      by_cases hik : i < k
      · have hx := HA.out.word i
        obtain ⟨bb, ob, rfl, hcb⟩ := (HBB.out.below hb).at hik
        have hy := HBB.out.word i
        have hst := add_step (S := nf f i) (A := nf (fun j => la.getD j 0) i) (B := nf (fun j => lb.getD j 0) i) (P := 4294967296 ^ i) (c := c) (x := la.getD i 0) (y := lb.getD i 0) heq
        obtain ⟨x, hxx⟩ : ∃ x, la.getD i 0 = x := ⟨_, rfl⟩
        have HX : Hid (la.getD i 0 = x) := hxx
        rw [hxx] at hx hst hca
        clear hxx
        obtain ⟨y, hyy⟩ : ∃ y, lb.getD i 0 = y := ⟨_, rfl⟩
        have HY : Hid (lb.getD i 0 = y) := hyy
        rw [hyy] at hy hst hcb
        clear hyy
        have e0 : (c : Int) + (x : Int) + (y : Int) = ((c + x + y : Nat) : Int) := by omega
        have HV : Hid (c + x + y < 8589934600) := (by omega : c + x + y < 8589934600)
        generalize hq : c + x + y = q at *
        have hqb : (q : Int) < 8589934600 := by have := HV.out; omega
        have e1 : ((q : Nat) : Int) % 4294967296 = ((q % 4294967296 : Nat) : Int) := by omega
        have e2 : ((q : Nat) : Int) / 4294967296 = ((q / 4294967296 : Nat) : Int) := by omega
        have HN : Hid (RowU (wr.setCell ⟨w.heap.size, i, none⟩ (.int .u32 ((q % 4294967296 : Nat) : Int))) w.heap.size (n + 1) (updU f i (q % 4294967296))) := hrow.set _ _
        have HBN : Hid (Below w.heap.size w (wr.setCell ⟨w.heap.size, i, none⟩ (.int .u32 ((q % 4294967296 : Nat) : Int)))) := below_set hb _ _ _ (Nat.le_refl _)
        have HF : Hid (∀ j, j < n + 1 → updU f i (q % 4294967296) j < 4294967296) := fun j hj => by
          unfold updU
          split
          · omega
          · exact hfb j hj
        have HC : Hid (q / 4294967296 ≤ 2) := by
          have := HV.out
          exact (by omega : q / 4294967296 ≤ 2)
        have HE : Hid (nf (updU f i (q % 4294967296)) (i + 1) + 4294967296 ^ (i + 1) * (q / 4294967296) = nf (fun j => la.getD j 0) (i + 1) + nf (fun j => lb.getD j 0) (i + 1)) := by
          have e3 : nf (updU f i (q % 4294967296)) i = nf f i := nf_congr fun j hj => by unfold updU; rw [if_neg (by omega)]
          have e4 : updU f i (q % 4294967296) i = q % 4294967296 := by unfold updU; rw [if_pos rfl]
          have goal : nf (updU f i (q % 4294967296)) (i + 1) + 4294967296 ^ (i + 1) * (q / 4294967296) = nf (fun j => la.getD j 0) (i + 1) + nf (fun j => lb.getD j 0) (i + 1) := by
            rw [nf, nf, nf, e3, e4, Nat.pow_succ]
            have hX : la.getD i 0 = x := HX.out
            have hY : lb.getD i 0 = y := HY.out
            rw [hX, hY]
            exact hst
          exact goal
        clear hst heq hfb HX HY
        generalize q % 4294967296 = u at *
        generalize hqq : q / 4294967296 = c2 at *
        clear hqq
        go_wp2_with fail
        go_roundw
        case rel => exact ⟨i + 1, c2, _, by omega, by go_num, rfl, HC.out, HN.out, HF.out, HBN.out, HE.out⟩
        case measure => simp [intOf]; omega
      · have hx := HA.out.word i
        have hy0 : lb.getD i 0 = 0 := by simp [List.getD, List.getElem?_eq_none (show lb.length ≤ i by rw [HBB.out.len]; omega)]
        have hst := add_step (S := nf f i) (A := nf (fun j => la.getD j 0) i) (B := nf (fun j => lb.getD j 0) i) (P := 4294967296 ^ i) (c := c) (x := la.getD i 0) (y := 0) heq
        rw [Nat.add_zero] at hst
        obtain ⟨x, hxx⟩ : ∃ x, la.getD i 0 = x := ⟨_, rfl⟩
        have HX : Hid (la.getD i 0 = x) := hxx
        have HY : Hid (lb.getD i 0 = 0) := hy0
        rw [hxx] at hx hst hca
        clear hxx hy0
        have e0 : (c : Int) + (x : Int) = ((c + x : Nat) : Int) := by omega
        have HV : Hid (c + x < 8589934600) := (by omega : c + x < 8589934600)
        generalize hq : c + x = q at *
        have hqb : (q : Int) < 8589934600 := by have := HV.out; omega
        have e1 : ((q : Nat) : Int) % 4294967296 = ((q % 4294967296 : Nat) : Int) := by omega
        have e2 : ((q : Nat) : Int) / 4294967296 = ((q / 4294967296 : Nat) : Int) := by omega
        have HN : Hid (RowU (wr.setCell ⟨w.heap.size, i, none⟩ (.int .u32 ((q % 4294967296 : Nat) : Int))) w.heap.size (n + 1) (updU f i (q % 4294967296))) := hrow.set _ _
        have HBN : Hid (Below w.heap.size w (wr.setCell ⟨w.heap.size, i, none⟩ (.int .u32 ((q % 4294967296 : Nat) : Int)))) := below_set hb _ _ _ (Nat.le_refl _)
        have HF : Hid (∀ j, j < n + 1 → updU f i (q % 4294967296) j < 4294967296) := fun j hj => by
          unfold updU
          split
          · omega
          · exact hfb j hj
        have HC : Hid (q / 4294967296 ≤ 2) := by
          have := HV.out
          exact (by omega : q / 4294967296 ≤ 2)
        have HE : Hid (nf (updU f i (q % 4294967296)) (i + 1) + 4294967296 ^ (i + 1) * (q / 4294967296) = nf (fun j => la.getD j 0) (i + 1) + nf (fun j => lb.getD j 0) (i + 1)) := by
          have e3 : nf (updU f i (q % 4294967296)) i = nf f i := nf_congr fun j hj => by unfold updU; rw [if_neg (by omega)]
          have e4 : updU f i (q % 4294967296) i = q % 4294967296 := by unfold updU; rw [if_pos rfl]
          have goal : nf (updU f i (q % 4294967296)) (i + 1) + 4294967296 ^ (i + 1) * (q / 4294967296) = nf (fun j => la.getD j 0) (i + 1) + nf (fun j => lb.getD j 0) (i + 1) := by
            rw [nf, nf, nf, e3, e4, Nat.pow_succ]
            have hX : la.getD i 0 = x := HX.out
            have hY : lb.getD i 0 = 0 := HY.out
            rw [hX, hY]
            exact hst
          exact goal
        clear hst heq hfb HX HY
        generalize q % 4294967296 = u at *
        generalize hqq : q / 4294967296 = c2 at *
        clear hqq
        go_wp2_with fail
        go_roundw
        case rel => exact ⟨i + 1, c2, _, by omega, by go_num, rfl, HC.out, HN.out, HF.out, HBN.out, HE.out⟩
        case measure => simp [intOf]; omega
    · obtain rfl : i = n := by omega
      have hvb : c < 4294967296 := by omega
      have r0 := hrow.cell (i := i) (by omega)
      have f0 := hrow.free i
      obtain ⟨fi, hfi⟩ : ∃ fi : Int, ((f i : Nat) : Int) = fi := ⟨_, rfl⟩
      rw [hfi] at r0
      clear hfi
      have e1 : ((c : Nat) : Int) % 4294967296 = ((c : Nat) : Int) := by omega
      have HN : Hid (RowU (wr.setCell ⟨w.heap.size, i, none⟩ (.int .u32 ((c : Nat) : Int))) w.heap.size (i + 1) (updU f i c)) := hrow.set _ _
      have HBN : Hid (Below w.heap.size w (wr.setCell ⟨w.heap.size, i, none⟩ (.int .u32 ((c : Nat) : Int)))) := below_set hb _ _ _ (Nat.le_refl _)
      have HF : Hid (∀ j, j < i + 1 → updU f i c j < 4294967296) := fun j hj => by
        unfold updU
        split
        · omega
        · exact hfb j hj
      have HE : Hid (nv ((List.range (i + 1)).map (updU f i c)) = nv la + nv lb) := by
        have e3 : nf (updU f i c) i = nf f i := nf_congr fun j hj => by unfold updU; rw [if_neg (by omega)]
        have e4 : updU f i c i = c := by unfold updU; rw [if_pos rfl]
        have goal : nv ((List.range (i + 1)).map (updU f i c)) = nv la + nv lb := by
          rw [nv_range, nf, e3, e4, heq, ← nv_more la (by rw [HA.out.len]; exact Nat.le_refl _), ← nv_more lb (by rw [HBB.out.len]; omega)]
        exact goal
      clear hrow hfb hb heq hlt
      go_wp2_with fail
      refine (trim_any _ _ _ _ _ (HN.out.ru HF.out) (by omega)).mono ?_
      rintro e w3 ⟨a3, n3, c3, rfl, hr3, hb3⟩
      rw [HE.out] at hr3
      have HG : Hid (Gives w (nv la + nv lb) (.returned (.slice a3 n3 c3)) w3) := Gives.mk hr3 (HBN.out.trans (hb3.mono HBN.out.size))
      clear hr3 hb3
      go_wp2_with fail
      go_ret
      exact HG.out

theorem add_any (a b : Option Addr) (n k ca cb : Nat) (la lb : List Nat) (w : World) (ha : Ru w a n ca la) (hb : Ru w b k cb lb) (hn : n ≤ 100) (hk : k ≤ 100) :
    Calls Tryz.prog 105 #[.slice a n ca, .slice b k cb] w fun e w' => Gives w (nv la + nv lb) e w' := by
  by_cases h : k ≤ n
  · exact add_ge a b n k ca cb la lb w ha hb h hn
  · rw [Nat.add_comm]
    exact add_lt b a k n cb ca lb la w hb ha (by omega) hk

end Go.Proofs.YtgipkpkjoicehaaGreatDoor.words

/- What vendmeterbig.mul gives back. -/
namespace Go.Proofs.YtgipkpkjoicehaaGreatDoor.words
open Go.RowKit
set_option maxRecDepth 100000

theorem nf_upd (f : Nat → Nat) (i v : Nat) : ∀ n : Nat, i < n → nf (updU f i v) n + 4294967296 ^ i * f i = nf f n + 4294967296 ^ i * v
  | 0, h => by omega
  | n + 1, h => by
    rw [nf, nf]
    by_cases e : i = n
    · subst e
      have e1 : nf (updU f i v) i = nf f i := nf_congr fun j hj => by unfold updU; rw [if_neg (by omega)]
      have e2 : updU f i v i = v := by unfold updU; rw [if_pos rfl]
      rw [e1, e2]; omega
    · have := nf_upd f i v n (by omega)
      have e2 : updU f i v n = f n := by unfold updU; rw [if_neg (by omega)]
      rw [e2]; omega

theorem mul_step {F F2 N Q R c u x y Y q : Nat} (h : F + Q * R * c = N + Q * (x * Y)) (hq : q = c + (x * y + u)) (hu : F2 + Q * R * u = F + Q * R * (q % 4294967296)) :
    F2 + Q * R * 4294967296 * (q / 4294967296) = N + Q * (x * (Y + R * y)) := by
  have e : q % 4294967296 + 4294967296 * (q / 4294967296) = q := by omega
  have e2 : Q * R * (q % 4294967296) + Q * R * 4294967296 * (q / 4294967296) = Q * R * c + Q * R * (x * y) + Q * R * u := by
    rw [Nat.mul_assoc (Q * R), ← Nat.mul_add, e, hq, Nat.mul_add, Nat.mul_add]; omega
  have e3 : Q * (x * (Y + R * y)) = Q * (x * Y) + Q * R * (x * y) := by
    rw [Nat.mul_add, Nat.mul_add, Nat.mul_assoc Q R, Nat.mul_left_comm x R y]
  rw [e3]
  omega

theorem word_mul {x y : Nat} (hx : x < 4294967296) (hy : y < 4294967296) : x * y ≤ 18446744065119617025 := by
  have : x * y ≤ 4294967295 * 4294967295 := Nat.mul_le_mul (by omega) (by omega)
  omega

set_option maxHeartbeats 4000000 in
theorem mul_some (a b : Option Addr) (n k ca cb : Nat) (la lb : List Nat) (w : World) (ha : Ru w a n ca la) (hbb : Ru w b k cb lb) (n0 : 0 < n) (k0 : 0 < k) (hn : n ≤ 100) (hk : k ≤ 100) :
    Calls Tryz.prog 71 #[.slice a n ca, .slice b k cb] w fun e w' => Gives w (nv la * nv lb) e w' := by
  obtain ⟨i0, hi, hz0, hz1, hz2⟩ := info_parts info_u32
  have HA : Hid (Ru w a n ca la) := ha
  have HBB : Hid (Ru w b k cb lb) := hbb
  have z1 : ((n : Int) == 0) = false := beq_eq_false_iff_ne.2 (by omega)
  have z2 : ((k : Int) == 0) = false := beq_eq_false_iff_ne.2 (by omega)
  clear ha hbb
  go_enter Tryz.func71, Tryz.ntmps71
  go_wp2_with (first
    | (at_make; refine wpList_make_full _ rfl _ _ 22 rfl w.heap.size 51 i0 (.int .u32 0) 1 Tryz.underlying22 hi hz0 hz1 _ _ _ _ (n + k) rfl rfl ?c0 ?c1 ?c2 ?c3 ?c4 ?_))
  try (case c0 => first | rfl | (congr 1; omega))
  try (case c1 => first | rfl | (congr 1; omega))
  case c2 => first | omega | (rw [hz2]; omega)
  case c3 => unfold maxLen; omega
  try (case c4 => simp)
  intro w1 hown hgr
  have HR1 : Hid (RowU w1 w.heap.size (n + k) (fun _ => 0)) := rowU_made hown
  have HB1 : Hid (Below w.heap.size w w1) := (Below.refl _ _).grown hgr (Nat.le_refl _) (fun k hk => by cases hk)
  clear hown hgr hi hz0 hz1 hz2
  go_wp2_with fail
  go_loopw [6] (fun iv wr => ∃ (i : Nat) (f : Nat → Nat), i ≤ n ∧ iv = .int .i64 i ∧ RowU wr w.heap.size (n + k) f ∧ (∀ j, j < n + k → f j < 4294967296) ∧ Below w.heap.size w wr ∧ nf f (i + k) = nf (fun j => la.getD j 0) i * nv lb) (fun iv _ => n - (intOf iv).toNat)
  case atStart => exact ⟨0, fun _ => 0, Nat.zero_le _, rfl, HR1.out, fun _ _ => (by decide : 0 < 4294967296), HB1.out, by rw [nf_zero fun _ _ => rfl, nf, Nat.zero_mul]⟩
  case round =>
    obtain ⟨i, f, hin, rfl, hrow, hfb, hb, heq⟩ := hrel
    by_cases hlt : i < n
    · obtain ⟨x, hxx⟩ : ∃ x, la.getD i 0 = x := ⟨_, rfl⟩
      have hx : x < 4294967296 := by rw [← hxx]; exact HA.out.word i
      have HX : Hid (la.getD i 0 = x) := hxx
      have HAC : Hid (∀ wr, Below w.heap.size w wr → ∃ ba oa, a = some ⟨ba, oa, none⟩ ∧ wr.cell? ⟨ba, oa + i, none⟩ = some (.int .u32 (x : Int))) := fun wr hb => by
        obtain ⟨ba, oa, e, hc⟩ := (HA.out.below hb).at hlt
        rw [hxx] at hc
        exact ⟨ba, oa, e, hc⟩
      have HQ : Hid (nf f (i + k) = nf (fun j => la.getD j 0) i * nv lb) := heq
      have HRW : Hid (RowU wr w.heap.size (n + k) f ∧ (∀ j, j < n + k → f j < 4294967296) ∧ Below w.heap.size w wr) := ⟨hrow, hfb, hb⟩
      clear hxx hrow hfb hb heq
      go_wp2_with fail
      go_loopw [7, 8] (fun cv jv wr => ∃ (j c : Nat) (h : Nat → Nat), j ≤ k ∧ jv = .int .i64 j ∧ cv = .int .u64 c ∧ c < 4294967296 ∧ RowU wr w.heap.size (n + k) h ∧ (∀ t, t < n + k → h t < 4294967296) ∧ Below w.heap.size w wr ∧
        nf h (i + k) + 4294967296 ^ i * 4294967296 ^ j * c = nf (fun j => la.getD j 0) i * nv lb + 4294967296 ^ i * (x * nf (fun j => lb.getD j 0) j)) (fun _ jv _ => k - (intOf jv).toNat)
      case atStart => exact ⟨0, 0, f, Nat.zero_le _, rfl, rfl, by omega, HRW.out.1, HRW.out.2.1, HRW.out.2.2, by rw [HQ.out]; simp [nf]⟩
      case round =>
        obtain ⟨j, c, h, hjk, rfl, rfl, hc, hrow, hfb, hb, heq⟩ := hrel
        by_cases hlj : j < k
        · obtain ⟨ba, oa, rfl, hca⟩ := HAC.out _ hb
          obtain ⟨bb, ob, rfl, hcb⟩ := (HBB.out.below hb).at hlj
          obtain ⟨y, hyy⟩ : ∃ y, lb.getD j 0 = y := ⟨_, rfl⟩
          have hy : y < 4294967296 := by rw [← hyy]; exact HBB.out.word j
          have HY : Hid (lb.getD j 0 = y) := hyy
          rw [hyy] at hcb
          obtain ⟨u, huu⟩ : ∃ u, h (i + j) = u := ⟨_, rfl⟩
          have hu : u < 4294967296 := by rw [← huu]; exact hfb _ (by omega)
          have r0 := hrow.cell (i := i + j) (by omega)
          have f0 := hrow.free (i + j)
          rw [huu] at r0
          have hxy := word_mul hx hy
          have e0 : (c : Int) + ((x : Int) * (y : Int) + (u : Int)) = ((c + (x * y + u) : Nat) : Int) := by rw [Int.natCast_add, Int.natCast_add, Int.natCast_mul]
          have p1 : 0 ≤ (x : Int) * (y : Int) := Int.mul_nonneg (by omega) (by omega)
          have p2 : (x : Int) * (y : Int) ≤ 18446744065119617025 := by rw [← Int.natCast_mul]; omega
          have hqb : c + (x * y + u) < 18446744073709551616 := by omega
          have hup := nf_upd h (i + j) ((c + (x * y + u)) % 4294967296) (i + k) (by omega)
          rw [huu, Nat.pow_add] at hup
          have hst := mul_step heq rfl hup
          generalize hqq : c + (x * y + u) = q at *
          have HNX : Hid (nf (updU h (i + j) (q % 4294967296)) (i + k) + 4294967296 ^ i * 4294967296 ^ (j + 1) * (q / 4294967296) = nf (fun j => la.getD j 0) i * nv lb + 4294967296 ^ i * (x * nf (fun j => lb.getD j 0) (j + 1))) := by
            have goal : nf (updU h (i + j) (q % 4294967296)) (i + k) + 4294967296 ^ i * 4294967296 ^ (j + 1) * (q / 4294967296) = nf (fun j => la.getD j 0) i * nv lb + 4294967296 ^ i * (x * nf (fun j => lb.getD j 0) (j + 1)) := by
              rw [nf, Nat.pow_succ, ← Nat.mul_assoc (4294967296 ^ i)]
              have hY : lb.getD j 0 = y := HY.out
              rw [hY]
              exact hst
            exact goal
          have e1 : ((q : Nat) : Int) % 4294967296 = ((q % 4294967296 : Nat) : Int) := by omega
          have e2 : ((q : Nat) : Int) / 4294967296 = ((q / 4294967296 : Nat) : Int) := by omega
          have HN : Hid (RowU (wr.setCell ⟨w.heap.size, i + j, none⟩ (.int .u32 ((q % 4294967296 : Nat) : Int))) w.heap.size (n + k) (updU h (i + j) (q % 4294967296))) := hrow.set _ _
          have HBN : Hid (Below w.heap.size w (wr.setCell ⟨w.heap.size, i + j, none⟩ (.int .u32 ((q % 4294967296 : Nat) : Int)))) := below_set hb _ _ _ (Nat.le_refl _)
          have HF : Hid (∀ t, t < n + k → updU h (i + j) (q % 4294967296) t < 4294967296) := fun t ht => by
            unfold updU
            split
            · omega
            · exact hfb t ht
          have HC : Hid (q / 4294967296 < 4294967296) := (by omega : q / 4294967296 < 4294967296)
          clear hst heq hfb hup hyy huu hrow hb HX HAC HQ HRW hqq hxy
          generalize q % 4294967296 = v at *
          generalize hcc : q / 4294967296 = c2 at *
          clear hcc
          go_wp2_with fail
          go_quiet (fail)
          go_wp2_with fail
          go_roundw
          case rel => exact ⟨j + 1, c2, _, by omega, by go_num, rfl, HC.out, HN.out, HF.out, ⟨HBN.out.os, HBN.out.tape, HBN.out.output, HBN.out.size, HBN.out.block⟩, HNX.out⟩
          case measure => simp [intOf]; omega
        · obtain rfl : j = k := by omega
          have r0 := hrow.cell (i := i + j) (by omega)
          have f0 := hrow.free (i + j)
          obtain ⟨fi, hfi⟩ : ∃ fi : Int, ((h (i + j) : Nat) : Int) = fi := ⟨_, rfl⟩
          rw [hfi] at r0
          clear hfi
          have e1 : ((c : Nat) : Int) % 4294967296 = ((c : Nat) : Int) := by omega
          have cb : (c : Int) < 4294967296 := by omega
          have HN : Hid (RowU (wr.setCell ⟨w.heap.size, i + j, none⟩ (.int .u32 ((c : Nat) : Int))) w.heap.size (n + j) (updU h (i + j) c)) := hrow.set _ _
          have HBN : Hid (Below w.heap.size w (wr.setCell ⟨w.heap.size, i + j, none⟩ (.int .u32 ((c : Nat) : Int)))) := below_set hb _ _ _ (Nat.le_refl _)
          have HF : Hid (∀ t, t < n + j → updU h (i + j) c t < 4294967296) := fun t ht => by
            unfold updU
            split
            · exact hc
            · exact hfb t ht
          have HE : Hid (nf (updU h (i + j) c) (i + 1 + j) = nf (fun j => la.getD j 0) (i + 1) * nv lb) := by
            have e3 : nf (updU h (i + j) c) (i + j) = nf h (i + j) := nf_congr fun t ht => by unfold updU; rw [if_neg (by omega)]
            have e4 : updU h (i + j) c (i + j) = c := by unfold updU; rw [if_pos rfl]
            have e5 : nv lb = nf (fun j => lb.getD j 0) j := nv_more lb (by rw [HBB.out.len]; exact Nat.le_refl _)
            have goal : nf (updU h (i + j) c) (i + 1 + j) = nf (fun j => la.getD j 0) (i + 1) * nv lb := by
              rw [show i + 1 + j = (i + j) + 1 by omega, nf, nf, e3, e4, Nat.pow_add, heq, ← e5, Nat.add_mul]
              have hX : la.getD i 0 = x := HX.out
              rw [hX, Nat.mul_assoc]
            exact goal
          clear hrow hfb hb heq hlj HX HAC HQ HRW
          go_wp2_with fail
          go_roundw
          case rel => exact ⟨i + 1, _, by omega, by go_num, HN.out, HF.out, HBN.out, HE.out⟩
          case measure => simp [intOf]; omega
    · obtain rfl : i = n := by omega
      have HN : Hid (Ru wr (some ⟨w.heap.size, 0, none⟩) (i + k) (i + k) ((List.range (i + k)).map f)) := hrow.ru hfb
      have HB : Hid (Below w.heap.size w wr) := hb
      have HE : Hid (nv ((List.range (i + k)).map f) = nv la * nv lb) := by
        have goal : nv ((List.range (i + k)).map f) = nv la * nv lb := by
          rw [nv_range, heq, ← nv_more la (by rw [HA.out.len]; exact Nat.le_refl _)]
        exact goal
      clear hrow hfb hb heq hlt
      go_wp2_with fail
      refine (trim_any _ _ _ _ _ HN.out (by omega)).mono ?_
      rintro e w3 ⟨a3, n3, c3, rfl, hr3, hb3⟩
      rw [HE.out] at hr3
      have HG : Hid (Gives w (nv la * nv lb) (.returned (.slice a3 n3 c3)) w3) := Gives.mk hr3 (HB.out.trans (hb3.mono HB.out.size))
      clear hr3 hb3
      go_wp2_with fail
      go_ret
      exact HG.out

theorem ru_nil (w : World) : Ru w none 0 0 [] := ⟨rfl, fun x hx => (by cases hx), fun _ => rfl, Nat.le_refl _, .inl rfl, fun _ _ _ e _ => by cases e⟩

theorem mul_any (a b : Option Addr) (n k ca cb : Nat) (la lb : List Nat) (w : World) (ha : Ru w a n ca la) (hbb : Ru w b k cb lb) (hn : n ≤ 100) (hk : k ≤ 100) :
    Calls Tryz.prog 71 #[.slice a n ca, .slice b k cb] w fun e w' => Gives w (nv la * nv lb) e w' := by
  by_cases n0 : n = 0
  · subst n0
    have el : la = [] := List.eq_nil_of_length_eq_zero ha.len
    have e : nv la * nv lb = 0 := by rw [el]; simp [nv]
    rw [e]
    have HG : Hid (Gives w 0 (.returned (.slice none 0 0)) w) := Gives.mk (by rw [dig_zero]; exact ru_nil w) (Below.refl _ _)
    clear ha hbb el e
    go_enter Tryz.func71, Tryz.ntmps71
    go_wp2_with fail
    go_ret
    exact HG.out
  · by_cases k0 : k = 0
    · subst k0
      have el : lb = [] := List.eq_nil_of_length_eq_zero hbb.len
      have e : nv la * nv lb = 0 := by rw [el]; simp [nv]
      rw [e]
      have z1 : ((n : Int) == 0) = false := beq_eq_false_iff_ne.2 (by omega)
      have HG : Hid (Gives w 0 (.returned (.slice none 0 0)) w) := Gives.mk (by rw [dig_zero]; exact ru_nil w) (Below.refl _ _)
      clear ha hbb el e
      go_enter Tryz.func71, Tryz.ntmps71
      go_wp2_with fail
      go_ret
      exact HG.out
    · exact mul_some a b n k ca cb la lb w ha hbb (by omega) (by omega) hn hk

end Go.Proofs.YtgipkpkjoicehaaGreatDoor.words

/- What (*Int).Mul and (*Int).Add make. -/
namespace Go.Proofs.YtgipkpkjoicehaaGreatDoor.words
open Go.RowKit
set_option maxRecDepth 100000

theorem Bg.parts {w : World} {z m : Nat} (h : Bg w z m) : ∃ a n c, w.cell? ⟨z, 0, none⟩ = some (.bool false) ∧ w.cell? ⟨z, 1, none⟩ = some (.slice a n c) ∧ Ru w a n c (dig m) := by
  obtain ⟨a, n, c, h1, h2⟩ := h
  obtain ⟨c0, c1, _, _⟩ := ob_cells h1
  exact ⟨a, n, c, c0, c1, h2⟩

/-- What a number's operation leaves: z is r; all else stands. -/
def OpPost (w : World) (z r : Nat) (e : Ending) (w' : World) : Prop := e = .returned (.pointer (some ⟨z, 0, none⟩)) ∧ Bg w' z r ∧ Ex w w' z

theorem cell_bel {w w1 : World} {p : Addr} {v : Value} (hb : Below w.heap.size w w1) (h : w.cell? p = some v) : w1.cell? p = some v := (hb.cell (World.block_lt_of_cell? w p h)).trans h
theorem cell_ex {w w1 : World} {z y i : Nat} {v : Value} (he : Ex w w1 z) (h : w.cell? ⟨y, i, none⟩ = some v) (hne : y ≠ z) : w1.cell? ⟨y, i, none⟩ = some v :=
  (World.cell?_of_block (w := w) (a := ⟨y, i, none⟩) (he.block y (World.block_lt_of_cell? w _ h) hne)).trans h

/-- Behind 'give' no number is below 0. -/
theorem neg_ex {w w1 : World} {z x : Nat} {v u : Value} (he : Ex w w1 z) (hz : w1.heap[z]? = some (.cells #[.bool false, u] 77 (0, 0))) (h : w.cell? ⟨x, 0, none⟩ = some v) (hv : v = .bool false) : w1.cell? ⟨x, 0, none⟩ = some (.bool false) := by
  subst hv
  by_cases e : x = z
  · subst e; exact (ob_cells hz).1
  · exact cell_ex he h e

/-- A sum's words, and that it is not below 0. -/
def SumGives (w : World) (m : Nat) (e : Ending) (w' : World) : Prop := ∃ a n cap, e = .returned (.tuple #[.bool false, .slice a n cap]) ∧ Ru w' a n cap (dig m) ∧ Below w.heap.size w w'
theorem SumGives.mk {w w' : World} {m n cap : Nat} {a : Option Addr} (h1 : Ru w' a n cap (dig m)) (h2 : Below w.heap.size w w') : SumGives w m (.returned (.tuple #[.bool false, .slice a n cap])) w' := ⟨a, n, cap, rfl, h1, h2⟩

theorem sum_plus (a b : Option Addr) (n k ca cb : Nat) (la lb : List Nat) (w : World) (ha : Ru w a n ca la) (hb : Ru w b k cb lb) (hn : n ≤ 100) (hk : k ≤ 100) :
    Calls Tryz.prog 73 #[.bool false, .slice a n ca, .bool false, .slice b k cb] w fun e w' => SumGives w (nv la + nv lb) e w' := by
  have hq : (false == false) = true := rfl
  have HA : Hid (Calls Tryz.prog 105 #[.slice a n ca, .slice b k cb] w fun e w' => Gives w (nv la + nv lb) e w') := add_any a b n k ca cb la lb w ha hb hn hk
  clear ha hb
  go_enter Tryz.func73, Tryz.ntmps73
  go_wp2_with fail
  refine HA.out.mono ?_
  rintro e w1 ⟨a3, n3, c3, rfl, hr, hb⟩
  have HG : Hid (SumGives w (nv la + nv lb) (.returned (.tuple #[.bool false, .slice a3 n3 c3])) w1) := SumGives.mk hr hb
  clear hr hb
  go_wp2_with fail
  go_ret2
  exact HG.out

set_option maxHeartbeats 4000000 in
theorem Mul_any (z x y m k : Nat) (w : World) (hx : Bg w x m) (hy : Bg w y k) (hz : Ob w z) (hyz : y ≠ z) (hm : (dig m).length ≤ 100) (hk : (dig k).length ≤ 100) :
    Calls Tryz.prog 35 #[.pointer (some ⟨z, 0, none⟩), .pointer (some ⟨x, 0, none⟩), .pointer (some ⟨y, 0, none⟩)] w fun e w' => OpPost w z (m * k) e w' := by
  obtain ⟨xa, xn, xc, x0, x1, xr⟩ := hx.parts
  obtain ⟨ya, yn, yc, y0, y1, yr⟩ := hy.parts
  have hne : (false != false) = false := rfl
  have HM : Hid (∀ w', Below w.heap.size w w' → Calls Tryz.prog 71 #[.slice xa xn xc, .slice ya yn yc] w' fun e w'' => Gives w' (m * k) e w'') := fun w' hb => by
    have := mul_any xa ya xn yn xc yc _ _ w' (xr.below hb) (yr.below hb) (by rw [← xr.len]; exact hm) (by rw [← yr.len]; exact hk)
    rwa [nv_dig, nv_dig] at this
  have HZ : Hid (Ob w z) := hz
  have KW : Hid (Below w.heap.size w w.drew) := (Below.refl _ w).drew
  have KS : Hid (w.drew.cell? ⟨x, 0, none⟩ = some (.bool false) ∧ w.drew.cell? ⟨y, 0, none⟩ = some (.bool false) ∧ w.drew.cell? ⟨y, 1, none⟩ = some (.slice ya yn yc)) := ⟨x0, y0, y1⟩
  clear hx hy hz xr yr hm hk
  go_enter Tryz.func35, Tryz.ntmps35
  go_wp2_with fail
  refine wp_region_held_drew (S := fun w1 => w1.cell? ⟨x, 0, none⟩ = some (.bool false) ∧ w1.cell? ⟨y, 0, none⟩ = some (.bool false) ∧ w1.cell? ⟨y, 1, none⟩ = some (.slice ya yn yc)) (by kernel_rfl) KS.out ?_
  intro hS0
  refine wpAnyH_take (i := 0) (v := ?v1) rfl (by kernel_rfl) (by kernel_rfl) (by kernel_rfl) (fun _ _ _ h => h) (Or.inl ⟨by rfl, ?y1⟩) (by assumption) ?_
  case y1 => (intro w hSw; (try dsimp only at hSw); go_simp; try (with_reducible rfl))
  try simp only [Act.put]
  try simp only [List.setIfInBounds_toArray]
  try simp only [List.set_cons_succ]
  try simp only [List.set_cons_zero]
  refine wpAnyH_take (i := 1) (v := ?v2) rfl (by kernel_rfl) (by kernel_rfl) (by kernel_rfl) (fun _ _ _ h => h) (Or.inl ⟨by rfl, ?y2⟩) (by assumption) ?_
  case y2 => (intro w hSw; (try dsimp only at hSw); go_simp; try (with_reducible rfl))
  try simp only [Act.put]
  try simp only [List.setIfInBounds_toArray]
  try simp only [List.set_cons_succ]
  try simp only [List.set_cons_zero]
  refine wpAnyH_take (i := 2) (v := ?v3) rfl (by kernel_rfl) (by kernel_rfl) (by kernel_rfl) (fun _ _ _ h => h) (Or.inl ⟨by rfl, ?y3⟩) (by assumption) ?_
  case y3 => (intro w hSw; (try dsimp only at hSw); go_simp; try (with_reducible rfl))
  try simp only [Act.put]
  try simp only [List.setIfInBounds_toArray]
  try simp only [List.set_cons_succ]
  try simp only [List.set_cons_zero]
  refine wpAnyH_take (i := 3) (v := ?v4) rfl (by kernel_rfl) (by kernel_rfl) (by kernel_rfl) (fun _ _ _ h => h) (Or.inl ⟨by rfl, ?y4⟩) (by assumption) ?_
  case y4 => (intro w hSw; (try dsimp only at hSw); go_simp; try (with_reducible rfl))
  try simp only [Act.put]
  try simp only [List.setIfInBounds_toArray]
  try simp only [List.set_cons_succ]
  try simp only [List.set_cons_zero]
  refine wpAnyH_take (i := 4) (v := ?v5) rfl (by kernel_rfl) (by kernel_rfl) (by kernel_rfl) (fun _ _ _ h => h) (Or.inl ⟨by rfl, ?y5⟩) (by assumption) ?_
  case y5 => (intro w hSw; (try dsimp only at hSw); go_simp; try (with_reducible rfl))
  try simp only [Act.put]
  try simp only [List.setIfInBounds_toArray]
  try simp only [List.set_cons_succ]
  try simp only [List.set_cons_zero]
  refine wpAnyH_take (i := 5) (v := ?v6) rfl (by kernel_rfl) (by kernel_rfl) (by kernel_rfl) (fun _ _ _ h => h) (Or.inl ⟨by rfl, ?y6⟩) (by assumption) ?_
  case y6 => (intro w hSw; (try dsimp only at hSw); go_simp; try (with_reducible rfl))
  try simp only [Act.put]
  try simp only [List.setIfInBounds_toArray]
  try simp only [List.set_cons_succ]
  try simp only [List.set_cons_zero]
  refine wpAnyH_take (i := 6) (v := ?v7) rfl (by kernel_rfl) (by kernel_rfl) (by kernel_rfl) (fun _ _ _ h => h) (Or.inl ⟨by rfl, ?y7⟩) (by assumption) ?_
  case y7 => (intro w hSw; (try dsimp only at hSw); go_simp; try (with_reducible rfl))
  try simp only [Act.put]
  try simp only [List.setIfInBounds_toArray]
  try simp only [List.set_cons_succ]
  try simp only [List.set_cons_zero]
  refine wpAnyH_take (i := 7) (v := ?v8) rfl (by kernel_rfl) (by kernel_rfl) (by kernel_rfl) (fun _ _ _ h => h) (Or.inl ⟨by rfl, ?y8⟩) (by assumption) ?_
  case y8 => (intro w hSw; (try dsimp only at hSw); go_simp; try (with_reducible rfl))
  try simp only [Act.put]
  try simp only [List.setIfInBounds_toArray]
  try simp only [List.set_cons_succ]
  try simp only [List.set_cons_zero]
  refine wpAnyH_take (i := 8) (v := ?v9) rfl (by kernel_rfl) (by kernel_rfl) (by kernel_rfl) (fun _ _ _ h => h) (Or.inl ⟨by rfl, ?y9⟩) (by assumption) ?_
  case y9 => (intro w hSw; (try dsimp only at hSw); go_simp; try (with_reducible rfl))
  try simp only [Act.put]
  try simp only [List.setIfInBounds_toArray]
  try simp only [List.set_cons_succ]
  try simp only [List.set_cons_zero]
  refine wpAnyH_take (i := 9) (v := ?v10) rfl (by kernel_rfl) (by kernel_rfl) (by kernel_rfl) (fun _ _ _ h => h) (Or.inl ⟨by rfl, ?y10⟩) (by assumption) ?_
  case y10 => (intro w hSw; (try dsimp only at hSw); go_simp; try (with_reducible rfl))
  try simp only [Act.put]
  try simp only [List.setIfInBounds_toArray]
  try simp only [List.set_cons_succ]
  try simp only [List.set_cons_zero]
  refine wpAnyH_take (i := 10) (v := ?v11) rfl (by kernel_rfl) (by kernel_rfl) (by kernel_rfl) (fun _ _ _ h => h) (Or.inl ⟨by rfl, ?y11⟩) (by assumption) ?_
  case y11 => (intro w hSw; (try dsimp only at hSw); go_simp; try (with_reducible rfl))
  try simp only [Act.put]
  try simp only [List.setIfInBounds_toArray]
  try simp only [List.set_cons_succ]
  try simp only [List.set_cons_zero]
  refine wpAnyH_take (i := 11) (v := ?v12) rfl (by kernel_rfl) (by kernel_rfl) (by kernel_rfl) (fun _ _ _ h => h) (Or.inl ⟨by rfl, ?y12⟩) (by assumption) ?_
  case y12 => (intro w hSw; (try dsimp only at hSw); go_simp; try (with_reducible rfl))
  try simp only [Act.put]
  try simp only [List.setIfInBounds_toArray]
  try simp only [List.set_cons_succ]
  try simp only [List.set_cons_zero]
  refine wpAnyH_take (i := 12) (v := ?v13) rfl (by kernel_rfl) (by kernel_rfl) (by kernel_rfl) (fun _ _ _ h => h) (Or.inl ⟨by rfl, ?y13⟩) (by assumption) ?_
  case y13 => (intro w hSw; (try dsimp only at hSw); go_simp; try (with_reducible rfl))
  try simp only [Act.put]
  try simp only [List.setIfInBounds_toArray]
  try simp only [List.set_cons_succ]
  try simp only [List.set_cons_zero]
  refine wpAnyH_take (i := 14) (v := ?v14) rfl (by kernel_rfl) (by kernel_rfl) (by kernel_rfl) (fun _ _ _ h => h) (Or.inl ⟨by rfl, ?y14⟩) (by assumption) ?_
  case y14 => (intro w hSw; (try dsimp only at hSw); go_simp; try (with_reducible rfl))
  try simp only [Act.put]
  try simp only [List.setIfInBounds_toArray]
  try simp only [List.set_cons_succ]
  try simp only [List.set_cons_zero]
  refine wpAnyH_take (i := 15) (v := ?v15) rfl (by kernel_rfl) (by kernel_rfl) (by kernel_rfl) (fun _ _ _ h => h) (Or.inl ⟨by rfl, ?y15⟩) (by assumption) ?_
  case y15 => (intro w hSw; (try dsimp only at hSw); go_simp; try (with_reducible rfl))
  try simp only [Act.put]
  try simp only [List.setIfInBounds_toArray]
  try simp only [List.set_cons_succ]
  try simp only [List.set_cons_zero]
  refine wpAnyH_take (i := 16) (v := ?v16) rfl (by kernel_rfl) (by kernel_rfl) (by kernel_rfl) (fun _ _ _ h => h) (Or.inl ⟨by rfl, ?y16⟩) (by assumption) ?_
  case y16 => (intro w hSw; (try dsimp only at hSw); go_simp; try (with_reducible rfl))
  try simp only [Act.put]
  try simp only [List.setIfInBounds_toArray]
  try simp only [List.set_cons_succ]
  try simp only [List.set_cons_zero]
  refine wpAnyH_take (i := 17) (v := ?v17) rfl (by kernel_rfl) (by kernel_rfl) (by kernel_rfl) (fun _ _ _ h => h) (Or.inl ⟨by rfl, ?y17⟩) (by assumption) ?_
  case y17 => (intro w hSw; (try dsimp only at hSw); go_simp; try (with_reducible rfl))
  try simp only [Act.put]
  try simp only [List.setIfInBounds_toArray]
  try simp only [List.set_cons_succ]
  try simp only [List.set_cons_zero]
  refine wpAnyH_ready (rs := [13]) (by kernel_rfl) (by simp) ?_
  refine AllReadyH.cons rfl (fun K hK => ?_) AllReadyH.nil
  go_simp
  refine hK.out _ _ KS.out (fun hHeld => ?_)
  clear hK K
  refine wpAnyH_ready (rs := [18]) (by kernel_rfl) (by simp) ?_
  refine AllReadyH.cons rfl (fun K hK => ?_) AllReadyH.nil
  go_simp
  go_wp2_with fail
  refine (HM.out _ KW.out).mono ?_
  rintro e w1 ⟨ra, rn, rc, rfl, hr, hb⟩
  have B1 : Hid (Below w.heap.size w w1) := KW.out.trans (hb.mono KW.out.size)
  have K1 : Hid (w1.cell? ⟨x, 0, none⟩ = some (.bool false) ∧ w1.cell? ⟨y, 0, none⟩ = some (.bool false) ∧ w1.cell? ⟨y, 1, none⟩ = some (.slice ya yn yc)) := ⟨cell_bel hb KS.out.1, cell_bel hb KS.out.2.1, cell_bel hb KS.out.2.2⟩
  have R1 : Hid (Ru w1 ra rn rc (dig (m * k))) := hr
  clear hb hr
  try go_simp
  refine hK.out _ _ K1.out (fun hHeld => ?_)
  clear hK K
  refine wpAnyH_ready (rs := [19]) (by kernel_rfl) (by simp) ?_
  refine AllReadyH.cons rfl (fun K hK => ?_) AllReadyH.nil
  go_simp
  go_wp2_with fail
  refine (give_any z _ _ _ _ (HZ.out.below B1.out)).mono ?_
  rintro e w2 ⟨rfl, h2, hex⟩
  have K2 : Hid (w2.cell? ⟨x, 0, none⟩ = some (.bool false) ∧ w2.cell? ⟨y, 0, none⟩ = some (.bool false) ∧ w2.cell? ⟨y, 1, none⟩ = some (.slice ya yn yc)) := ⟨neg_ex hex h2 K1.out.1 rfl, cell_ex hex K1.out.2.1 hyz, cell_ex hex K1.out.2.2 hyz⟩
  have F2 : Hid (Bg w2 z (m * k) ∧ Ex w w2 z) := ⟨⟨_, _, _, h2, R1.out.ex (HZ.out.below B1.out) hex⟩, Ex.of B1.out hex⟩
  clear h2 hex
  try go_simp
  refine hK.out _ _ K2.out (fun hHeld => ?_)
  clear hK K
  refine wpAnyH_ready (rs := [20]) (by kernel_rfl) (by simp) ?_
  refine AllReadyH.cons rfl (fun K hK => ?_) AllReadyH.nil
  go_simp
  refine hK.out _ _ K2.out (fun hHeld => ?_)
  clear hK K
  refine wpAnyH_done (by kernel_rfl) ?_ _
  go_wp2_with fail
  go_ret
  exact ⟨rfl, F2.out.1, F2.out.2⟩

set_option maxHeartbeats 4000000 in
theorem Add_any (z x y m k : Nat) (w : World) (hx : Bg w x m) (hy : Bg w y k) (hz : Ob w z) (hyz : y ≠ z) (hm : (dig m).length ≤ 100) (hk : (dig k).length ≤ 100) :
    Calls Tryz.prog 37 #[.pointer (some ⟨z, 0, none⟩), .pointer (some ⟨x, 0, none⟩), .pointer (some ⟨y, 0, none⟩)] w fun e w' => OpPost w z (m + k) e w' := by
  obtain ⟨xa, xn, xc, x0, x1, xr⟩ := hx.parts
  obtain ⟨ya, yn, yc, y0, y1, yr⟩ := hy.parts
  have hne : (false != false) = false := rfl
  have HM : Hid (∀ w', Below w.heap.size w w' → Calls Tryz.prog 73 #[.bool false, .slice xa xn xc, .bool false, .slice ya yn yc] w' fun e w'' => SumGives w' (m + k) e w'') := fun w' hb => by
    have := sum_plus xa ya xn yn xc yc _ _ w' (xr.below hb) (yr.below hb) (by rw [← xr.len]; exact hm) (by rw [← yr.len]; exact hk)
    rwa [nv_dig, nv_dig] at this
  have HZ : Hid (Ob w z) := hz
  have KW : Hid (Below w.heap.size w w.drew) := (Below.refl _ w).drew
  have KS : Hid (w.drew.cell? ⟨x, 0, none⟩ = some (.bool false) ∧ w.drew.cell? ⟨y, 0, none⟩ = some (.bool false) ∧ w.drew.cell? ⟨y, 1, none⟩ = some (.slice ya yn yc)) := ⟨x0, y0, y1⟩
  clear hx hy hz xr yr hm hk
  go_enter Tryz.func37, Tryz.ntmps37
  go_wp2_with fail
  refine wp_region_held_drew (S := fun w1 => w1.cell? ⟨x, 0, none⟩ = some (.bool false) ∧ w1.cell? ⟨y, 0, none⟩ = some (.bool false) ∧ w1.cell? ⟨y, 1, none⟩ = some (.slice ya yn yc)) (by kernel_rfl) KS.out ?_
  intro hS0
  refine wpAnyH_take (i := 0) (v := ?v18) rfl (by kernel_rfl) (by kernel_rfl) (by kernel_rfl) (fun _ _ _ h => h) (Or.inl ⟨by rfl, ?y18⟩) (by assumption) ?_
  case y18 => (intro w hSw; (try dsimp only at hSw); go_simp; try (with_reducible rfl))
  try simp only [Act.put]
  try simp only [List.setIfInBounds_toArray]
  try simp only [List.set_cons_succ]
  try simp only [List.set_cons_zero]
  refine wpAnyH_take (i := 1) (v := ?v19) rfl (by kernel_rfl) (by kernel_rfl) (by kernel_rfl) (fun _ _ _ h => h) (Or.inl ⟨by rfl, ?y19⟩) (by assumption) ?_
  case y19 => (intro w hSw; (try dsimp only at hSw); go_simp; try (with_reducible rfl))
  try simp only [Act.put]
  try simp only [List.setIfInBounds_toArray]
  try simp only [List.set_cons_succ]
  try simp only [List.set_cons_zero]
  refine wpAnyH_take (i := 2) (v := ?v20) rfl (by kernel_rfl) (by kernel_rfl) (by kernel_rfl) (fun _ _ _ h => h) (Or.inl ⟨by rfl, ?y20⟩) (by assumption) ?_
  case y20 => (intro w hSw; (try dsimp only at hSw); go_simp; try (with_reducible rfl))
  try simp only [Act.put]
  try simp only [List.setIfInBounds_toArray]
  try simp only [List.set_cons_succ]
  try simp only [List.set_cons_zero]
  refine wpAnyH_take (i := 3) (v := ?v21) rfl (by kernel_rfl) (by kernel_rfl) (by kernel_rfl) (fun _ _ _ h => h) (Or.inl ⟨by rfl, ?y21⟩) (by assumption) ?_
  case y21 => (intro w hSw; (try dsimp only at hSw); go_simp; try (with_reducible rfl))
  try simp only [Act.put]
  try simp only [List.setIfInBounds_toArray]
  try simp only [List.set_cons_succ]
  try simp only [List.set_cons_zero]
  refine wpAnyH_take (i := 4) (v := ?v22) rfl (by kernel_rfl) (by kernel_rfl) (by kernel_rfl) (fun _ _ _ h => h) (Or.inl ⟨by rfl, ?y22⟩) (by assumption) ?_
  case y22 => (intro w hSw; (try dsimp only at hSw); go_simp; try (with_reducible rfl))
  try simp only [Act.put]
  try simp only [List.setIfInBounds_toArray]
  try simp only [List.set_cons_succ]
  try simp only [List.set_cons_zero]
  refine wpAnyH_take (i := 5) (v := ?v23) rfl (by kernel_rfl) (by kernel_rfl) (by kernel_rfl) (fun _ _ _ h => h) (Or.inl ⟨by rfl, ?y23⟩) (by assumption) ?_
  case y23 => (intro w hSw; (try dsimp only at hSw); go_simp; try (with_reducible rfl))
  try simp only [Act.put]
  try simp only [List.setIfInBounds_toArray]
  try simp only [List.set_cons_succ]
  try simp only [List.set_cons_zero]
  refine wpAnyH_take (i := 6) (v := ?v24) rfl (by kernel_rfl) (by kernel_rfl) (by kernel_rfl) (fun _ _ _ h => h) (Or.inl ⟨by rfl, ?y24⟩) (by assumption) ?_
  case y24 => (intro w hSw; (try dsimp only at hSw); go_simp; try (with_reducible rfl))
  try simp only [Act.put]
  try simp only [List.setIfInBounds_toArray]
  try simp only [List.set_cons_succ]
  try simp only [List.set_cons_zero]
  refine wpAnyH_take (i := 7) (v := ?v25) rfl (by kernel_rfl) (by kernel_rfl) (by kernel_rfl) (fun _ _ _ h => h) (Or.inl ⟨by rfl, ?y25⟩) (by assumption) ?_
  case y25 => (intro w hSw; (try dsimp only at hSw); go_simp; try (with_reducible rfl))
  try simp only [Act.put]
  try simp only [List.setIfInBounds_toArray]
  try simp only [List.set_cons_succ]
  try simp only [List.set_cons_zero]
  refine wpAnyH_take (i := 9) (v := ?v26) rfl (by kernel_rfl) (by kernel_rfl) (by kernel_rfl) (fun _ _ _ h => h) (Or.inl ⟨by rfl, ?y26⟩) (by assumption) ?_
  case y26 => (intro w hSw; (try dsimp only at hSw); go_simp; try (with_reducible rfl))
  try simp only [Act.put]
  try simp only [List.setIfInBounds_toArray]
  try simp only [List.set_cons_succ]
  try simp only [List.set_cons_zero]
  refine wpAnyH_take (i := 10) (v := ?v27) rfl (by kernel_rfl) (by kernel_rfl) (by kernel_rfl) (fun _ _ _ h => h) (Or.inl ⟨by rfl, ?y27⟩) (by assumption) ?_
  case y27 => (intro w hSw; (try dsimp only at hSw); go_simp; try (with_reducible rfl))
  try simp only [Act.put]
  try simp only [List.setIfInBounds_toArray]
  try simp only [List.set_cons_succ]
  try simp only [List.set_cons_zero]
  refine wpAnyH_take (i := 11) (v := ?v28) rfl (by kernel_rfl) (by kernel_rfl) (by kernel_rfl) (fun _ _ _ h => h) (Or.inl ⟨by rfl, ?y28⟩) (by assumption) ?_
  case y28 => (intro w hSw; (try dsimp only at hSw); go_simp; try (with_reducible rfl))
  try simp only [Act.put]
  try simp only [List.setIfInBounds_toArray]
  try simp only [List.set_cons_succ]
  try simp only [List.set_cons_zero]
  refine wpAnyH_take (i := 12) (v := ?v29) rfl (by kernel_rfl) (by kernel_rfl) (by kernel_rfl) (fun _ _ _ h => h) (Or.inl ⟨by rfl, ?y29⟩) (by assumption) ?_
  case y29 => (intro w hSw; (try dsimp only at hSw); go_simp; try (with_reducible rfl))
  try simp only [Act.put]
  try simp only [List.setIfInBounds_toArray]
  try simp only [List.set_cons_succ]
  try simp only [List.set_cons_zero]
  refine wpAnyH_take (i := 13) (v := ?v30) rfl (by kernel_rfl) (by kernel_rfl) (by kernel_rfl) (fun _ _ _ h => h) (Or.inl ⟨by rfl, ?y30⟩) (by assumption) ?_
  case y30 => (intro w hSw; (try dsimp only at hSw); go_simp; try (with_reducible rfl))
  try simp only [Act.put]
  try simp only [List.setIfInBounds_toArray]
  try simp only [List.set_cons_succ]
  try simp only [List.set_cons_zero]
  refine wpAnyH_take (i := 14) (v := ?v31) rfl (by kernel_rfl) (by kernel_rfl) (by kernel_rfl) (fun _ _ _ h => h) (Or.inl ⟨by rfl, ?y31⟩) (by assumption) ?_
  case y31 => (intro w hSw; (try dsimp only at hSw); go_simp; try (with_reducible rfl))
  try simp only [Act.put]
  try simp only [List.setIfInBounds_toArray]
  try simp only [List.set_cons_succ]
  try simp only [List.set_cons_zero]
  refine wpAnyH_take (i := 15) (v := ?v32) rfl (by kernel_rfl) (by kernel_rfl) (by kernel_rfl) (fun _ _ _ h => h) (Or.inl ⟨by rfl, ?y32⟩) (by assumption) ?_
  case y32 => (intro w hSw; (try dsimp only at hSw); go_simp; try (with_reducible rfl))
  try simp only [Act.put]
  try simp only [List.setIfInBounds_toArray]
  try simp only [List.set_cons_succ]
  try simp only [List.set_cons_zero]
  refine wpAnyH_take (i := 16) (v := ?v33) rfl (by kernel_rfl) (by kernel_rfl) (by kernel_rfl) (fun _ _ _ h => h) (Or.inl ⟨by rfl, ?y33⟩) (by assumption) ?_
  case y33 => (intro w hSw; (try dsimp only at hSw); go_simp; try (with_reducible rfl))
  try simp only [Act.put]
  try simp only [List.setIfInBounds_toArray]
  try simp only [List.set_cons_succ]
  try simp only [List.set_cons_zero]
  refine wpAnyH_ready (rs := [8]) (by kernel_rfl) (by simp) ?_
  refine AllReadyH.cons rfl (fun K hK => ?_) AllReadyH.nil
  go_simp
  refine hK.out _ _ KS.out (fun hHeld => ?_)
  clear hK K
  refine wpAnyH_ready (rs := [17]) (by kernel_rfl) (by simp) ?_
  refine AllReadyH.cons rfl (fun K hK => ?_) AllReadyH.nil
  go_simp
  go_wp2_with fail
  refine (HM.out _ KW.out).mono ?_
  rintro e w1 ⟨ra, rn, rc, rfl, hr, hb⟩
  have B1 : Hid (Below w.heap.size w w1) := KW.out.trans (hb.mono KW.out.size)
  have K1 : Hid (w1.cell? ⟨x, 0, none⟩ = some (.bool false) ∧ w1.cell? ⟨y, 0, none⟩ = some (.bool false) ∧ w1.cell? ⟨y, 1, none⟩ = some (.slice ya yn yc)) := ⟨cell_bel hb KS.out.1, cell_bel hb KS.out.2.1, cell_bel hb KS.out.2.2⟩
  have R1 : Hid (Ru w1 ra rn rc (dig (m + k))) := hr
  clear hb hr
  try go_simp
  refine hK.out _ _ K1.out (fun hHeld => ?_)
  clear hK K
  refine wpAnyH_take (i := 18) (v := ?v34) rfl (by kernel_rfl) (by kernel_rfl) (by kernel_rfl) (fun _ _ _ h => h) (Or.inl ⟨by rfl, ?y34⟩) (by assumption) ?_
  case y34 => (intro w hSw; (try dsimp only at hSw); go_simp; try (with_reducible rfl))
  try simp only [Act.put]
  try simp only [List.setIfInBounds_toArray]
  try simp only [List.set_cons_succ]
  try simp only [List.set_cons_zero]
  refine wpAnyH_take (i := 19) (v := ?v35) rfl (by kernel_rfl) (by kernel_rfl) (by kernel_rfl) (fun _ _ _ h => h) (Or.inl ⟨by rfl, ?y35⟩) (by assumption) ?_
  case y35 => (intro w hSw; (try dsimp only at hSw); go_simp; try (with_reducible rfl))
  try simp only [Act.put]
  try simp only [List.setIfInBounds_toArray]
  try simp only [List.set_cons_succ]
  try simp only [List.set_cons_zero]
  refine wpAnyH_ready (rs := [20]) (by kernel_rfl) (by simp) ?_
  refine AllReadyH.cons rfl (fun K hK => ?_) AllReadyH.nil
  go_simp
  go_wp2_with fail
  refine (give_any z _ _ _ _ (HZ.out.below B1.out)).mono ?_
  rintro e w2 ⟨rfl, h2, hex⟩
  have K2 : Hid (w2.cell? ⟨x, 0, none⟩ = some (.bool false) ∧ w2.cell? ⟨y, 0, none⟩ = some (.bool false) ∧ w2.cell? ⟨y, 1, none⟩ = some (.slice ya yn yc)) := ⟨neg_ex hex h2 K1.out.1 rfl, cell_ex hex K1.out.2.1 hyz, cell_ex hex K1.out.2.2 hyz⟩
  have F2 : Hid (Bg w2 z (m + k) ∧ Ex w w2 z) := ⟨⟨_, _, _, h2, R1.out.ex (HZ.out.below B1.out) hex⟩, Ex.of B1.out hex⟩
  clear h2 hex
  try go_simp
  refine hK.out _ _ K2.out (fun hHeld => ?_)
  clear hK K
  refine wpAnyH_ready (rs := [21]) (by kernel_rfl) (by simp) ?_
  refine AllReadyH.cons rfl (fun K hK => ?_) AllReadyH.nil
  go_simp
  refine hK.out _ _ K2.out (fun hHeld => ?_)
  clear hK K
  refine wpAnyH_done (by kernel_rfl) ?_ _
  go_wp2_with fail
  go_ret
  exact ⟨rfl, F2.out.1, F2.out.2⟩

end Go.Proofs.YtgipkpkjoicehaaGreatDoor.words

/- A wide number as a number of any size: plain facts. -/
namespace Go.Proofs.YtgipkpkjoicehaaGreatDoor.words
open Go.RowKit
set_option maxRecDepth 100000

theorem len100 {m : Nat} (h : m < 4294967296 ^ 8) : (dig m).length ≤ 100 := by
  have := dig_len 8 h
  omega
theorem Trio.ex {w w' : World} {G z : Nat} {y0 y1 y2 : Value} (h : Trio w G y0 y1 y2) (he : Ex w w' z) (hne : G ≠ z) : Trio w' G y0 y1 y2 := by
  have hlt := h.lt
  unfold Trio at *
  rw [he.block G hlt hne]; exact h

/-- A step of big96: the words so far times 2^32, and the next one. -/
theorem big_bd {m x : Nat} (k : Nat) (hm : m < 4294967296 ^ k) (hx : x < 4294967296) : m * 4294967296 < 4294967296 ^ (k + 1) ∧ m * 4294967296 + x < 4294967296 ^ (k + 1) := by
  rw [Nat.pow_succ]
  have : (m + 1) * 4294967296 ≤ 4294967296 ^ k * 4294967296 := Nat.mul_le_mul_right _ hm
  rw [Nat.add_mul] at this
  omega

def big96V (a b c : Nat) : Nat := ((0 * 4294967296 + c) * 4294967296 + b) * 4294967296 + a

end Go.Proofs.YtgipkpkjoicehaaGreatDoor.words

/- Numbers of any size are compared. -/
namespace Go.Proofs.YtgipkpkjoicehaaGreatDoor.words
open Go.RowKit
set_option maxRecDepth 100000

theorem nf_lt {f : Nat → Nat} : ∀ {n : Nat}, (∀ i, i < n → f i < 4294967296) → nf f n < 4294967296 ^ n
  | 0, _ => by simp [nf]
  | n + 1, h => by
    have h1 := nf_lt (f := f) (n := n) fun i hi => h i (by omega)
    have h2 := h n (by omega)
    rw [nf, Nat.pow_succ]
    have : 4294967296 ^ n * (f n + 1) ≤ 4294967296 ^ n * 4294967296 := Nat.mul_le_mul_left _ (by omega)
    rw [Nat.mul_add] at this
    omega
theorem nf_top {f g : Nat → Nat} {i : Nat} (hf : ∀ j, j < i → f j < 4294967296) (h : f i < g i) : nf f (i + 1) < nf g (i + 1) := by
  have h1 := nf_lt (f := f) (n := i) hf
  rw [nf, nf]
  have : 4294967296 ^ i * (f i + 1) ≤ 4294967296 ^ i * g i := Nat.mul_le_mul_left _ h
  rw [Nat.mul_add] at this
  omega
theorem nf_above {f g : Nat → Nat} {i : Nat} (h : nf f i < nf g i) : ∀ {n : Nat}, i ≤ n → (∀ j, i ≤ j → j < n → f j = g j) → nf f n < nf g n
  | 0, hn, _ => by have : i = 0 := by omega
                   subst this; exact h
  | n + 1, hn, he => by
    by_cases e : i = n + 1
    · subst e; exact h
    · have := nf_above h (n := n) (by omega) fun j h1 h2 => he j h1 (by omega)
      rw [nf, nf, he n (by omega) (by omega)]
      omega
theorem dig_nf (m : Nat) : nf (fun i => (dig m).getD i 0) (dig m).length = m := by rw [← nv_nf, nv_dig]
theorem dig_word (m i : Nat) : (dig m).getD i 0 < 4294967296 := by
  by_cases hi : i < (dig m).length
  · exact dig_lt m _ (by simp [List.getD, List.getElem?_eq_getElem hi])
  · simp [List.getD, List.getElem?_eq_none (show (dig m).length ≤ i by omega)]
theorem dig_low (m : Nat) : m < 4294967296 ^ (dig m).length := by
  have := nf_lt (f := fun i => (dig m).getD i 0) (n := (dig m).length) fun i _ => dig_word m i
  rwa [dig_nf] at this
theorem dig_high : ∀ (m k : Nat), (dig m).length = k + 1 → 4294967296 ^ k ≤ m := by
  intro m k
  induction k generalizing m with
  | zero =>
    intro h
    have : m ≠ 0 := by intro e; rw [e, dig_zero] at h; simp at h
    simp; omega
  | succ k ih =>
    intro h
    have h0 : m ≠ 0 := by intro e; rw [e, dig_zero] at h; simp at h
    rw [dig_pos h0] at h
    have := ih (m / 4294967296) (by simpa using h)
    rw [Nat.pow_succ]
    have h2 := Nat.mul_le_mul_right 4294967296 this
    omega
theorem len_less {m k : Nat} (h : (dig m).length < (dig k).length) : m < k := by
  have h1 := dig_low m
  have h2 := dig_high k ((dig k).length - 1) (by omega)
  have h3 : 4294967296 ^ (dig m).length ≤ 4294967296 ^ ((dig k).length - 1) := Nat.pow_le_pow_right (by decide) (by omega)
  omega
theorem word_less {m k i : Nat} (hl : (dig m).length = (dig k).length) (hi : i < (dig m).length) (hab : ∀ j, i + 1 ≤ j → j < (dig m).length → (dig m).getD j 0 = (dig k).getD j 0) (h : (dig m).getD i 0 < (dig k).getD i 0) : m < k := by
  have h1 := nf_top (f := fun j => (dig m).getD j 0) (g := fun j => (dig k).getD j 0) (i := i) (fun j _ => dig_word m j) h
  have h2 := nf_above h1 (n := (dig m).length) (by omega) hab
  rw [dig_nf] at h2
  rw [hl, dig_nf] at h2
  exact h2
theorem same_words {m k : Nat} (hl : (dig m).length = (dig k).length) (h : ∀ j, j < (dig m).length → (dig m).getD j 0 = (dig k).getD j 0) : m = k := by
  apply dig_inj
  apply List.ext_getElem hl
  intro i h1 h2
  have := h i h1
  simpa [List.getD, List.getElem?_eq_getElem h1, List.getElem?_eq_getElem h2] using this

theorem cmp3_lt {x y : Int} (h : x < y) : cmp3 x y = -1 := by unfold cmp3; rw [if_pos h]
theorem cmp3_gt {x y : Int} (h : y < x) : cmp3 x y = 1 := by unfold cmp3; rw [if_neg (by omega), if_pos h]
theorem cmp3_eq (x : Int) : cmp3 x x = 0 := by unfold cmp3; rw [if_neg (by omega), if_neg (by omega)]

theorem drew2 (w : World) (a b : Nat) : (w.drewN a).drewN b = w.drewN (a + b) := by simp [World.drewN, Nat.add_assoc]
theorem drew3 (w : World) (a b c : Nat) : ((w.drewN a).drewN b).drewN c = w.drewN (a + b + c) := by rw [drew2, drew2, Nat.add_assoc]

/-- A comparison was answered; only draws were made. -/
def CmpPost (w : World) (m k : Nat) (e : Ending) (w' : World) : Prop := e = .returned (.int .i64 (cmp3 m k)) ∧ ∃ q, w' = w.drewN q

set_option maxHeartbeats 1000000 in
theorem bigcmp_any (a b : Option Addr) (n k ca cb m1 m2 : Nat) (w : World) (ha : Ru w a n ca (dig m1)) (hb : Ru w b k cb (dig m2)) (hn : n ≤ 100) (hk : k ≤ 100) :
    Calls Tryz.prog 106 #[.slice a n ca, .slice b k cb] w fun e w' => CmpPost w m1 m2 e w' := by
  have el1 := ha.len
  have el2 := hb.len
  by_cases hl : n = k
  · subst hl
    have HA : Hid (Ru w a n ca (dig m1)) := ha
    have HB : Hid (Ru w b n cb (dig m2)) := hb
    have hne : ((n : Int) != (n : Int)) = false := by simp
    have HL : Hid ((dig m1).length = n ∧ (dig m2).length = n) := ⟨el1, el2⟩
    clear ha hb el1 el2
    go_enter Tryz.func106, Tryz.ntmps106
    go_wp2_with fail
    go_loopw [5] (fun v wr => ∃ i q : Nat, i ≤ n ∧ v = .int .i64 ((i : Int) - 1) ∧ wr = w.drewN q ∧ ∀ j, i ≤ j → j < n → (dig m1).getD j 0 = (dig m2).getD j 0) (fun v _ => (intOf v + 1).toNat)
    case atStart => exact ⟨n, 0, Nat.le_refl _, rfl, rfl, fun j h1 h2 => by omega⟩
    case round =>
      obtain ⟨i, q, hin, rfl, rfl, hab⟩ := hrel
      have HAB : Hid (∀ j, i ≤ j → j < n → (dig m1).getD j 0 = (dig m2).getD j 0) := hab
      clear hab
      by_cases hi0 : i = 0
      · subst hi0
        have HE : Hid (cmp3 (m1 : Int) (m2 : Int) = 0) := by
          have e : m1 = m2 := same_words (by rw [HL.out.1, HL.out.2]) fun j hj => HAB.out j (Nat.zero_le _) (by rw [HL.out.1] at hj; exact hj)
          have goal : cmp3 (m1 : Int) (m2 : Int) = 0 := by rw [e]; exact cmp3_eq _
          exact goal
        go_wp2_with fail
        go_ret
        exact ⟨by rw [HE.out]; rfl, q, rfl⟩
      · obtain ⟨g, rfl⟩ : ∃ g, i = g + 1 := ⟨i - 1, by omega⟩
        have eg : ((g + 1 : Nat) : Int) - 1 = (g : Int) := by omega
        rw [eg]
        obtain ⟨ba, oa, rfl, hca⟩ := HA.out.at (i := g) (by omega)
        obtain ⟨bb, ob, rfl, hcb⟩ := HB.out.at (i := g) (by omega)
        have hca' : (w.drewN q).cell? ⟨ba, oa + g, none⟩ = some (.int .u32 (((dig m1).getD g 0 : Nat) : Int)) := hca
        have hcb' : (w.drewN q).cell? ⟨bb, ob + g, none⟩ = some (.int .u32 (((dig m2).getD g 0 : Nat) : Int)) := hcb
        have gn : (g : Int) < (n : Int) := by omega
        by_cases he : (dig m1).getD g 0 = (dig m2).getD g 0
        · rw [he] at hca' hca
          have HN : Hid (∀ j, g ≤ j → j < n → (dig m1).getD j 0 = (dig m2).getD j 0) := fun j h1 h2 => by
            by_cases e : j = g
            · rw [e]; exact he
            · exact HAB.out j (by omega) h2
          clear he eg
          generalize (((dig m2).getD g 0 : Nat) : Int) = y at *
          have hyy : (y != y) = false := by simp
          go_wp2_with fail
          go_quiet (fail)
          go_wp2_with fail
          go_roundw
          case rel => exact ⟨g, _, by omega, by go_num, rfl, HN.out⟩
          case measure => first | (simp [intOf]; done) | (simp [intOf]; omega)
        · have hnb : ((((dig m1).getD g 0 : Nat) : Int) != (((dig m2).getD g 0 : Nat) : Int)) = true := bne_iff_ne.2 (by omega)
          by_cases hlt : (dig m1).getD g 0 < (dig m2).getD g 0
          · have HE : Hid (cmp3 (m1 : Int) (m2 : Int) = -1) := by
              have e := word_less (m := m1) (k := m2) (i := g) (by rw [HL.out.1, HL.out.2]) (by rw [HL.out.1]; omega) (fun j h1 h2 => HAB.out j h1 (by rw [HL.out.1] at h2; exact h2)) hlt
              have goal : cmp3 (m1 : Int) (m2 : Int) = -1 := cmp3_lt (by omega)
              exact goal
            have hd : decide ((((dig m1).getD g 0 : Nat) : Int) < (((dig m2).getD g 0 : Nat) : Int)) = true := decide_eq_true (by omega)
            clear he eg hlt
            generalize (((dig m1).getD g 0 : Nat) : Int) = x at *
            generalize (((dig m2).getD g 0 : Nat) : Int) = y at *
            go_wp2_with fail
            go_quiet (fail)
            go_wp2_with fail
            go_quiet (fail)
            go_wp2_with fail
            go_ret
            exact ⟨by rw [HE.out]; rfl, _, drew3 _ _ _ _⟩
          · have HE : Hid (cmp3 (m1 : Int) (m2 : Int) = 1) := by
              have e := word_less (m := m2) (k := m1) (i := g) (by rw [HL.out.1, HL.out.2]) (by rw [HL.out.2]; omega) (fun j h1 h2 => (HAB.out j h1 (by rw [HL.out.2] at h2; exact h2)).symm) (by omega)
              have goal : cmp3 (m1 : Int) (m2 : Int) = 1 := cmp3_gt (by omega)
              exact goal
            have hd : decide ((((dig m1).getD g 0 : Nat) : Int) < (((dig m2).getD g 0 : Nat) : Int)) = false := decide_eq_false (by omega)
            clear he eg hlt
            generalize (((dig m1).getD g 0 : Nat) : Int) = x at *
            generalize (((dig m2).getD g 0 : Nat) : Int) = y at *
            go_wp2_with fail
            go_quiet (fail)
            go_wp2_with fail
            go_quiet (fail)
            go_wp2_with fail
            go_ret
            exact ⟨by rw [HE.out]; rfl, _, drew3 _ _ _ _⟩
  · have hne : ((n : Int) != (k : Int)) = true := bne_iff_ne.2 (by omega)
    by_cases hlt : n < k
    · have HE : Hid (cmp3 (m1 : Int) (m2 : Int) = -1) := by
        have e := len_less (m := m1) (k := m2) (by rw [el1, el2]; exact hlt)
        have goal : cmp3 (m1 : Int) (m2 : Int) = -1 := cmp3_lt (by omega)
        exact goal
      have hd : (n : Int) < (k : Int) := by omega
      clear ha hb el1 el2
      go_enter Tryz.func106, Tryz.ntmps106
      go_wp2_with fail
      go_ret
      exact ⟨by rw [HE.out]; rfl, 0, rfl⟩
    · have HE : Hid (cmp3 (m1 : Int) (m2 : Int) = 1) := by
        have e := len_less (m := m2) (k := m1) (by rw [el1, el2]; omega)
        have goal : cmp3 (m1 : Int) (m2 : Int) = 1 := cmp3_gt (by omega)
        exact goal
      have hd : ¬ (n : Int) < (k : Int) := by omega
      clear ha hb el1 el2
      go_enter Tryz.func106, Tryz.ntmps106
      go_wp2_with fail
      go_ret
      exact ⟨by rw [HE.out]; rfl, 0, rfl⟩

end Go.Proofs.YtgipkpkjoicehaaGreatDoor.words

/- What & and | make of words, in natural numbers. -/
namespace Go.Proofs.YtgipkpkjoicehaaGreatDoor.words

theorem ofInt_nat (k a : Nat) (h : a < 2 ^ k) : (BitVec.ofInt k (a : Int)).toNat = a := by
  rw [BitVec.ofInt_natCast, BitVec.toNat_ofNat]; exact Nat.mod_eq_of_lt h
theorem wrap_u32 (n : Int) : IntKind.u32.wrap n = n % 4294967296 := by simp [IntKind.wrap, IntKind.bits, IntKind.signed]

theorem or64 (a b : Nat) (ha : a < 2 ^ 64) (hb : b < 2 ^ 64) : bits .or .u64 (a : Int) (b : Int) = ((a ||| b : Nat) : Int) := by
  have h := Nat.or_lt_two_pow ha hb
  show IntKind.u64.wrap ((BitVec.ofInt 64 (a : Int) ||| BitVec.ofInt 64 (b : Int)).toNat : Int) = _
  rw [BitVec.toNat_or, ofInt_nat 64 a ha, ofInt_nat 64 b hb, IntKind.wrap_u64]
  omega
theorem and64 (a b : Nat) (ha : a < 2 ^ 64) (hb : b < 2 ^ 64) : bits .and .u64 (a : Int) (b : Int) = ((a &&& b : Nat) : Int) := by
  have h : a &&& b < 2 ^ 64 := Nat.and_lt_two_pow a hb
  show IntKind.u64.wrap ((BitVec.ofInt 64 (a : Int) &&& BitVec.ofInt 64 (b : Int)).toNat : Int) = _
  rw [BitVec.toNat_and, ofInt_nat 64 a ha, ofInt_nat 64 b hb, IntKind.wrap_u64]
  omega
theorem or32 (a b : Nat) (ha : a < 2 ^ 32) (hb : b < 2 ^ 32) : bits .or .u32 (a : Int) (b : Int) = ((a ||| b : Nat) : Int) := by
  have h := Nat.or_lt_two_pow ha hb
  show IntKind.u32.wrap ((BitVec.ofInt 32 (a : Int) ||| BitVec.ofInt 32 (b : Int)).toNat : Int) = _
  rw [BitVec.toNat_or, ofInt_nat 32 a ha, ofInt_nat 32 b hb, wrap_u32]
  omega
theorem andNot32 (a b : Nat) (ha : a < 2 ^ 32) (hb : b < 2 ^ 32) : bits .andNot .u32 (a : Int) (b : Int) = ((a &&& (2 ^ 32 - 1 - b) : Nat) : Int) := by
  have h : a &&& (2 ^ 32 - 1 - b) < 2 ^ 32 := Nat.and_lt_two_pow a (by omega)
  show IntKind.u32.wrap ((BitVec.ofInt 32 (a : Int) &&& ~~~ BitVec.ofInt 32 (b : Int)).toNat : Int) = _
  rw [BitVec.toNat_and, BitVec.toNat_not, ofInt_nat 32 a ha, ofInt_nat 32 b hb, wrap_u32]
  omega

/-- Two words, the greater one shifted up. -/
theorem or_words (n x : Int) (n0 : 0 ≤ n) (n1 : n < 4294967296) (x0 : 0 ≤ x) (x1 : x < 4294967296) : bits .or .u64 (n * 4294967296) x = n * 4294967296 + x := by
  obtain ⟨p, rfl⟩ := Int.eq_ofNat_of_zero_le n0
  obtain ⟨q, rfl⟩ := Int.eq_ofNat_of_zero_le x0
  have e : ((p : Int) * 4294967296) = ((p * 4294967296 : Nat) : Int) := by simp
  rw [e, or64 _ _ (by omega) (by omega)]
  have h := Nat.shiftLeft_add_eq_or_of_lt (show q < 2 ^ 32 by omega) p
  rw [Nat.shiftLeft_eq] at h
  have h2 : p * 4294967296 ||| q = p * 4294967296 + q := h.symm
  rw [h2]; simp

end Go.Proofs.YtgipkpkjoicehaaGreatDoor.words

/- A number of any size over one word. -/
namespace Go.Proofs.YtgipkpkjoicehaaGreatDoor.words
open Go.RowKit
set_option maxRecDepth 100000

/-- The number that the words of f from i on, below n, make. -/
def hf (f : Nat → Nat) (i n : Nat) : Nat := nf (fun j => f (i + j)) (n - i)
theorem hf_zero (f : Nat → Nat) (n : Nat) : hf f 0 n = nf f n := by
  unfold hf
  exact nf_congr fun j _ => by rw [Nat.zero_add]
theorem hf_top (f : Nat → Nat) (n : Nat) : hf f n n = 0 := by unfold hf; rw [Nat.sub_self]; rfl
theorem hf_step (f : Nat → Nat) {i n : Nat} (h : i < n) : hf f i n = f i + 4294967296 * hf f (i + 1) n := by
  unfold hf
  rw [show n - i = (n - (i + 1)) + 1 by omega, nf_cons]
  congr 2
  exact nf_congr fun j _ => by rw [show i + (j + 1) = i + 1 + j by omega]
theorem hf_congr {f g : Nat → Nat} {i n : Nat} (h : ∀ j, i ≤ j → f j = g j) : hf f i n = hf g i n := by
  unfold hf
  exact nf_congr fun j _ => h _ (by omega)

/-- One word more of a quotient. -/
theorem small_step {Q A r d x : Nat} (h : Q * d + r = A) : ((r * 4294967296 + x) / d + 4294967296 * Q) * d + (r * 4294967296 + x) % d = x + 4294967296 * A := by
  have e := Nat.div_add_mod (r * 4294967296 + x) d
  have e1 : (r * 4294967296 + x) / d * d = d * ((r * 4294967296 + x) / d) := Nat.mul_comm _ _
  rw [Nat.add_mul, ← h, Nat.mul_add, ← Nat.mul_assoc 4294967296 Q d]
  omega
theorem small_fin {Q r d m : Nat} (h : Q * d + r = m) (hr : r < d) : Q = m / d ∧ r = m % d := by
  have h1 : m / d = Q := by
    rw [← h, Nat.mul_comm, Nat.mul_add_div (by omega), Nat.div_eq_of_lt hr, Nat.add_zero]
  have h2 : m % d = r := by
    rw [← h, Nat.mul_comm, Nat.mul_add_mod, Nat.mod_eq_of_lt hr]
  exact ⟨h1.symm, h2.symm⟩

/-- trim gives back a part of what it got. -/
def TrimAt (w : World) (a : Option Addr) (cap m : Nat) (e : Ending) (w' : World) : Prop := w' = w ∧ ∃ k, e = .returned (.slice a k cap) ∧ Ru w a k cap (dig m)

set_option maxHeartbeats 1000000 in
theorem trim_at (a : Option Addr) (n cap : Nat) (l : List Nat) (w : World) (h : Ru w a n cap l) (hn : n ≤ 1000) :
    Calls Tryz.prog 103 #[.slice a n cap] w fun e w' => TrimAt w a cap (nv l) e w' := by
  have HR : Hid (Ru w a n cap l) := h
  clear h
  go_enter Tryz.func103, Tryz.ntmps103
  go_wp2_with fail
  go_loop [3] (fun v => ∃ k : Nat, k ≤ n ∧ v = .int .i64 k ∧ ∀ i, k ≤ i → i < n → l.getD i 0 = 0) (fun v => (intOf v).toNat)
  case atStart => exact ⟨n, Nat.le_refl _, rfl, fun i h1 h2 => by omega⟩
  case round =>
    obtain ⟨k, hk, rfl, hz⟩ := hrel
    have HZ : Hid (∀ i, k ≤ i → i < n → l.getD i 0 = 0) := hz
    clear hz
    have fin : (k = 0 ∨ l.getD (k - 1) 0 ≠ 0) → TrimAt w a cap (nv l) (.returned (.slice a k cap)) w := fun hh => by
      have e := trim_dig l k HR.out.lt (by rw [HR.out.len]; exact hk) (fun i h1 h2 => HZ.out i h1 (by rw [HR.out.len] at h2; exact h2)) hh
      refine ⟨rfl, k, rfl, ?_⟩
      rw [← e]
      refine ⟨by rw [List.length_take, HR.out.len]; omega, fun x hx => HR.out.lt x (List.mem_of_mem_take hx), HR.out.nil, Nat.le_trans hk HR.out.room, ?_, fun b off s e hn => HR.out.typ b off s e (by omega)⟩
      rcases HR.out.cell with h0 | ⟨b, off, rfl, hc⟩
      · exact .inl (by omega)
      · refine .inr ⟨b, off, rfl, fun i hi => ?_⟩
        rw [hc i (by omega)]
        congr 3
        simp [List.getD, hi]
    have HF : Hid ((k = 0 ∨ l.getD (k - 1) 0 ≠ 0) → TrimAt w a cap (nv l) (.returned (.slice a k cap)) w) := fin
    have hsl := slice_top a n cap k w hk HR.out.room HR.out.nil
    clear fin
    by_cases hk0 : k = 0
    · subst hk0
      go_wp2_with fail
      go_ret
      exact HF.out (.inl (by trivial))
    · obtain ⟨b, off, rfl, hc⟩ := HR.out.at (i := k - 1) (by omega)
      have e1 : (k : Int) - 1 = ((k - 1 : Nat) : Int) := by omega
      have kp : (0 : Int) < (k : Int) := by omega
      by_cases hzero : l.getD (k - 1) 0 = 0
      · rw [hzero] at hc
        have HN : Hid (∀ i, k - 1 ≤ i → i < n → l.getD i 0 = 0) := fun i h1 h2 => by
          by_cases e : i = k - 1
          · rw [e]; exact hzero
          · exact HZ.out i (by omega) h2
        clear HF hsl hzero
        have hg : k - 1 < n := by omega
        generalize hgg : k - 1 = g at *
        go_wp2_with fail
        go_round
        case rel => exact ⟨g, by omega, by go_num, HN.out⟩
        case measure => simp [intOf]; omega
      · have hb : ((((l.getD (k - 1) 0 : Nat) : Int)) == 0) = false := beq_eq_false_iff_ne.2 (by omega)
        have HH : Hid (l.getD (k - 1) 0 ≠ 0) := hzero
        clear hzero
        have hg : k - 1 < n := by omega
        generalize ((l.getD (k - 1) 0 : Nat) : Int) = y at hb hc
        generalize hgg : k - 1 = g at hc e1 hg
        go_wp2_with fail
        go_ret
        exact HF.out (.inr HH.out)

/-- A quotient and a rest were given back. -/
def SmallGives (w : World) (m r : Nat) (e : Ending) (w' : World) : Prop := ∃ a n cap, e = .returned (.tuple #[.slice a n cap, .int .u32 (r : Int)]) ∧ Ru w' a n cap (dig m) ∧ Below w.heap.size w w' ∧ ∀ b off, a = some ⟨b, off, none⟩ → w.heap.size ≤ b

set_option maxHeartbeats 2000000 in
theorem small_any (a : Option Addr) (n ca d : Nat) (la : List Nat) (w : World) (ha : Ru w a n ca la) (hn : n ≤ 100) (d0 : 0 < d) (d1 : d < 4294967296) :
    Calls Tryz.prog 110 #[.slice a n ca, .int .u32 (d : Int)] w fun e w' => SmallGives w (nv la / d) (nv la % d) e w' := by
  obtain ⟨i0, hi, hz0, hz1, hz2⟩ := info_parts info_u32
  have HA : Hid (Ru w a n ca la) := ha
  clear ha
  go_enter Tryz.func110, Tryz.ntmps110
  go_wp2_with (first
    | (at_make; refine wpList_make_full _ rfl _ _ 22 rfl w.heap.size 51 i0 (.int .u32 0) 1 Tryz.underlying22 hi hz0 hz1 _ _ _ _ n rfl rfl ?c0 ?c1 ?c2 ?c3 ?c4 ?_))
  try (case c0 => first | rfl | (congr 1; omega))
  try (case c1 => first | rfl | (congr 1; omega))
  case c2 => first | omega | (rw [hz2]; omega)
  case c3 => unfold maxLen; omega
  try (case c4 => simp)
  intro w1 hown hgr
  have HR1 : Hid (RowU w1 w.heap.size n (fun _ => 0)) := rowU_made hown
  have HB1 : Hid (Below w.heap.size w w1) := (Below.refl _ _).grown hgr (Nat.le_refl _) (fun k hk => by cases hk)
  clear hown hgr hi hz0 hz1 hz2
  go_wp2_with fail
  go_loopw [7, 8] (fun rv iv wr => ∃ (k r : Nat) (f : Nat → Nat), k ≤ n ∧ iv = .int .i64 ((k : Int) - 1) ∧ rv = .int .u64 (r : Int) ∧ r < d ∧ RowU wr w.heap.size n f ∧ (∀ j, j < n → f j < 4294967296) ∧ Below w.heap.size w wr ∧ hf f k n * d + r = hf (fun j => la.getD j 0) k n) (fun _ iv _ => (intOf iv + 1).toNat)
  case atStart => exact ⟨n, 0, fun _ => 0, Nat.le_refl _, rfl, rfl, d0, HR1.out, fun _ _ => (by decide : 0 < 4294967296), HB1.out, by rw [hf_top, hf_top, Nat.zero_mul]⟩
  case round =>
    obtain ⟨k, r, f, hkn, rfl, rfl, hrd, hrow, hfb, hb, heq⟩ := hrel
    by_cases hk0 : k = 0
    · subst hk0
      have HN : Hid (Ru wr (some ⟨w.heap.size, 0, none⟩) n n ((List.range n).map f)) := hrow.ru hfb
      have HB : Hid (Below w.heap.size w wr) := hb
      have hfin : nv ((List.range n).map f) = nv la / d ∧ r = nv la % d := by
        rw [hf_zero, hf_zero, ← nv_more la (by rw [HA.out.len]; exact Nat.le_refl _), ← nv_range] at heq
        exact small_fin heq hrd
      have HE : Hid (nv ((List.range n).map f) = nv la / d) := hfin.1
      have HM : Hid (r = nv la % d) := hfin.2
      have rb : (r : Int) < 4294967296 := by omega
      have rm : (r : Int) % 4294967296 = r := by omega
      clear hrow hfb hb heq hfin
      go_wp2_with fail
      refine (trim_at _ _ _ _ _ HN.out (by omega)).mono ?_
      rintro e w3 ⟨rfl, n3, rfl, hr3⟩
      rw [HE.out] at hr3
      have HG : Hid (SmallGives w (nv la / d) (nv la % d) (.returned (.tuple #[.slice (some ⟨w.heap.size, 0, none⟩) n3 n, .int .u32 (r : Int)])) w3) := ⟨some ⟨w.heap.size, 0, none⟩, n3, n, by rw [HM.out], hr3, HB.out, fun b off e => by simp at e; omega⟩
      clear hr3
      go_wp2_with fail
      refine bodyPost_ret (v := .tuple #[.slice (some ⟨w.heap.size, 0, none⟩) n3 n, .int .u32 (r : Int)]) (by simp [results, Tryz.results110, go_sem]) rfl HG.out
    · obtain ⟨g, rfl⟩ : ∃ g, k = g + 1 := ⟨k - 1, by omega⟩
      have eg : ((g + 1 : Nat) : Int) - 1 = (g : Int) := by omega
      rw [eg]
      obtain ⟨ba, oa, rfl, hca⟩ := (HA.out.below hb).at (i := g) (by omega)
      have hx := HA.out.word g
      obtain ⟨x, hxx⟩ : ∃ x, la.getD g 0 = x := ⟨_, rfl⟩
      rw [hxx] at hca hx
      have r0 := hrow.cell (i := g) (by omega)
      have f0 := hrow.free g
      obtain ⟨fi, hfi⟩ : ∃ fi : Int, ((f g : Nat) : Int) = fi := ⟨_, rfl⟩
      rw [hfi] at r0
      clear hfi
      have gn : (g : Int) < (n : Int) := by omega
      have hor := or_words r x (by omega) (by omega) (by omega) (by omega)
      have e0 : (r : Int) * 4294967296 + (x : Int) = ((r * 4294967296 + x : Nat) : Int) := by omega
      have hst := small_step (Q := hf f (g + 1) n) (A := hf (fun j => la.getD j 0) (g + 1) n) (r := r) (d := d) (x := x) heq
      have hql : (r * 4294967296 + x) / d < 4294967296 := by
        rw [Nat.div_lt_iff_lt_mul d0]
        have : (r + 1) * 4294967296 ≤ d * 4294967296 := Nat.mul_le_mul_right _ hrd
        rw [Nat.mul_comm 4294967296 d]
        omega
      have HF : Hid (∀ j, j < n → updU f g ((r * 4294967296 + x) / d) j < 4294967296) := fun j hj => by
        unfold updU
        split
        · exact hql
        · exact hfb j hj
      have HE : Hid (hf (updU f g ((r * 4294967296 + x) / d)) g n * d + (r * 4294967296 + x) % d = hf (fun j => la.getD j 0) g n) := by
        have e3 : hf (updU f g ((r * 4294967296 + x) / d)) (g + 1) n = hf f (g + 1) n := hf_congr fun j hj => by unfold updU; rw [if_neg (by omega)]
        have e4 : updU f g ((r * 4294967296 + x) / d) g = (r * 4294967296 + x) / d := by unfold updU; rw [if_pos rfl]
        have goal : hf (updU f g ((r * 4294967296 + x) / d)) g n * d + (r * 4294967296 + x) % d = hf (fun j => la.getD j 0) g n := by
          rw [hf_step _ (by omega : g < n), hf_step (fun j => la.getD j 0) (by omega : g < n), e3, e4, hxx]
          exact hst
        exact goal
      have hrl : (r * 4294967296 + x) % d < d := Nat.mod_lt _ d0
      have hqb : r * 4294967296 + x < 18446744073709551616 := by omega
      generalize hq : r * 4294967296 + x = q at *
      rw [e0] at hor
      have e1 : ((q : Nat) : Int) / (d : Int) = ((q / d : Nat) : Int) := by simp
      have e2 : ((q : Nat) : Int) % (d : Int) = ((q % d : Nat) : Int) := by simp
      have HN : Hid (RowU (wr.setCell ⟨w.heap.size, g, none⟩ (.int .u32 ((q / d : Nat) : Int))) w.heap.size n (updU f g (q / d))) := hrow.set _ _
      have HBN : Hid (Below w.heap.size w (wr.setCell ⟨w.heap.size, g, none⟩ (.int .u32 ((q / d : Nat) : Int)))) := below_set hb _ _ _ (Nat.le_refl _)
      clear hst heq hfb hrow hb hxx hq
      have di : 0 < (d : Int) := by omega
      have dl : (d : Int) < 4294967296 := by omega
      have dz : ((d : Int) == 0) = false := beq_eq_false_iff_ne.2 (by omega)
      generalize q / d = u at *
      have ql : (u : Int) < 4294967296 := by omega
      have qm : (u : Int) % 4294967296 = (u : Int) := by omega
      generalize q % d = v at *
      go_wp2_with fail
      go_roundw
      case rel => exact ⟨g, v, _, by omega, by go_num, by first | rfl | rw [e2], hrl, HN.out, HF.out, HBN.out, HE.out⟩
      case measure => first | (simp [intOf]; done) | (simp [intOf]; omega)

end Go.Proofs.YtgipkpkjoicehaaGreatDoor.words
