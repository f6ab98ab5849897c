/- The program's oracle: what was given. -/
import Derived.Test.YtgipkpkjoicehabDoorOrPw
import Derived.Deep.RegionHeldLaw
namespace Go.Proofs.YtgipkpkjoicehabDoor.ora
open Go.RowKit
set_option maxRecDepth 100000
set_option linter.unusedVariables false
set_option linter.unusedSimpArgs false

/-- What was given, as a map; or nothing. -/
def Given (w : World) (l : List Pr) (e : Ending) (w' : World) : Prop :=
  Below w.heap.size w w' ∧ ((May l ∧ ∃ B, e = .returned (.tuple #[.map (some B), .bool true]) ∧ Mp w' B l) ∨ (¬ May l ∧ e = .returned (.tuple #[.map none, .bool false])))
/-- As far as the loop went. -/
def Seen (l : List Pr) (k : Nat) : Prop := ∀ i, i < k → (l.getD i pr0).may ∧ At l (l.getD i pr0).m (l.getD i pr0).r (l.getD i pr0).b i
/-- The box, the map, and what came in. -/
structure Bg (w wr : World) (B : Nat) (a : Option Addr) (n cap : Nat) (l : List Pr) (k : Nat) : Prop where
  bo : Bo w wr a n cap l
  mp : Mp wr B (l.take k)
  hB : w.heap.size ≤ B
theorem Bg.next {w wr w' : World} {B : Nat} {a : Option Addr} {n cap : Nat} {l : List Pr} {k : Nat} (h : Bg w wr B a n cap l k) (hb : Below wr.heap.size wr w') : Bg w w' B a n cap l k := ⟨h.bo.next hb, h.mp.below hb, h.hB⟩
theorem Bg.alloc {w wr : World} {B : Nat} {a : Option Addr} {n cap : Nat} {l : List Pr} {k : Nat} (h : Bg w wr B a n cap l k) (o : Obj) : Bg w (wr.alloc o) B a n cap l k := h.next ((Below.refl _ _).alloc (Nat.le_refl _) _)
theorem Bg.drew {w wr : World} {B : Nat} {a : Option Addr} {n cap : Nat} {l : List Pr} {k : Nat} (h : Bg w wr B a n cap l k) (q : Nat) : Bg w (wr.drewN q) B a n cap l k := h.next (bel_drew (Below.refl _ _) q)
theorem rowP_oth {w W : World} {a : Option Addr} {n : Nat} {l : List Pr} {B : Nat} {l' : List Pr} (h : RowP w a n l) (hM : Mp w B l') (ho : ∀ G, G ≠ B → W.heap[G]? = w.heap[G]?) : RowP W a n l := by
  refine ⟨h.1, ?_⟩
  rcases h.2 with h0 | ⟨b, off, rfl, hc⟩
  · exact .inl h0
  · refine .inr ⟨b, off, rfl, fun i hi => ?_⟩
    obtain ⟨h1, h2, h3, h4⟩ := hc i hi
    have hb : b ≠ B := by
      rintro rfl
      unfold Mp at hM
      simp [World.cell?, hM] at h1
    have e : ∀ o, W.cell? ⟨b, o, none⟩ = w.cell? ⟨b, o, none⟩ := fun o => by simp only [World.cell?, ho b hb]
    exact ⟨(e _).trans h1, (e _).trans h2, (e _).trans h3, (e _).trans h4⟩
theorem blk_oth {w W : World} {G B : Nat} {cs : Array Value} {t : TypeId} {l' : List Pr} (h : Blk w G cs t) (hM : Mp w B l') (ho : ∀ G, G ≠ B → W.heap[G]? = w.heap[G]?) : Blk W G cs t := by
  have hb : G ≠ B := by
    rintro rfl
    unfold Mp at hM; unfold Blk at h
    rw [h] at hM; cases hM
  unfold Blk at *; rw [ho G hb]; exact h
theorem Bg.put {w wr W : World} {B : Nat} {a : Option Addr} {n cap : Nat} {l : List Pr} {k : Nat} (h : Bg w wr B a n cap l k) (hk : k < l.length) (hM : Mp W B (l.take k ++ [⟨(l.getD k pr0).m, (l.getD k pr0).r, (l.getD k pr0).b, (l.getD k pr0).t⟩]))
    (ho : ∀ G, G ≠ B → W.heap[G]? = wr.heap[G]?) (hb : ∀ B0 w0, B0 ≤ B → Below B0 w0 wr → Below B0 w0 W) : Bg w W B a n cap l (k + 1) :=
  ⟨⟨blk_oth h.bo.box h.mp ho, rowP_oth h.bo.row h.mp ho, hb _ _ h.hB h.bo.bel⟩, by rw [take_nextP l k hk] at hM; exact hM, h.hB⟩
theorem seen_no {l : List Pr} {k : Nat} (hk : k < l.length) (hm : May l) : look (l.take k) (l.getD k pr0).m (l.getD k pr0).r (l.getD k pr0).b = none := (look_take (by omega)).2 (hm.each k hk).2.first
theorem seen_yes {l : List Pr} {k : Nat} (hk : k < l.length) (hs : Seen l k) (hl : look (l.take k) (l.getD k pr0).m (l.getD k pr0).r (l.getD k pr0).b = none) (hp : (Pr.mk (l.getD k pr0).m (l.getD k pr0).r (l.getD k pr0).b (l.getD k pr0).t).may) : Seen l (k + 1) := fun i hi => by
  by_cases e : i = k
  · subst e; exact ⟨hp, hk, ⟨rfl, rfl, rfl⟩, (look_take (by omega)).1 hl⟩
  · exact hs i (by omega)
set_option maxHeartbeats 2000000 in
theorem given_any (a : Option Addr) (n cap : Nat) (l : List Pr) (w : World) (hr : RowP w a n l) :
    Calls Tryd.prog 49 #[.agg #[.slice a n cap]] w fun e w' => Given w l e w' := by
  have HB0 : Hid (Bo w (w.alloc (.cells #[.slice a n cap] 25)) a n cap l) := Bo.new hr
  have HL : Hid (l.length = n) := hr.1
  clear hr
  have c0 := HB0.out.box.cell 0
  by_cases hn : n ≤ 500
  · have hgt' : decide ((500 : Int) < (n : Int)) = false := by simp; omega
    obtain ⟨B, hBe⟩ : ∃ B, B = w.heap.size + 1 := ⟨_, rfl⟩
    have hmk : ∀ z : Int, (Instr.makeMap 105 (some (.int .i64 z))).run Tryd.prog (w.alloc (.cells #[.slice a n cap] 25)) = .ok (.map (some B)) ((w.alloc (.cells #[.slice a n cap] 25)).alloc (.map #[] 0)) := fun z => by rw [run_mkMap, hBe]; simp
    have HG0 : Hid (Bg w ((w.alloc (.cells #[.slice a n cap] 25)).alloc (.map #[] 0)) B a n cap l 0) := ⟨HB0.out.alloc _, by
      have := Mp.new (w.alloc (.cells #[.slice a n cap] 25))
      rw [show (w.alloc (.cells #[.slice a n cap] 25)).heap.size = B by rw [hBe]; simp] at this
      rw [List.take_zero]; exact this, by omega⟩
    have d0 := HG0.out.bo.box.cell 0
    clear hBe HB0
    have HPM : Hid (∀ W m r b t, Calls Tryd.prog 50 #[.agg #[.int .i64 m, .int .i64 r, .int .i64 b, .int .i64 t]] W fun e w' => Told W (Pr.mk m r b t).may e w') := fun W m r b t => within_any m r b t W
    have HOF : Hid (∀ W m r b t, Calls Tryd.prog 51 #[.agg #[.int .i64 m, .int .i64 r, .int .i64 b, .int .i64 t]] W fun e w' => e = .returned (.agg #[.int .i64 m, .int .i64 r, .int .i64 b]) ∧ Below W.heap.size W w') := fun W m r b t => of_any m r b t W
    go_enter Tryd.func49, Tryd.ntmps49
    go_wp2_with fail
    clear c0 d0 hmk hgt'
    generalize (w.alloc (.cells #[.slice a n cap] 25)).alloc (.map #[] 0) = W0 at *
    go_loopw [20] (fun j wr => ∃ k : Nat, k ≤ n ∧ j = .int .i64 (k : Int) ∧ Hid (Seen l k) ∧ Bg w wr B a n cap l k) (fun j _ => n - (intOf j).toNat)
    case atStart => exact ⟨0, Nat.zero_le _, rfl, fun i hi => absurd hi (Nat.not_lt_zero _), HG0.out⟩
    case round =>
      obtain ⟨k, hk, rfl, HA, hbo⟩ := hrel
      have HI : Hid (Bg w wr B a n cap l k) := hbo
      clear hbo HG0
      by_cases hlt : k < n
      · obtain ⟨bl, off, rfl, _, hc⟩ := HI.out.bo.row.at (by omega)
        obtain ⟨f0, f1, f2, f3⟩ := hc k hlt
        have hkl : k < l.length := by rw [HL.out]; exact hlt
        have HNO : Hid (look (l.take k) (l.getD k pr0).m (l.getD k pr0).r (l.getD k pr0).b ≠ none → ¬ May l) := fun h hm => h (seen_no hkl hm)
        have HN1 : Hid (May l → (Pr.mk (l.getD k pr0).m (l.getD k pr0).r (l.getD k pr0).b (l.getD k pr0).t).may) := fun hm => (hm.each k hkl).1
        have HNX : Hid (look (l.take k) (l.getD k pr0).m (l.getD k pr0).r (l.getD k pr0).b = none → (Pr.mk (l.getD k pr0).m (l.getD k pr0).r (l.getD k pr0).b (l.getD k pr0).t).may → Seen l (k + 1)) := fun h1 h2 => seen_yes hkl HA.out h1 h2
        have HPUT : Hid (∀ v W, Bg w v B (some ⟨bl, off, none⟩) n cap l k → Mp W B (l.take k ++ [⟨(l.getD k pr0).m, (l.getD k pr0).r, (l.getD k pr0).b, (l.getD k pr0).t⟩]) → (∀ G, G ≠ B → W.heap[G]? = v.heap[G]?) → (∀ B0 w0, B0 ≤ B → Below B0 w0 v → Below B0 w0 W) → Bg w W B (some ⟨bl, off, none⟩) n cap l (k + 1)) := fun v W h1 h2 h3 h4 => h1.put hkl h2 h3 h4
        clear hc HA hkl
        generalize (l.getD k pr0).m = pm at *
        generalize (l.getD k pr0).r = prr at *
        generalize (l.getD k pr0).b = pb at *
        generalize (l.getD k pr0).t = pt at *
        have hN := Blk.new wr #[.int .i64 pm, .int .i64 prr, .int .i64 pb, .int .i64 pt] 109
        have n0 := hN.cell 0
        have n1 := hN.cell 1
        have n2 := hN.cell 2
        have n3 := hN.cell 3
        have HNB : Hid (Blk (wr.alloc (.cells #[.int .i64 pm, .int .i64 prr, .int .i64 pb, .int .i64 pt] 109)) wr.heap.size #[.int .i64 pm, .int .i64 prr, .int .i64 pb, .int .i64 pt] 109) := hN
        have HI2 : Hid (Bg w (wr.alloc (.cells #[.int .i64 pm, .int .i64 prr, .int .i64 pb, .int .i64 pt] 109)) B (some ⟨bl, off, none⟩) n cap l k) := HI.out.alloc _
        clear hN HI
        go_wp2_with fail
        refine (HOF.out _ _ _ _ _).mono ?_
        rintro e w2 ⟨rfl, hb2⟩
        have HI3 : Hid (Bg w w2 B (some ⟨bl, off, none⟩) n cap l k) := HI2.out.next hb2
        have HM : Hid (Blk w2 wr.heap.size #[.int .i64 pm, .int .i64 prr, .int .i64 pb, .int .i64 pt] 109) := HNB.out.next hb2
        have m0 := HM.out.cell 0
        have m1 := HM.out.cell 1
        have m2 := HM.out.cell 2
        have m3 := HM.out.cell 3
        have hlk := look_run HI3.out.mp pm prr pb
        clear HNB hb2 n0 n1 n2 n3 HI2 f0 f1 f2 f3
        generalize wr.heap.size = gn at *
        cases hlo : look (l.take k) pm prr pb with
        | some x =>
          rw [hlo] at hlk
          simp only [Option.getD_some, Option.isSome_some] at hlk
          have HF : Hid (¬ May l) := HNO.out (by rw [hlo]; exact fun h => by cases h)
          clear hlo
          go_wp2_with fail
          go_ret2
          exact ⟨HI3.out.bo.bel, .inr ⟨HF.out, rfl⟩⟩
        | none =>
          rw [hlo] at hlk
          simp only [Option.getD_none, Option.isSome_none] at hlk
          have HLO : Hid (look (l.take k) pm prr pb = none) := hlo
          clear hlo
          go_wp2_with fail
          refine (HPM.out _ _ _ _ _).mono ?_
          rintro e w3 ⟨rr, rfl, hrr, hb3⟩
          have HI4 : Hid (Bg w w3 B (some ⟨bl, off, none⟩) n cap l k) := HI3.out.next hb3
          have HM3 : Hid (Blk w3 gn #[.int .i64 pm, .int .i64 prr, .int .i64 pb, .int .i64 pt] 109) := HM.out.next hb3
          clear hlk m0 m1 m2 m3 HM HI3 hb3
          cases rr with
          | false =>
            have HF : Hid (¬ May l) := fun hm => by have := hrr.2 (HN1.out hm); cases this
            clear hrr
            go_wp2_with fail
            go_ret2
            exact ⟨HI4.out.bo.bel, .inr ⟨HF.out, rfl⟩⟩
          | true =>
            have HPY : Hid ((Pr.mk pm prr pb pt).may) := hrr.1 rfl
            clear hrr
            have K3 : Hid (w3.drew.cell? ⟨gn, 0, none⟩ = some (.int .i64 pm) ∧ w3.drew.cell? ⟨gn, 0 + 1, none⟩ = some (.int .i64 prr) ∧ w3.drew.cell? ⟨gn, 0 + 2, none⟩ = some (.int .i64 pb) ∧ w3.drew.cell? ⟨gn, 0 + 3, none⟩ = some (.int .i64 pt)) := ⟨HM3.out.cell 0, HM3.out.cell 1, HM3.out.cell 2, HM3.out.cell 3⟩
            have HI5 : Hid (Bg w w3.drew B (some ⟨bl, off, none⟩) n cap l k) := HI4.out.drew 1
            have HM5 : Hid (Blk w3.drew gn #[.int .i64 pm, .int .i64 prr, .int .i64 pb, .int .i64 pt] 109) := HM3.out
            go_wp2_with fail
            go_region_held_law (fun v => v.cell? ⟨gn, 0, none⟩ = some (.int .i64 pm) ∧ v.cell? ⟨gn, 0 + 1, none⟩ = some (.int .i64 prr) ∧ v.cell? ⟨gn, 0 + 2, none⟩ = some (.int .i64 pb) ∧ v.cell? ⟨gn, 0 + 3, none⟩ = some (.int .i64 pt))
              (first | with_reducible exact K3.out | with_reducible exact K4.out | with_reducible exact K5.out)
              (first
                | (go_at_call 51; refine (HOF.out _ _ _ _ _).mono ?_; rintro e w4 ⟨rfl, hb4⟩
                   have HI6 : Hid (Bg w w4 B (some ⟨bl, off, none⟩) n cap l k) := HI5.out.next hb4
                   have HM6 : Hid (Blk w4 gn #[.int .i64 pm, .int .i64 prr, .int .i64 pb, .int .i64 pt] 109) := HM5.out.next hb4
                   have K4 : Hid (w4.cell? ⟨gn, 0, none⟩ = some (.int .i64 pm) ∧ w4.cell? ⟨gn, 0 + 1, none⟩ = some (.int .i64 prr) ∧ w4.cell? ⟨gn, 0 + 2, none⟩ = some (.int .i64 pb) ∧ w4.cell? ⟨gn, 0 + 3, none⟩ = some (.int .i64 pt)) := ⟨HM6.out.cell 0, HM6.out.cell 1, HM6.out.cell 2, HM6.out.cell 3⟩
                   obtain ⟨W5, hu5, hm5, ho5, hb5, hs5⟩ := upd_run HI6.out.mp pm prr pb pt HLO.out
                   have HI7 : Hid (Bg w W5 B (some ⟨bl, off, none⟩) n cap l (k + 1)) := HPUT.out _ _ HI6.out hm5 ho5 hb5
                   have hM7 := blk_oth HM6.out HI6.out.mp ho5
                   have K5 : Hid (W5.cell? ⟨gn, 0, none⟩ = some (.int .i64 pm) ∧ W5.cell? ⟨gn, 0 + 1, none⟩ = some (.int .i64 prr) ∧ W5.cell? ⟨gn, 0 + 2, none⟩ = some (.int .i64 pb) ∧ W5.cell? ⟨gn, 0 + 3, none⟩ = some (.int .i64 pt)) := ⟨hM7.cell 0, hM7.cell 1, hM7.cell 2, hM7.cell 3⟩
                   clear hm5 ho5 hb5 hs5 hM7 hb4))
            all_goals go_wp2_with fail
            all_goals go_roundw
            case rel => exact ⟨k + 1, by omega, by go_num, HNX.out HLO.out HPY.out, HI7.out⟩
            case measure => simp [intOf]; omega
      · obtain rfl : k = n := by omega
        have hlt' : decide ((k : Int) < (k : Int)) = false := by simp
        have HF : Hid (May l) := ⟨by rw [HL.out]; exact hn, fun i hi => HA.out i (by rw [← HL.out]; exact hi)⟩
        have HM : Hid (Mp wr B l) := by have := HI.out.mp; rw [List.take_of_length_le (by rw [HL.out]; exact Nat.le_refl _)] at this; exact this
        clear hlt HA
        go_wp2_with fail
        go_ret2
        exact ⟨HI.out.bo.bel, .inl ⟨HF.out, B, rfl, HM.out⟩⟩
  · have hgt' : decide ((500 : Int) < (n : Int)) = true := by simp; omega
    have HF : Hid (¬ May l) := fun h => by have := h.few; rw [HL.out] at this; omega
    clear hn HL
    go_enter Tryd.func49, Tryd.ntmps49
    go_wp2_with fail
    go_ret2
    exact ⟨HB0.out.bel, .inr ⟨HF.out, rfl⟩⟩

end Go.Proofs.YtgipkpkjoicehabDoor.ora
