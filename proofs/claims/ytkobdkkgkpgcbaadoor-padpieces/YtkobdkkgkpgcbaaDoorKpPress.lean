/- What Press gives back. -/
import Derived.Test.YtkobdkkgkpgcbaaDoorKpPut
namespace Go.Proofs.YtkobdkkgkpgcbaaDoor.keypad
open Go.Proofs.YtkobdkkgkpgcbaaDoor.check
open Go.RowKit
set_option linter.unusedSimpArgs false

/-- A key was pressed: the pad behind it, and what it ended. -/
def PressPost (w : World) (p : Pad) (r : Int) (e : Ending) (w' : World) : Prop :=
  ∃ v, e = .returned (.tuple #[(pad p r).v, v, .int .i64 0]) ∧ Lies w' w.heap.size v (ents p r) ∧ Below w.heap.size w w'
def BadPost (w : World) (e : Ending) (w' : World) : Prop :=
  e = .returned (.tuple #[noPad.v, .slice none 0 0, .int .i64 5]) ∧ Below w.heap.size w w'

theorem Lies.next {w w' : World} {base : Nat} {v : Value} {l : List Ent} (h : Lies w base v l) (hb : Below w.heap.size w w') : Lies w' base v l := by
  refine ⟨h.1, ?_⟩
  rcases h.2 with hn | ⟨g, cap, cur, hv, hg, hc, rest⟩
  · exact .inl hn
  · exact .inr ⟨g, cap, cur, hv, hg, Blk.next hc hb, rest⟩
theorem Lies.mono {w : World} {base base' : Nat} {v : Value} {l : List Ent} (h : Lies w base v l) (hb : base' ≤ base) : Lies w base' v l := by
  refine ⟨h.1, ?_⟩
  rcases h.2 with hn | ⟨g, cap, cur, hv, hg, rest⟩
  · exact .inl hn
  · exact .inr ⟨g, cap, cur, hv, by omega, rest⟩
theorem Lies.off {w : World} {base G : Nat} {v : Value} {l : List Ent} (h : Lies w base v l) (hG : G < base) (s : ByteArray) (b : Bool) : Lies (setP w G s b) base v l := by
  refine ⟨h.1, ?_⟩
  rcases h.2 with hn | ⟨g, cap, cur, hv, hg, hc, rest⟩
  · exact .inl hn
  · exact .inr ⟨g, cap, cur, hv, hg, Blk.offP hc (by omega) s b, rest⟩

set_option maxHeartbeats 2000000 in
theorem press_no (p : Pad) (r : Int) (w : World) (h : ¬ p.ok) :
    Calls Tryd.prog 9 #[p.v, .int .i32 r] w fun e w' => BadPost w e w' := by
  have HM : Hid (∀ W, Calls Tryd.prog 19 #[p.v] W fun e w' => e = .returned (.bool false) ∧ Below W.heap.size W w') := fun W => by
    have e : okB p = false := by cases hh : okB p with
      | false => rfl
      | true => exact absurd (okB_ok.1 hh) h
    have := mayBe_any p W
    rwa [e] at this
  clear h
  obtain ⟨s, b⟩ := p
  unfold Pad.v at *
  go_enter Tryd.func9, Tryd.ntmps9
  go_wp2_with fail
  refine (HM.out _).mono ?_
  rintro e w2 ⟨rfl, hb2⟩
  have hB : Below w.heap.size w w2 := bel_step (bel2 _ _ _) hb2
  have hX := (Blk.new1 w (.cells #[.string s, .bool b] 23) #[.string ⟨#[]⟩, .bool false] 23).next hb2
  have t0 := hX.cell 0
  have t1 := hX.cell 1
  have u0 := hX.free 0
  have u1 := hX.free 1
  have HX : Hid (Blk (setP w2 (w.heap.size + 1) ⟨#[]⟩ false) (w.heap.size + 1) #[.string ⟨#[]⟩, .bool false] 23) := Blk.putP hX _ _
  have HB : Hid (Below w.heap.size w (setP w2 (w.heap.size + 1) ⟨#[]⟩ false)) := bel_setP hB _ _ _ (Nat.le_succ _)
  clear hX hB hb2 HM
  have R0 : Hid (_ = _) := HX.out.cell 0
  have R1 : Hid (_ = _) := HX.out.cell 1
  unfold setP at HB R0 R1
  clear HX
  go_wp2_with fail
  exact bodyPost_ret (v := .tuple #[.agg #[.string ⟨#[]⟩, .bool false], .slice none 0 0, .int .i64 5]) (by simp [results, Tryd.results9, R0.out, R1.out, go_sem]) rfl ⟨rfl, HB.out⟩

set_option maxHeartbeats 2000000 in
theorem press_any (p : Pad) (r : Int) (w : World) (h : p.ok) (ht : NTab w) :
    Calls Tryd.prog 9 #[p.v, .int .i32 r] w fun e w' => PressPost w p r e w' := by
  have HM : Hid (∀ W, Calls Tryd.prog 19 #[p.v] W fun e w' => e = .returned (.bool true) ∧ Below W.heap.size W w') := fun W => by
    have := mayBe_any p W
    rwa [okB_ok.2 h] at this
  have HT : Hid (∀ W, Below w.heap.size w W → NTab W) := fun W hW => ht.below hW
  clear ht
  by_cases hr : r = 35
  · subst hr
    have HE : Hid (∀ W, Calls Tryd.prog 20 #[p.v] W fun e w' => ∃ v, e = .returned v ∧ Lies w' W.heap.size v (ents p 35) ∧ Below W.heap.size W w') := fun W => ended_any p W
    have HQ : Hid (pad p 35 = noPad) := rfl
    clear h
    unfold PressPost
    rw [HQ.out]
    generalize ents p 35 = l at *
    clear HQ
    obtain ⟨s, b⟩ := p
    unfold Pad.v noPad at *
    go_enter Tryd.func9, Tryd.ntmps9
    go_wp2_with fail
    refine (HM.out _).mono ?_
    rintro e w2 ⟨rfl, hb2⟩
    have HB2 : Hid (Below w.heap.size w w2) := bel_step (bel2 _ _ _) hb2
    have hX := (Blk.new1 w (.cells #[.string s, .bool b] 23) #[.string ⟨#[]⟩, .bool false] 23).next hb2
    have hY := ((Blk.new w #[.string s, .bool b] 23).alloc (.cells #[.string ⟨#[]⟩, .bool false] 23)).next hb2
    have HX2 : Hid (Blk w2 (w.heap.size + 1) #[.string ⟨#[]⟩, .bool false] 23) := hX
    have y0 := hY.cell 0
    have y1 := hY.cell 1
    clear hX hY hb2 HM HT
    go_wp2_with fail
    refine (HE.out _).mono ?_
    rintro e w3 ⟨v, rfl, hl, hb3⟩
    have hX := HX2.out.next hb3
    have hlt := HX2.out.lt
    have HL : Hid (Lies (setP w3 (w.heap.size + 1) ⟨#[]⟩ false) w.heap.size v l) := (hl.off hlt _ _).mono HB2.out.size
    have hB : Below w.heap.size w w3 := bel_step HB2.out hb3
    have t0 := hX.cell 0
    have t1 := hX.cell 1
    have u0 := hX.free 0
    have u1 := hX.free 1
    have HX : Hid (Blk (setP w3 (w.heap.size + 1) ⟨#[]⟩ false) (w.heap.size + 1) #[.string ⟨#[]⟩, .bool false] 23) := Blk.putP hX _ _
    have HB : Hid (Below w.heap.size w (setP w3 (w.heap.size + 1) ⟨#[]⟩ false)) := bel_setP hB _ _ _ (Nat.le_succ _)
    clear hX hB hb3 HX2 HE hlt HB2 y0 y1 hl
    have R0 : Hid (_ = _) := HX.out.cell 0
    have R1 : Hid (_ = _) := HX.out.cell 1
    unfold setP at HB R0 R1 HL
    clear HX
    go_wp2_with fail
    exact bodyPost_ret (v := .tuple #[.agg #[.string ⟨#[]⟩, .bool false], v, .int .i64 0]) (by simp [results, Tryd.results9, R0.out, R1.out, go_sem]) rfl ⟨v, rfl, HL.out, HB.out⟩
  · have HP : Hid (∀ W, NTab W → Calls Tryd.prog 21 #[p.v, .int .i32 r] W fun e w' => e = .returned (pad p r).v ∧ Below W.heap.size W w') := fun W hW => pressed_any p r W h.s hW hr
    have f1 : (r == 35) = false := by simpa using hr
    have HQ : Hid (ents p r = []) := if_neg hr
    clear h hr
    unfold PressPost
    rw [HQ.out]
    generalize pad p r = q at *
    clear HQ
    obtain ⟨s, b⟩ := p
    obtain ⟨s', b'⟩ := q
    unfold Pad.v at *
    go_enter Tryd.func9, Tryd.ntmps9
    go_wp2_with fail
    refine (HM.out _).mono ?_
    rintro e w2 ⟨rfl, hb2⟩
    have HB2 : Hid (Below w.heap.size w w2) := bel_step (bel2 _ _ _) hb2
    have hX := (Blk.new1 w (.cells #[.string s, .bool b] 23) #[.string ⟨#[]⟩, .bool false] 23).next hb2
    have hY := ((Blk.new w #[.string s, .bool b] 23).alloc (.cells #[.string ⟨#[]⟩, .bool false] 23)).next hb2
    have HX2 : Hid (Blk w2 (w.heap.size + 1) #[.string ⟨#[]⟩, .bool false] 23) := hX
    have HT2 : Hid (NTab w2) := HT.out _ HB2.out
    have y0 := hY.cell 0
    have y1 := hY.cell 1
    clear hX hY hb2 HM HT
    go_wp2_with fail
    refine (HP.out _ HT2.out).mono ?_
    rintro e w3 ⟨rfl, hb3⟩
    have hX := HX2.out.next hb3
    have hB : Below w.heap.size w w3 := bel_step HB2.out hb3
    have t0 := hX.cell 0
    have t1 := hX.cell 1
    have u0 := hX.free 0
    have u1 := hX.free 1
    have HX : Hid (Blk (setP w3 (w.heap.size + 1) s' b') (w.heap.size + 1) #[.string s', .bool b'] 23) := Blk.putP hX _ _
    have HB : Hid (Below w.heap.size w (setP w3 (w.heap.size + 1) s' b')) := bel_setP hB _ _ _ (Nat.le_succ _)
    clear hX hB hb3 HX2 HP HB2 y0 y1 HT2
    have R0 : Hid (_ = _) := HX.out.cell 0
    have R1 : Hid (_ = _) := HX.out.cell 1
    unfold setP at HB R0 R1
    clear HX
    go_wp2_with fail
    exact bodyPost_ret (v := .tuple #[.agg #[.string s', .bool b'], .slice none 0 0, .int .i64 0]) (by simp [results, Tryd.results9, R0.out, R1.out, go_sem]) rfl ⟨_, rfl, Lies.zero _ _, HB.out⟩

end Go.Proofs.YtkobdkkgkpgcbaaDoor.keypad
