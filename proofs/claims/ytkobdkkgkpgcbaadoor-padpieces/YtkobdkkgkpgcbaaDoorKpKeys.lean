/- What Keys gives back. -/
import Derived.Test.YtkobdkkgkpgcbaaDoorKpOwn
import Derived.RegionTactic
import Derived.ChangeAlike
namespace Go.Proofs.YtkobdkkgkpgcbaaDoor.keypad
open Go.Proofs.YtkobdkkgkpgcbaaDoor.check
open Go.RowKit
set_option linter.unusedSimpArgs false

theorem Lies.iter {w : World} {base I : Nat} {v : Value} {l : List Ent} (h : Lies w base v l) (hI : I < base) (s : ByteArray) (k : Nat) : Lies (w.iterAt I s k) base v l := by
  refine ⟨h.1, ?_⟩
  rcases h.2 with hn | ⟨g, cap, cur, hv, hg, hc, rest⟩
  · exact .inl hn
  · exact .inr ⟨g, cap, cur, hv, hg, Blk.iter hc s k (by omega), rest⟩
theorem Lies.alloc {w : World} {base : Nat} {v : Value} {l : List Ent} (h : Lies w base v l) (o : Obj) : Lies (w.alloc o) base v l := World.ownsRow.alloc h o

theorem bel_drew1 {B : Nat} {w0 w : World} (h : Below B w0 w) : Below B w0 w.drew := ⟨h.os, h.tape, h.output, h.size, h.block⟩
theorem Lies.drew {w : World} {base : Nat} {v : Value} {l : List Ent} (h : Lies w base v l) : Lies w.drew base v l := h
theorem Blk.drew1 {w : World} {G : Nat} {cs : Array Value} {t : TypeId} (h : Blk w G cs t) : Blk w.drew G cs t := h

/-- While a text is keyed: k bytes of it are, the characters done. -/
structure Kst (w wr : World) (S : ByteArray) (k : Nat) (V : Value) (done : List Int) : Prop where
  below : Below w.heap.size w wr
  big : w.heap.size + 3 ≤ wr.heap.size
  res : Blk wr w.heap.size #[.string ⟨#[]⟩, .bool false] 23
  pad : Blk wr (w.heap.size + 1) #[.string (padAll noPad done).d, .bool (padAll noPad done).b] 23
  it : It wr (w.heap.size + 1 + 1) S k
  lies : Lies wr (w.heap.size + 3) V (entAll noPad done)
  run : runes S.data.toList = done ++ runes (S.data.toList.drop k)
  len : done.length ≤ k

/-- What Keys tells of a text that is not too long. -/
def KeysPost (w : World) (S : ByteArray) (e : Ending) (w' : World) : Prop :=
  ∃ v, e = .returned (.tuple #[v, (padAll noPad (runes S.data.toList)).v, .int .i64 0]) ∧ Lies w' w.heap.size v (entAll noPad (runes S.data.toList)) ∧ Below w.heap.size w w'
def LongPost (w : World) (e : Ending) (w' : World) : Prop :=
  e = .returned (.tuple #[.slice none 0 0, noPad.v, .int .i64 1]) ∧ Below w.heap.size w w'

set_option maxHeartbeats 1000000 in
theorem keys_long (S : ByteArray) (w : World) (h : 2000 < S.size) : Calls Tryd.prog 12 #[.string S] w fun e w' => LongPost w e w' := by
  have h1 : (2000 : Int) < (S.size : Int) := by omega
  clear h
  go_enter Tryd.func12, Tryd.ntmps12
  go_wp2_with fail
  exact bodyPost_ret (v := .tuple #[.slice none 0 0, .agg #[.string ⟨#[]⟩, .bool false], .int .i64 1]) (by simp [results, Tryd.results12, go_sem]) rfl ⟨rfl, bel1 _ _⟩

set_option maxHeartbeats 2000000 in
theorem keys_any (S : ByteArray) (w : World) (h : S.size ≤ 2000) (ht : NTab w) : Calls Tryd.prog 12 #[.string S] w fun e w' => KeysPost w S e w' := by
  have h1 : ¬ (2000 : Int) < (S.size : Int) := by omega
  have HS : Hid (S.size ≤ 2000) := h
  clear h
  have HK0 : Hid (Kst w (((w.alloc (.cells #[.string ⟨#[]⟩, .bool false] 23)).alloc (.cells #[.string ⟨#[]⟩, .bool false] 23)).iter S 0) S 0 (.slice none 0 0) []) := by
    refine ⟨(bel2 _ _ _).alloc (by simp; omega) _, by simp [World.iter], ((Blk.new _ _ _).alloc _).alloc _, (Blk.new1 _ _ _ _).alloc _, ?_, Lies.zero _ _, rfl, Nat.zero_le _⟩
    have := World.iter_heap ((w.alloc (.cells #[.string ⟨#[]⟩, .bool false] 23)).alloc (.cells #[.string ⟨#[]⟩, .bool false] 23)) S 0
    rwa [show ((w.alloc (.cells #[.string ⟨#[]⟩, .bool false] 23)).alloc (.cells #[.string ⟨#[]⟩, .bool false] 23)).heap.size = w.heap.size + 1 + 1 by simp] at this
  have HT : Hid (∀ W, Below w.heap.size w W → NTab W) := fun W hW => ht.below hW
  clear ht
  go_enter Tryd.func12, Tryd.ntmps12
  go_wp2_with fail
  generalize (((w.alloc (.cells #[.string ⟨#[]⟩, .bool false] 23)).alloc (.cells #[.string ⟨#[]⟩, .bool false] 23)).iter S 0) = W0 at *
  go_loopw [5] (fun V wr => ∃ (k : Nat) (done : List Int), k ≤ S.size ∧ Kst w wr S k V done) (fun _ wr => S.size - wr.iterPos (w.heap.size + 1 + 1))
  case atStart => exact ⟨0, [], Nat.zero_le _, HK0.out⟩
  case round =>
    obtain ⟨k, done, hk, hl⟩ := hrel
    have HP0 : Hid (wr.iterPos (w.heap.size + 1 + 1) = k) := hl.it.pos
    clear HK0
    by_cases hp : k < S.size
    · have hnx : ∀ ty, (Instr.next (.pointer (some ⟨w.heap.size + 1 + 1, 0, none⟩)) true ty).run Tryd.prog wr = _ := fun ty => Lib.run_next_any_at wr (w.heap.size + 1 + 1) S k ty hl.it hp
      have hmx := decode_max S k
      have HN1 : Hid (1 ≤ (Utf8.decode S k).2 ∧ k + (Utf8.decode S k).2 ≤ S.size) := ⟨decode_pos S k, decode_le S k hp⟩
      have HRU : Hid (runes S.data.toList = (done ++ [((Utf8.decode S k).1 : Int)]) ++ runes (S.data.toList.drop (k + (Utf8.decode S k).2))) := by
        show _ = _
        rw [hl.run, runes_at S k hp, List.append_assoc]; rfl
      generalize (Utf8.decode S k).1 = r at *
      generalize (Utf8.decode S k).2 = n at *
      obtain ⟨hb, hbig, hR, hP, hI, hL, _, hlen⟩ := hl
      have hb1 := Lib.below_iterAt hb (k := w.heap.size + 1 + 1) (by omega) S (k + n)
      have hI1 : It (wr.iterAt (w.heap.size + 1 + 1) S (k + n)) (w.heap.size + 1 + 1) S (k + n) := Lib.iterAt_heap wr (w.heap.size + 1 + 1) S k (k + n) hI
      have hR1 := hR.iter (I := w.heap.size + 1 + 1) S (k + n) (by omega)
      have hP1 := hP.iter (I := w.heap.size + 1 + 1) S (k + n) (by omega)
      have hL1 := hL.iter (I := w.heap.size + 1 + 1) (by omega) S (k + n)
      have hz1 : w.heap.size + 3 ≤ (wr.iterAt (w.heap.size + 1 + 1) S (k + n)).heap.size := by rw [Lib.iterAt_size]; exact hbig
      have HP2 : Hid (∀ W, NTab W → Calls Tryd.prog 9 #[(padAll noPad done).v, .int .i32 (r : Int)] W fun e w' => PressPost W (padAll noPad done) (r : Int) e w') := fun W hW => press_any _ _ W (padAll_ok noPad_ok done) hW
      have HPA : Hid (padAll noPad (done ++ [(r : Int)]) = pad (padAll noPad done) (r : Int)) := padAll_snoc _ _ _
      have HEA : Hid (entAll noPad (done ++ [(r : Int)]) = entAll noPad done ++ ents (padAll noPad done) (r : Int)) := entAll_snoc _ _ _
      have HLE : Hid ((entAll noPad done).length + (ents (padAll noPad done) (r : Int)).length ≤ 1000000) := by
        have h1 := entAll_le noPad done
        have h2 := ents_le (padAll noPad done) (r : Int)
        have h3 := HS.out
        show _ ≤ _
        omega
      clear hb hbig hR hP hI hL
      generalize hwn : wr.iterAt (w.heap.size + 1 + 1) S (k + n) = wn at *
      clear hwn
      unfold PressPost Pad.v at HP2
      generalize padAll noPad done = p at *
      generalize entAll noPad done = es at *
      generalize pad p (r : Int) = q at *
      generalize ents p (r : Int) = ex at *
      obtain ⟨d, b⟩ := p
      obtain ⟨d', b'⟩ := q
      have p0 := hP1.cell 0
      have p1 := hP1.cell 1
      have HB1 : Hid (Below w.heap.size w wn) := hb1
      have HI1 : Hid (It wn (w.heap.size + 1 + 1) S (k + n)) := hI1
      have HR1 : Hid (Blk wn w.heap.size #[.string ⟨#[]⟩, .bool false] 23) := hR1
      have HP1 : Hid (Blk wn (w.heap.size + 1) #[.string d, .bool b] 23) := hP1
      have HL1 : Hid (Lies wn (w.heap.size + 3) u5 es) := hL1
      have HZ1 : Hid (w.heap.size + 3 ≤ wn.heap.size) := hz1
      have HLN : Hid (done.length ≤ k) := hlen
      clear hb1 hI1 hR1 hP1 hL1 hz1 hlen
      go_wp2_with fail
      refine (HP2.out _ (HT.out _ HB1.out)).mono ?_
      rintro e w2 ⟨v2, rfl, hL2, hb2⟩
      have hz := HZ1.out
      have hz2 := hb2.size
      have hP2 := HP1.out.next hb2
      have t0 := hP2.cell 0
      have t1 := hP2.cell 1
      have c0 := hP2.free 0
      have c1 := hP2.free 1
      have HB2 : Hid (Below w.heap.size w (setP w2 (w.heap.size + 1) d' b')) := bel_setP (bel_step HB1.out hb2) _ _ _ (Nat.le_succ _)
      have HR2 : Hid (Blk (setP w2 (w.heap.size + 1) d' b') w.heap.size #[.string ⟨#[]⟩, .bool false] 23) := Blk.offP (HR1.out.next hb2) (by omega) _ _
      have HPB : Hid (Blk (setP w2 (w.heap.size + 1) d' b') (w.heap.size + 1) #[.string d', .bool b'] 23) := Blk.putP hP2 _ _
      have HI2 : Hid (It (setP w2 (w.heap.size + 1) d' b') (w.heap.size + 1 + 1) S (k + n)) := ((HI1.out.next hb2).set _ _ (by omega)).set _ _ (by omega)
      have HLV : Hid (Lies (setP w2 (w.heap.size + 1) d' b') (w.heap.size + 3) u5 es) := (HL1.out.next hb2).off (by omega) _ _
      have HLU : Hid (Lies (setP w2 (w.heap.size + 1) d' b') wn.heap.size v2 ex) := hL2.off (by omega) _ _
      have HZ2 : Hid (w.heap.size + 3 ≤ (setP w2 (w.heap.size + 1) d' b').heap.size) := by show _ ≤ _; simp [setP, World.setCell]; omega
      clear hz hz2 hP2 hL2 hb2 HB1 HI1 HR1 HP1 HL1 HZ1 HP2 p0 p1
      unfold setP at HB2 HR2 HPB HI2 HLV HLU HZ2
      go_wp2_with (first
        | (at_builtin; refine wp_app rfl _ _ rfl (w.heap.size + 3) wn.heap.size _ _ es ex rfl rfl HLV.out HLU.out HLE.out HZ2.out ?_)
        | go_in)
      intro v' w4 hL4 hg4
      have HK : Hid (Kst w w4 S (k + n) v' (done ++ [(r : Int)])) := by
        refine ⟨grown_bel HLV.out hg4 HB2.out (by omega) (by have := HZ2.out; omega), Nat.le_trans HZ2.out hg4.size, grown_blk HLV.out hg4 HR2.out (by omega), ?_, grown_it HLV.out hg4 HI2.out (by omega), ?_, HRU.out, by
          rw [List.length_append]; have := HLN.out; have := HN1.out; simp only [List.length_cons, List.length_nil]; omega⟩
        · rw [HPA.out]; exact grown_blk HLV.out hg4 HPB.out (by omega)
        · rw [HEA.out]; exact hL4
      clear hL4 hg4 HLV HLU HB2 HR2 HPB HI2 HZ2 t0 t1 c0 c1 HPA HEA HLE HRU
      go_wp2_with fail
      go_roundw
      case rel => exact ⟨k + n, _, HN1.out.2, HK.out⟩
      case measure =>
        rw [HP0.out, HK.out.it.pos]
        have := HN1.out; omega
    · have hnx : ∀ ty, (Instr.next (.pointer (some ⟨w.heap.size + 1 + 1, 0, none⟩)) true ty).run Tryd.prog wr = _ := fun ty => Lib.run_next_end_at wr (w.heap.size + 1 + 1) S k ty hl.it hp
      have hr : runes S.data.toList = done := by rw [hl.run, runes_end S k (by omega), List.append_nil]
      have HF : Hid (∀ v w', Lies w' w.heap.size v (entAll noPad done) → Below w.heap.size w w' → KeysPost w S (.returned (.tuple #[v, .agg #[.string (padAll noPad done).d, .bool (padAll noPad done).b], .int .i64 0])) w') := fun v w' a b => by
        unfold KeysPost; rw [hr]; exact ⟨v, rfl, a, b⟩
      clear hr
      obtain ⟨hb, _, hR, hP, _, hL, _, _⟩ := hl
      have HL : Hid (Lies wr (w.heap.size + 3) u5 (entAll noPad done)) := hL
      generalize entAll noPad done = es at *
      generalize padAll noPad done = p at *
      obtain ⟨d, b⟩ := p
      have r0 := hR.cell 0
      have r1 := hR.cell 1
      have g0 := hR.free 0
      have g1 := hR.free 1
      have p0 := hP.cell 0
      have p1 := hP.cell 1
      have HB : Hid (Below w.heap.size w (setP wr w.heap.size d b).drew) := bel_drew1 (bel_setP hb _ _ _ (Nat.le_refl _))
      have HR : Hid (Blk (setP wr w.heap.size d b).drew w.heap.size #[.string d, .bool b] 23) := Blk.drew1 (Blk.putP hR _ _)
      have HL2 : Hid (Lies (setP wr w.heap.size d b).drew w.heap.size u5 es) := ((hL.off (by omega) d b).mono (by omega)).drew
      have R0 : Hid (_ = _) := HR.out.cell 0
      have R1 : Hid (_ = _) := HR.out.cell 1
      unfold setP at *
      clear hb hR hP hL HL HR HS HT hk hp HP0 h1
      go_wp2_with fail
      go_region
      go_wp2_with fail
      exact bodyPost_ret (v := .tuple #[u5, .agg #[.string d, .bool b], .int .i64 0]) (by simp [results, Tryd.results12, R0.out, R1.out, go_sem]) rfl (HF.out _ _ HL2.out HB.out)

end Go.Proofs.YtkobdkkgkpgcbaaDoor.keypad
