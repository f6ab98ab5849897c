/- The document's answer: a text is keyed. -/
import Derived.Test.YtkobdkkgkpgcbaaDoorKpDec
import Derived.Test.YtkobdkkgkpgcbaaDoorKpSame
import Derived.Lib.LaidU8T
namespace Go.Proofs.YtkobdkkgkpgcbaaDoor.keypad
open Go.Proofs.YtkobdkkgkpgcbaaDoor.check
open Go.RowKit
set_option linter.unusedSimpArgs false
set_option maxRecDepth 100000

/-- All three tables, in memory. -/
structure KTab (w : World) : Prop where
  n : NTab w
  u : Lib.Utf8Tabs 1 2 w
theorem utab_below {g h : Nat} {w w' : World} (H : Lib.Utf8Tabs g h w) (hb : Below w.heap.size w w') : Lib.Utf8Tabs g h w' :=
  ⟨fun c hc => by rw [hb.cell (World.block_lt_of_cell? w _ (H.1 c hc))]; exact H.1 c hc,
   fun i hi => ⟨by rw [hb.cell (World.block_lt_of_cell? w _ (H.2 i hi).1)]; exact (H.2 i hi).1, by rw [hb.cell (World.block_lt_of_cell? w _ (H.2 i hi).2)]; exact (H.2 i hi).2⟩⟩
theorem KTab.below {w w' : World} (h : KTab w) (hb : Below w.heap.size w w') : KTab w' := ⟨h.n.below hb, utab_below h.u hb⟩

theorem dec_ext (s : ByteArray) (k : Nat) (h : k < s.size) : Lib.decodeGo (s.extract k s.size) = Utf8.decode s k := by
  have hl : (s.extract k s.size).data.toList = s.data.toList.drop k := by
    simp [ByteArray.data_extract]
    rw [List.take_of_length_le (by rw [List.length_drop, len_eq]; exact Nat.le_refl _)]
  unfold Lib.decodeGo
  rw [if_neg (by rw [ByteArray.size_extract]; omega), ← Lib.decodeL_drop (s.extract k s.size) 0, ← Lib.decodeL_drop s k, hl, List.drop_zero]

theorem runesF_len : ∀ (n : Nat) (l : List UInt8), (runesF n l).length ≤ n
  | 0, _ => Nat.le_refl _
  | n + 1, l => by
    unfold runesF
    split
    · exact Nat.zero_le _
    · rw [List.length_cons]; have := runesF_len n (l.drop (Lib.decodeL l).2); omega
theorem runes_len (l : List UInt8) : (runes l).length ≤ l.length := runesF_len _ _

theorem grown_new {w w' : World} {base : Nat} {v : Value} {l : List Ent} {cs : Array Value} {t : TypeId} (h : Lies w base v l) (hg : (w.alloc (.cells cs t)).grownBy w' v.ownBlock) : Blk w' w.heap.size cs t := by
  have hb := Blk.new w cs t
  have hl := hb.lt
  unfold Blk at *
  rw [hg.block _ hl ?_]; exact hb
  intro e
  have := (World.ownsRow.lt h _ e.symm).2
  omega

/-- While a text is keyed: k bytes of it are, the characters done. -/
structure Tst (w wr : World) (S : ByteArray) (k : Nat) (V : Value) (done : List Int) : Prop where
  below : Below w.heap.size w wr
  big : w.heap.size + 2 ≤ wr.heap.size
  res : Blk wr w.heap.size #[.string ⟨#[]⟩, .bool false] 23
  pad : Blk wr (w.heap.size + 1) #[.string (padAll noPad done).d, .bool (padAll noPad done).b] 23
  lies : Lies wr (w.heap.size + 2) V (entAll noPad done)
  run : runes S.data.toList = done ++ runes (S.data.toList.drop k)
  len : done.length ≤ k

set_option maxHeartbeats 1000000 in
theorem typed_long (S : ByteArray) (w : World) (h : 2000 < S.size) : Calls Tryd.prog 13 #[.string S] w fun e w' => LongPost w e w' := by
  have h1 : (2000 : Int) < (S.size : Int) := by omega
  clear h
  go_enter Tryd.func13, Tryd.ntmps13
  go_wp2_with fail
  exact bodyPost_ret (v := .tuple #[.slice none 0 0, .agg #[.string ⟨#[]⟩, .bool false], .int .i64 1]) (by simp [results, Tryd.results13, go_sem]) rfl ⟨rfl, bel1 _ _⟩

set_option maxHeartbeats 2000000 in
theorem typed_any (S : ByteArray) (w : World) (h : S.size ≤ 2000) (ht : KTab w) : Calls Tryd.prog 13 #[.string S] w fun e w' => KeysPost w S e w' := by
  have h1 : ¬ (2000 : Int) < (S.size : Int) := by omega
  have h2 : (S.size : Int) ≤ 2000 := by omega
  have HS : Hid (S.size ≤ 2000) := h
  clear h
  have HK0 : Hid (Tst w ((w.alloc (.cells #[.string ⟨#[]⟩, .bool false] 23)).alloc (.cells #[.string ⟨#[]⟩, .bool false] 23)) S 0 (.slice none 0 0) []) :=
    ⟨bel2 _ _ _, by simp, (Blk.new _ _ _).alloc _, Blk.new1 _ _ _ _, Lies.zero _ _, rfl, Nat.zero_le _⟩
  have HT : Hid (∀ W, Below w.heap.size w W → KTab W) := fun W hW => ht.below hW
  clear ht
  go_enter Tryd.func13, Tryd.ntmps13
  go_wp2_with fail
  generalize ((w.alloc (.cells #[.string ⟨#[]⟩, .bool false] 23)).alloc (.cells #[.string ⟨#[]⟩, .bool false] 23)) = W0 at *
  go_loopw [5, 7] (fun V i wr => ∃ (k : Nat) (done : List Int), k ≤ S.size ∧ i = .int .i64 (k : Int) ∧ Tst w wr S k V done) (fun _ i _ => S.size - (intOf i).toNat)
  case atStart => exact ⟨0, [], Nat.zero_le _, rfl, HK0.out⟩
  case round =>
    obtain ⟨k, done, hk, rfl, hl⟩ := hrel
    clear HK0
    by_cases hp : k < S.size
    · have hmx := decode_max S k
      have hn1 := decode_pos S k
      have hn2 := decode_le S k hp
      have HRU : Hid (runes S.data.toList = (done ++ [((Utf8.decode S k).1 : Int)]) ++ runes (S.data.toList.drop (k + (Utf8.decode S k).2))) := by
        show _ = _
        rw [hl.run, runes_at S k hp, List.append_assoc]; rfl
      have HDE : Hid (∀ W, KTab W → Calls Tryd.prog 25 #[.string (S.extract k S.size)] W fun e w' => e = .returned (.tuple #[.int .i32 ((Utf8.decode S k).1 : Int), .int .i64 ((Utf8.decode S k).2 : Int)]) ∧ Below W.heap.size W w') := fun W hW => by
        have := Tryd.utf8_DecodeRuneInString (S.extract k S.size) W hW.u
        rwa [dec_ext S k hp] at this
      generalize (Utf8.decode S k).1 = r at *
      generalize (Utf8.decode S k).2 = n at *
      obtain ⟨hb, hbig, hR, hP, hL, _, hlen⟩ := hl
      have HP2 : Hid (∀ W, Calls Tryd.prog 10 #[(padAll noPad done).v, .int .i32 (r : Int)] W fun e w' => PressPost W (padAll noPad done) (r : Int) e w') := fun W => rpress_any _ _ W (padAll_ok noPad_ok done) (by omega) (by omega)
      have HPA : Hid (padAll noPad (done ++ [(r : Int)]) = pad (padAll noPad done) (r : Int)) := padAll_snoc _ _ _
      have HEA : Hid (entAll noPad (done ++ [(r : Int)]) = entAll noPad done ++ ents (padAll noPad done) (r : Int)) := entAll_snoc _ _ _
      have HLE : Hid ((entAll noPad done).length + (ents (padAll noPad done) (r : Int)).length ≤ 1000000) := by
        have h1 := entAll_le noPad done
        have h2 := ents_le (padAll noPad done) (r : Int)
        have h3 := HS.out
        show _ ≤ _
        omega
      unfold PressPost Pad.v at HP2
      generalize padAll noPad done = p at *
      generalize entAll noPad done = es at *
      generalize pad p (r : Int) = q at *
      generalize ents p (r : Int) = ex at *
      obtain ⟨d, b⟩ := p
      obtain ⟨d', b'⟩ := q
      have HB0 : Hid (Below w.heap.size w wr) := hb
      have HR0 : Hid (Blk wr w.heap.size #[.string ⟨#[]⟩, .bool false] 23) := hR
      have HP0 : Hid (Blk wr (w.heap.size + 1) #[.string d, .bool b] 23) := hP
      have HL0 : Hid (Lies wr (w.heap.size + 2) u5 es) := hL
      have HZ0 : Hid (w.heap.size + 2 ≤ wr.heap.size) := hbig
      have HLN : Hid (done.length ≤ k) := hlen
      clear hb hbig hR hP hL hlen hmx
      go_wp2_with fail
      refine (HDE.out _ (HT.out _ HB0.out)).mono ?_
      rintro e w1 ⟨rfl, hb1⟩
      have hz1 := hb1.size
      have HB1 : Hid (Below w.heap.size w w1) := bel_step HB0.out hb1
      have HR1 : Hid (Blk w1 w.heap.size #[.string ⟨#[]⟩, .bool false] 23) := HR0.out.next hb1
      have HP1 : Hid (Blk w1 (w.heap.size + 1) #[.string d, .bool b] 23) := HP0.out.next hb1
      have HL1 : Hid (Lies w1 (w.heap.size + 2) u5 es) := HL0.out.next hb1
      have HZ1 : Hid (w.heap.size + 2 ≤ w1.heap.size) := Nat.le_trans HZ0.out hz1
      have p0 := HP1.out.cell 0
      have p1 := HP1.out.cell 1
      clear hb1 hz1 HB0 HR0 HP0 HL0 HZ0 HDE
      go_wp2_with fail
      refine (HP2.out _).mono ?_
      rintro e w2 ⟨v2, rfl, hL2, hb2⟩
      have hz := HZ1.out
      have hz2 := hb2.size
      have HB2 : Hid (Below w.heap.size w (w2.alloc (.cells #[.string d', .bool b'] 23))) := (bel_step HB1.out hb2).alloc (bel_step HB1.out hb2).size _
      have HR2 : Hid (Blk (w2.alloc (.cells #[.string d', .bool b'] 23)) w.heap.size #[.string ⟨#[]⟩, .bool false] 23) := (HR1.out.next hb2).alloc _
      have HPB : Hid (Blk (w2.alloc (.cells #[.string d', .bool b'] 23)) (w.heap.size + 1) #[.string d, .bool b] 23) := (HP1.out.next hb2).alloc _
      have HLW : Hid (Lies w2 (w.heap.size + 2) u5 es) := HL1.out.next hb2
      have HLV : Hid (Lies (w2.alloc (.cells #[.string d', .bool b'] 23)) (w.heap.size + 2) u5 es) := HLW.out.alloc _
      have HLU : Hid (Lies (w2.alloc (.cells #[.string d', .bool b'] 23)) w1.heap.size v2 ex) := hL2.alloc _
      have HZ2 : Hid (w.heap.size + 2 ≤ (w2.alloc (.cells #[.string d', .bool b'] 23)).heap.size) := by show _ ≤ _; simp; omega
      clear hz hz2 hL2 hb2 HB1 HR1 HP1 HL1 HZ1 HP2 p0 p1
      go_wp2_with (first
        | (at_builtin; refine wp_app rfl _ _ rfl (w.heap.size + 2) w1.heap.size _ _ es ex rfl rfl HLV.out HLU.out HLE.out HZ2.out ?_)
        | go_in)
      intro v' w4 hL4 hg4
      have hQ4 : Blk w4 w2.heap.size #[.string d', .bool b'] 23 := grown_new HLW.out hg4
      have hP4 : Blk w4 (w.heap.size + 1) #[.string d, .bool b] 23 := grown_blk HLV.out hg4 HPB.out (by omega)
      have q0 := hQ4.cell 0
      have q1 := hQ4.cell 1
      have t0 := hP4.cell 0
      have t1 := hP4.cell 1
      have c0 := hP4.free 0
      have c1 := hP4.free 1
      have HK : Hid (Tst w (setP w4 (w.heap.size + 1) d' b') S (k + n) v' (done ++ [(r : Int)])) := by
        refine ⟨bel_setP (grown_bel HLV.out hg4 HB2.out (by omega) (by have := HZ2.out; omega)) _ _ _ (Nat.le_succ _), ?_, Blk.offP (grown_blk HLV.out hg4 HR2.out (by omega)) (by omega) _ _, ?_, ?_, HRU.out, by
          rw [List.length_append]; have := HLN.out; simp only [List.length_cons, List.length_nil]; omega⟩
        · have := Nat.le_trans HZ2.out hg4.size
          simp [setP, World.setCell]; omega
        · rw [HPA.out]; exact Blk.putP hP4 _ _
        · rw [HEA.out]; exact hL4.off (by omega) _ _
      clear hL4 hg4 hQ4 hP4 HLV HLW HLU HB2 HR2 HPB HZ2 HPA HEA HLE HRU
      unfold setP at HK
      go_wp2_with fail
      go_roundw
      case rel => exact ⟨k + n, _, hn2, by go_num, HK.out⟩
      case measure => simp [intOf]; omega
    · have hr : runes S.data.toList = done := by rw [hl.run, runes_end S k (by omega), List.append_nil]
      have HF : Hid (∀ v w', Lies w' w.heap.size v (entAll noPad done) → Below w.heap.size w w' → KeysPost w S (.returned (.tuple #[v, .agg #[.string (padAll noPad done).d, .bool (padAll noPad done).b], .int .i64 0])) w') := fun v w' a b => by
        unfold KeysPost; rw [hr]; exact ⟨v, rfl, a, b⟩
      clear hr
      obtain ⟨hb, _, hR, hP, hL, _, _⟩ := hl
      generalize entAll noPad done = es at *
      generalize padAll noPad done = p at *
      obtain ⟨d, b⟩ := p
      have r0 := hR.cell 0
      have r1 := hR.cell 1
      have g0 := hR.free 0
      have g1 := hR.free 1
      have p0 := hP.cell 0
      have p1 := hP.cell 1
      have HB : Hid (Below w.heap.size w (setP wr w.heap.size d b).drew) := bel_drew1 (bel_setP hb _ _ _ (Nat.le_refl _))
      have HR : Hid (Blk (setP wr w.heap.size d b).drew w.heap.size #[.string d, .bool b] 23) := Blk.drew1 (Blk.putP hR _ _)
      have HL2 : Hid (Lies (setP wr w.heap.size d b).drew w.heap.size u5 es) := ((hL.off (by omega) d b).mono (by omega)).drew
      have R0 : Hid (_ = _) := HR.out.cell 0
      have R1 : Hid (_ = _) := HR.out.cell 1
      unfold setP at *
      clear hb hR hP hL HR HS HT h1
      go_wp2_with fail
      go_region
      go_wp2_with fail
      exact bodyPost_ret (v := .tuple #[u5, .agg #[.string d, .bool b], .int .i64 0]) (by simp [results, Tryd.results13, R0.out, R1.out, go_sem]) rfl (HF.out _ _ HL2.out HB.out)

end Go.Proofs.YtkobdkkgkpgcbaaDoor.keypad
