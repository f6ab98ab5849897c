/- What words.Read makes of digits. -/
import Derived.Test.YtkhiipohdiibeaaWRead
namespace Go.Proofs.Ytkhiipohdiibeaa.words
open Go.RowKit

def ReadPost (w : World) (n : Int) (e : Ending) (w' : World) : Prop :=
  ((n < top ∧ e = .returned (.tuple #[wv (ofVal n), .int .i64 0])) ∨ (top ≤ n ∧ e = .returned (.tuple #[wv ⟨0, 0, 0⟩, .int .i64 2]))) ∧ Below w.heap.size w w'

/-- What holds of the world while digits are read: at digit k the number is X. -/
structure Rd (w wr : World) (s : ByteArray) (V I : Nat) (k : Nat) (X : W3) : Prop where
  below : Below w.heap.size w wr
  res : Trio wr w.heap.size (.int .u32 0) (.int .u32 0) (.int .u32 0)
  var : Wat wr V X
  it : wr.heap[I]? = some (.stringIter s k)

theorem it_below {w w' : World} {I : Nat} {o : Obj} (h : w.heap[I]? = some o) (hb : Below w.heap.size w w') : w'.heap[I]? = some o := by
  have hlt : I < w.heap.size := by
    by_cases hh : I < w.heap.size
    · exact hh
    · rw [Array.getElem?_eq_none (by omega)] at h; cases h
  rw [hb.block I hlt]; exact h
theorem it_alloc {w : World} {I : Nat} {o : Obj} (h : w.heap[I]? = some o) (p : Obj) : (w.alloc p).heap[I]? = some o := by
  have hlt : I < w.heap.size := by
    by_cases hh : I < w.heap.size
    · exact hh
    · rw [Array.getElem?_eq_none (by omega)] at h; cases h
  show (w.heap.push p)[I]? = _
  rw [Array.getElem?_push, if_neg (by omega)]; exact h
theorem it_set {w : World} {I G : Nat} {o : Obj} (h : w.heap[I]? = some o) (i : Nat) (u : Value) (hne : G ≠ I) : (w.setCell ⟨G, i, none⟩ u).heap[I]? = some o := by
  simp only [World.setCell, Array.getElem?_modify]; rw [if_neg hne]; exact h

theorem iterPos_of {w : World} {I p : Nat} {s : ByteArray} (h : w.heap[I]? = some (.stringIter s p)) : w.iterPos I = p := by simp [World.iterPos, h]

set_option maxRecDepth 100000 in
set_option maxHeartbeats 2000000 in
theorem read_good (s : ByteArray) (w : World) (h : s.size ≤ 40) (hf : whole s.data.toList = true) :
    Calls Try.prog 10 #[.string s] w fun e w' => ReadPost w (dval s.data.toList) e w' := by
  have h1 : ¬ (40 : Int) < (s.size : Int) := by omega
  have HD : Hid (allD s.data.toList = true) := whole_D hf
  have T := trio_new w (.int .u32 0) (.int .u32 0) (.int .u32 0)
  have HT : Hid (Trio (w.alloc (.cells #[.int .u32 0, .int .u32 0, .int .u32 0] 24)) w.heap.size (.int .u32 0) (.int .u32 0) (.int .u32 0)) := T
  have HB : Hid (Below w.heap.size w (w.alloc (.cells #[.int .u32 0, .int .u32 0, .int .u32 0] 24))) := (Below.refl _ w).alloc (Nat.le_refl _) _
  clear T
  go_enter Try.func10, Try.ntmps10
  go_wp2_with fail
  refine (inForm_any s _).mono ?_
  rintro e w1 ⟨rfl, hb1⟩
  rw [hf]
  have T1 := HT.out.below hb1
  have B1 := HB.out.trans (hb1.mono HB.out.size)
  have n1 := T1.lt
  have HR1 : Hid (Rd w ((w1.alloc (.cells #[.int .u32 0, .int .u32 0, .int .u32 0] 24)).iter s 0) s w1.heap.size (w1.heap.size + 1) 0 ⟨0, 0, 0⟩) := by
    refine ⟨(B1.alloc B1.size _).alloc (by have := B1.size; simp; omega) _, (T1.alloc _).alloc _, (trio_new _ _ _ _).alloc _, ?_⟩
    have := World.iter_heap (w1.alloc (.cells #[.int .u32 0, .int .u32 0, .int .u32 0] 24)) s 0
    simpa using this
  clear T1 B1 hb1 hf HT HB
  generalize hV : w1.heap.size = V at *
  have HV : Hid (w1.heap.size = V) := hV
  clear hV
  go_wp2_with fail
  rw [HV.out]
  go_loopw [] (fun wr => ∃ (k : Nat) (X : W3), k ≤ s.size ∧ X.ok ∧ X.val = dval (s.data.toList.take k) ∧ Rd w wr s V (V + 1) k X) (fun wr => s.size - wr.iterPos (V + 1))
  case atStart => exact ⟨0, ⟨0, 0, 0⟩, Nat.zero_le _, by unfold W3.ok; simp only; omega, rfl, HR1.out⟩
  case round =>
    obtain ⟨k, X, hk, hX, hXv, hrd⟩ := hrel
    have nV := hrd.var.lt
    have HP0 : Hid (wr.iterPos (V + 1) = k) := iterPos_of hrd.it
    by_cases hp : k < s.size
    · obtain ⟨hk1, hk2, hk3⟩ := take_parts s k hp HD.out
      have hcb := isD_bd hk2
      have ha : (s[k]'hp).toNat < 128 := by omega
      have hnx : ∀ ty, (Instr.next (.pointer (some ⟨V + 1, 0, none⟩)) true ty).run Try.prog wr = _ := fun ty => Lib.run_next_ascii_at wr (V + 1) s k ty hrd.it hp ha
      have HTK : Hid (dval (s.data.toList.take (k + 1)) = dval (s.data.toList.take k) * 10 + (((s[k].toNat : Nat) : Int) - 48)) := (by rw [take_snoc s k hp, dval_snoc] : dval (s.data.toList.take (k + 1)) = dval (s.data.toList.take k) * 10 + (((s[k].toNat : Nat) : Int) - 48))
      have HGE : Hid (dval (s.data.toList.take (k + 1)) ≤ dval s.data.toList) := by
        have hD1 : allD (s.data.toList.take (k + 1)) = true := by rw [take_snoc s k hp, allD_append, hk1]; simp [allD, hk2]
        have := (dval_more (s.data.toList.take (k + 1)) (s.data.toList.drop (k + 1)) hk3 (dval_nonneg _ hD1)).1
        rwa [List.take_append_drop] at this
      have TR := hrd.res.iter (I := V + 1) (s := s) (k := k + 1) (by omega)
      have TX := hrd.var.iter (I := V + 1) (s := s) (k := k + 1) (by omega)
      have BN := Lib.below_iterAt hrd.below (k := V + 1) (by omega) s (k + 1)
      have IT := Lib.iterAt_heap wr (V + 1) s k (k + 1) hrd.it
      obtain ⟨st1, st2⟩ := read_step hX (d := ((s[k].toNat : Nat) : Int) - 48) (by omega) (by omega)
      have HS1 : Hid (timesO X 10 = 0 → plusO (timesW X 10) (((s[k].toNat : Nat) : Int) - 48) = 0 → (plusW (timesW X 10) (((s[k].toNat : Nat) : Int) - 48)).val = X.val * 10 + (((s[k].toNat : Nat) : Int) - 48)) := st1
      have HS2 : Hid (timesO X 10 ≠ 0 ∨ plusO (timesW X 10) (((s[k].toNat : Nat) : Int) - 48) ≠ 0 → top ≤ X.val * 10 + (((s[k].toNat : Nat) : Int) - 48)) := st2
      have HXV : Hid (X.val = dval (s.data.toList.take k)) := hXv
      clear hk1 hk2 hk3 ha hrd st1 st2 hXv
      generalize hwn : wr.iterAt (V + 1) s (k + 1) = wn at *
      have nN : V < wn.heap.size := by rw [← hwn, Lib.iterAt_size]; exact nV
      clear hwn
      have c0 := TX.c0
      have c1 := TX.c1
      have c2 := TX.c2
      have HTR : Hid (Trio wn w.heap.size (.int .u32 0) (.int .u32 0) (.int .u32 0)) := TR
      have HTX : Hid (Wat wn V X) := TX
      have HBN : Hid (Below w.heap.size w wn) := BN
      have HIT : Hid (wn.heap[V + 1]? = some (.stringIter s (k + 1))) := IT
      clear TR TX BN IT
      generalize s[k] = c at *
      generalize hcc : ((c.toNat : Nat) : Int) = z at *
      clear hcc
      obtain ⟨z1, z2⟩ := hcb
      go_wp2_with fail
      refine (times_any X 10 _ hX (by omega) (by omega)).mono ?_
      rintro e w2 ⟨rfl, hb2⟩
      have TR := HTR.out.below hb2
      have TX := HTX.out.below hb2
      have BN := HBN.out.trans (hb2.mono HBN.out.size)
      have IT := it_below HIT.out hb2
      have hT : (timesW X 10).ok := carry3_ok _ _ _
      clear hb2 HTR HTX HBN HIT c0 c1 c2 hnx
      generalize timesW X 10 = Y at *
      generalize timesO X 10 = hi at *
      have HTR : Hid (Trio (w2.alloc (.cells #[.int .u32 Y.a, .int .u32 Y.b, .int .u32 Y.c] 24)) w.heap.size (.int .u32 0) (.int .u32 0) (.int .u32 0)) := TR.alloc _
      have HTX : Hid (Wat (w2.alloc (.cells #[.int .u32 Y.a, .int .u32 Y.b, .int .u32 Y.c] 24)) V X) := TX.alloc _
      have HBN : Hid (Below w.heap.size w (w2.alloc (.cells #[.int .u32 Y.a, .int .u32 Y.b, .int .u32 Y.c] 24))) := BN.alloc BN.size _
      have HIT : Hid ((w2.alloc (.cells #[.int .u32 Y.a, .int .u32 Y.b, .int .u32 Y.c] 24)).heap[V + 1]? = some (.stringIter s (k + 1))) := it_alloc IT _
      have n2 := TX.lt
      clear TR TX BN IT
      have d0 : 0 ≤ z - 48 := by omega
      have d1 : z - 48 ≤ 9 := by omega
      generalize hdd : z - 48 = dd at *
      go_wp2_with fail
      refine (plus_any Y dd _ hT d0 (by omega)).mono ?_
      rintro e w3 ⟨rfl, hb3⟩
      have TR := (HTR.out.below hb3).alloc
      have TX := (HTX.out.below hb3).alloc
      have BN := HBN.out.trans (hb3.mono HBN.out.size)
      have IT := it_below HIT.out hb3
      have hZ : (plusW Y dd).ok := carry3_ok _ _ _
      have n3 := (HTX.out.below hb3).lt
      have HT3 : Hid (Wat w3 V X) := HTX.out.below hb3
      have HR3 : Hid (Trio w3 w.heap.size (.int .u32 0) (.int .u32 0) (.int .u32 0)) := HTR.out.below hb3
      have HB3 : Hid (Below w.heap.size w w3) := HBN.out.trans (hb3.mono HBN.out.size)
      have HI3 : Hid (w3.heap[V + 1]? = some (.stringIter s (k + 1))) := it_below HIT.out hb3
      have n3' := hb3.size
      clear hb3 HTR HTX HBN HIT
      generalize plusW Y dd = Z at *
      generalize plusO Y dd = ov at *
      have TR := TR (.cells #[.int .u32 Z.a, .int .u32 Z.b, .int .u32 Z.c] 24)
      have TX := TX (.cells #[.int .u32 Z.a, .int .u32 Z.b, .int .u32 Z.c] 24)
      have BN := BN.alloc BN.size (.cells #[.int .u32 Z.a, .int .u32 Z.b, .int .u32 Z.c] 24)
      have IT := it_alloc IT (.cells #[.int .u32 Z.a, .int .u32 Z.b, .int .u32 Z.c] 24)
      have HTR : Hid (Trio (w3.alloc (.cells #[.int .u32 Z.a, .int .u32 Z.b, .int .u32 Z.c] 24)) w.heap.size (.int .u32 0) (.int .u32 0) (.int .u32 0)) := TR
      have HTX : Hid (Wat (w3.alloc (.cells #[.int .u32 Z.a, .int .u32 Z.b, .int .u32 Z.c] 24)) V X) := TX
      have HBN : Hid (Below w.heap.size w (w3.alloc (.cells #[.int .u32 Z.a, .int .u32 Z.b, .int .u32 Z.c] 24))) := BN
      have HIT : Hid ((w3.alloc (.cells #[.int .u32 Z.a, .int .u32 Z.b, .int .u32 Z.c] 24)).heap[V + 1]? = some (.stringIter s (k + 1))) := IT
      by_cases hbad : hi ≠ 0 ∨ ov ≠ 0
      · have HTOP : Hid (top ≤ dval s.data.toList) := by
          have h1 := HS2.out hbad
          have h2 := HGE.out
          rw [HTK.out, ← HXV.out] at h2
          exact Int.le_trans h1 h2
        have r0 := TR.c0
        have r1 := TR.c1
        have r2 := TR.c2
        have g0 := TR.free 0
        have g1 := TR.free 1
        have g2 := TR.free 2
        clear TR TX BN IT HS1 HS2 HTK HGE HXV
        have fin : ∀ Q : Prop, Q → Q := fun _ h => h
        by_cases hh : hi = 0
        · have e1 : (hi != 0) = false := by simp [hh]
          have e2 : (ov != 0) = true := by simpa using (by omega : ov ≠ 0)
          clear hbad hh fin
          go_wp2_with fail
          have RR := HTR.out.put (.int .u32 0) (.int .u32 0) (.int .u32 0)
          refine bodyPost_ret (v := .tuple #[.agg #[.int .u32 0, .int .u32 0, .int .u32 0], .int .i64 2]) (by simp [results, Try.results10, RR.c0, RR.c1, RR.c2, go_sem]) rfl ⟨.inr ⟨HTOP.out, rfl⟩, below_put3 HBN.out _ _ _ _ (Nat.le_refl _)⟩
        · have e1 : (hi != 0) = true := by simpa using hh
          clear hbad hh fin
          go_wp2_with fail
          have RR := HTR.out.put (.int .u32 0) (.int .u32 0) (.int .u32 0)
          refine bodyPost_ret (v := .tuple #[.agg #[.int .u32 0, .int .u32 0, .int .u32 0], .int .i64 2]) (by simp [results, Try.results10, RR.c0, RR.c1, RR.c2, go_sem]) rfl ⟨.inr ⟨HTOP.out, rfl⟩, below_put3 HBN.out _ _ _ _ (Nat.le_refl _)⟩
      · have hh : hi = 0 := by omega
        have ho : ov = 0 := by omega
        have HZV : Hid (Z.val = dval (s.data.toList.take (k + 1))) := by
          have h1 := HS1.out hh ho
          have h2 := HTK.out
          rw [← HXV.out] at h2
          exact h1.trans h2.symm
        have e1 : (hi != 0) = false := by simp [hh]
        have e2 : (ov != 0) = false := by simp [ho]
        have x0 := TX.c0
        have x1 := TX.c1
        have x2 := TX.c2
        have g0 := TX.free 0
        have g1 := TX.free 1
        have g2 := TX.free 2
        have x0' := HT3.out.c0
        have x1' := HT3.out.c1
        have x2' := HT3.out.c2
        have g0' := HT3.out.free 0
        have g1' := HT3.out.free 1
        have g2' := HT3.out.free 2
        have HRD : Hid (Rd w ((put3 w3 V (.int .u32 Z.a) (.int .u32 Z.b) (.int .u32 Z.c)).alloc (.cells #[.int .u32 Z.a, .int .u32 Z.b, .int .u32 Z.c] 24)) s V (V + 1) (k + 1) Z) := by
          have b3 := below_put3 HB3.out V (.int .u32 Z.a) (.int .u32 Z.b) (.int .u32 Z.c) (by omega)
          exact ⟨b3.alloc b3.size _, (HR3.out.putOther (by omega) _ _ _).alloc _, (HT3.out.put _ _ _).alloc _, it_alloc (it_set (it_set (it_set HI3.out 0 _ (by omega)) 1 _ (by omega)) 2 _ (by omega)) _⟩
        clear TR TX BN IT HS1 HS2 HTK HGE HXV hbad
        go_wp2_with fail
        go_roundw
        case rel => exact ⟨k + 1, Z, by omega, hZ, HZV.out, HRD.out⟩
        case measure =>
          rw [HP0.out, iterPos_of HRD.out.it]
          omega
    · have hnx : ∀ ty, (Instr.next (.pointer (some ⟨V + 1, 0, none⟩)) true ty).run Try.prog wr = _ := fun ty => Lib.run_next_end_at wr (V + 1) s k ty hrd.it hp
      have hfin : X.val = dval s.data.toList := by rw [hXv, List.take_of_length_le (by simp; omega)]
      have HF : Hid (X.val = dval s.data.toList) := hfin
      have hXb := (W3.bd hX).2
      have HXB : Hid (X.val < top) := hXb
      have c0 := hrd.var.c0
      have c1 := hrd.var.c1
      have c2 := hrd.var.c2
      have r0 := hrd.res.c0
      have r1 := hrd.res.c1
      have r2 := hrd.res.c2
      have g0 := hrd.res.free 0
      have g1 := hrd.res.free 1
      have g2 := hrd.res.free 2
      have HRD : Hid (Rd w wr s V (V + 1) k X) := hrd
      clear hrd hfin hXv hXb
      go_wp2_with fail
      have RR := HRD.out.res.put (.int .u32 X.a) (.int .u32 X.b) (.int .u32 X.c)
      have EX : ofVal (dval s.data.toList) = X := by
        rw [← HF.out]
        exact W3.inj (ofVal_ok _) hX (ofVal_val (W3.bd hX).1 (W3.bd hX).2)
      refine bodyPost_ret (v := .tuple #[.agg #[.int .u32 X.a, .int .u32 X.b, .int .u32 X.c], .int .i64 0]) (by simp [results, Try.results10, RR.c0, RR.c1, RR.c2, go_sem]) rfl ⟨.inl ⟨by rw [← HF.out]; exact HXB.out, by rw [EX]⟩, below_put3 HRD.out.below _ _ _ _ (Nat.le_refl _)⟩

end Go.Proofs.Ytkhiipohdiibeaa.words
