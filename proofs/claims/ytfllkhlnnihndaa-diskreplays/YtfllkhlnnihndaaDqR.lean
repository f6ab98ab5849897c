/- disk.Replay: what it does. -/
import Derived.Test.YtfllkhlnnihndaaDqB
import Derived.Test.YtfllkhlnnihndaaDqE
import Derived.Test.YtfllkhlnnihndaaKkR
namespace Go.Proofs.Ytfllkhlnnihndaa.disk
open Go.RowKit Go.Proofs.Ytfllkhlnnihndaa.cell
set_option maxRecDepth 100000
set_option linter.unusedVariables false
set_option linter.unusedSimpArgs false

/-- What has been told by now lies in the box. -/
def JR (w : World) (c : List Int) (k : Nat) (W : World) : Prop := ∃ V sl, Box w w.heap.size V sl (itD c k).1 W
set_option maxHeartbeats 4000000 in
theorem kreplay : KReplay := by
  intro w a n cap c h hnil hcap hby hw
  have H0 : JR w c 0 (w.alloc (.cells #[.slice none 0 0] 24)) := ⟨.slice none 0 0, [], Blk.new _ _ _, Lr.zero _ _ _, Recs.nil _ _, (fun i hi => by cases hi), (Below.refl _ _).alloc (Nat.le_refl _) _⟩
  have HE : Hid (Calls Try.prog 23 #[.slice a n cap, .func (.func 24) #[] #[.pointer (some ⟨w.heap.size, 0, none⟩)]] (w.alloc (.cells #[.slice none 0 0] 24)) fun e w' => EPost (JR w c) c e w') := by
    refine each_any 24 #[.pointer (some ⟨w.heap.size, 0, none⟩)] (JR w c) a n cap c _ (fun k W hj => ?_) H0 hcap hw (fun _ _ => by kernel_rfl) ?_
    · obtain ⟨V, sl, hb⟩ := hj
      exact h.below hb.bel
    · intro k p m b o W hj hp hit hr h1 h2 h3
      obtain ⟨V, sl, hb⟩ := hj
      have hs : sl.length ≤ 1000000 := by have := hb.recs.1; have := it_count c k; omega
      refine (put_record w w.heap.size V sl _ (recAt c p) b o m W hb hr h1 h2 hs).mono ?_
      rintro e w' ⟨rfl, V', sl', hb'⟩
      refine ⟨rfl, V', sl', ?_⟩
      rw [hit]
      exact hb'
  clear H0 h hnil hcap hby hw
  go_enter Try.func10, Try.ntmps10
  go_wp2_with fail
  refine HE.out.mono ?_
  rintro e w1 ⟨x, f, k, rfl, ⟨V, sl, hb⟩, hi⟩
  have HB : Hid (Box w w.heap.size V sl (itD c k).1 w1) := hb
  have HI : Hid ((¬ May c ∧ x = 0 ∧ f = 1) ∨ (May c ∧ lenAt c (repD c).2 < 0 ∧ x = 0 ∧ f = 3) ∨ (May c ∧ lenAt c (repD c).2 = 0 ∧ repD c = itD c k ∧ x = ((repD c).2 : Int) ∧ f = 0)) := hi
  clear hb hi HE
  by_cases hf : f = 0
  · have HR : Hid (RepIs c (itD c k).1 x 0) := by
      rcases HI.out with ⟨_, _, e⟩ | ⟨_, _, _, e⟩ | ⟨q1, q2, q3, q4, _⟩
      · rw [hf] at e; exact absurd e (by decide)
      · rw [hf] at e; exact absurd e (by decide)
      · exact .inr (.inr ⟨q1, q2, by rw [q3], q4, rfl⟩)
    have q0 : w1.cell? ⟨w.heap.size, 0, none⟩ = some V := HB.out.blk.cell 0
    obtain ⟨va, vc, hV, hrd⟩ := HB.out.reads
    have HRD : Hid (ReadsF w1 w.heap.size va (itD c k).1.length (itD c k).1) := hrd
    have HBL : Hid (Below w.heap.size w w1) := HB.out.bel
    subst hf
    subst hV
    clear hrd HB HI
    generalize (itD c k).1 = zs at *
    have HFW : Hid (zs.length ≤ 100000) := Nat.le_trans (rep_few HR.out).1 (by decide)
    generalize hzl : zs.length = zl at *
    clear hzl
    go_wp2_with fail
    go_ret3
    exact ⟨va, _, vc, zs, x, 0, rfl, HRD.out, HFW.out, HR.out, HBL.out⟩
  · have HR : Hid (RepIs c [] 0 f) := by
      rcases HI.out with ⟨q1, _, e⟩ | ⟨q1, q2, _, e⟩ | ⟨_, _, _, _, e⟩
      · exact .inl ⟨q1, rfl, rfl, e⟩
      · exact .inr (.inl ⟨q1, q2, rfl, rfl, e⟩)
      · exact absurd e hf
    have HBL : Hid (Below w.heap.size w w1) := HB.out.bel
    have hne : (f != 0) = true := by simpa using hf
    clear HB HI hf
    go_wp2_with fail
    go_ret3
    exact ⟨none, 0, 0, [], 0, f, rfl, ⟨rfl, .inl rfl⟩, Nat.zero_le _, HR.out, HBL.out⟩

end Go.Proofs.Ytfllkhlnnihndaa.disk
