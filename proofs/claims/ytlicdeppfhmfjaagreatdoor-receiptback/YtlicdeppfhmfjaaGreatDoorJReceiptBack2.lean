import Derived.Test.YtlicdeppfhmfjaaGreatDoorJReceiptBack1
import Derived.WalkKit
import Derived.Deep.DeepCutAuto
import Derived.Test.YtlicdeppfhmfjaaGreatDoorTkParse
import Derived.Test.YtlicdeppfhmfjaaGreatDoorBlk
import Derived.Test.YtlicdeppfhmfjaaGreatDoorProg
import Derived.Below
import Derived.Lib.Builder
import Derived.Lib.AppendStr
import Derived.Lib.UnsafeStr
import Derived.Laws.Externs
import Derived.Laws.IdiomCopy
import Derived.Shelf.Strings.OnBuilder
import Derived.Shelf.LaysM
import Derived.Shelf.LaysC
import Derived.Shelf.Strconv.Itoa3
import Derived.Shelf.Strings.Repeat
import Derived.Test.YtlicdeppfhmfjaaGreatDoorShowT
import Derived.Lib.AppendIntMem
import Derived.Test.YtlicdeppfhmfjaaGreatDoorTkUnpack
import Derived.Test.YtlicdeppfhmfjaaGreatDoorTkPack
import Derived.Test.YtlicdeppfhmfjaaGreatDoorTkBx
import Derived.Test.YtlicdeppfhmfjaaGreatDoorTkFlaw2
import Derived.Test.YtlicdeppfhmfjaaGreatDoorTkWn
import Derived.Test.YtlicdeppfhmfjaaGreatDoorOver
import Derived.Test.YtlicdeppfhmfjaaGreatDoorEq3
import Derived.Test.YtlicdeppfhmfjaaGreatDoorDec10
import Derived.Laws.BytesString
import Derived.Laws.Cells
import Derived.Lib.Strings
import Derived.Test.YtlicdeppfhmfjaaGreatDoorRows
import Derived.ProofKit
import Derived.OpenShut
import Derived.ChangeSame
import Derived.Deep.Strs
import Derived.Lib.SmallJoins
import Derived.LaidLaws
import Derived.FnData
import Derived.Shelf.Vars

/- The receipt that a text is of, if it is of any: guessed. -/
namespace Go.Proofs.YtlicdeppfhmfjaaGreatDoor.rcg
open Go.Proofs.YtlicdeppfhmfjaaGreatDoor.rcp (found gs atoiV MeterIs MeterPost pmeter_any atoiV_bounds readR_bd nMETER nNUMBER nTENDER nDEBT nFEE nPRICE nCHANGE nUNITS nTOKEN)
open Go.Proofs.YtlicdeppfhmfjaaGreatDoor.cents (readR)
open Go.RowKit
set_option maxRecDepth 100000
set_option linter.unusedVariables false
set_option linter.unusedSimpArgs false

theorem fld (T : ByteArray) (w : World) : (Instr.field 75 (.agg #[.string T]) 0).run Tryz.prog w = .ok (.string T) w := by kernel_rfl
theorem Fd.upd {w W : World} {g b c : Nat} {F : List UInt8 → List UInt8} {cs : Array Value} {ty : TypeId} (h : Fd w b c F) (hu : Upd w W g cs ty) (hne : b ≠ g) : Fd W b c F := by
  obtain ⟨D, ⟨es, k, h1, h2, h3, h4⟩, h5, h6⟩ := h
  exact ⟨D, ⟨es, k, (hu.oth b hne).trans h1, h2, h3, h4⟩, h5, h6⟩
set_option maxHeartbeats 1000000 in
theorem g1_any (gb b c : Nat) (F : List UInt8 → List UInt8) (nm : ByteArray) (w : World) (hx : Blk w gb #[.map (some b)] 72) (hF : Fd w b c F) (hn : nm.size ≤ 1000) (hl : (F nm.data.toList).length ≤ 400) :
    Calls Tryz.prog 41 #[.string nm, .pointer (some ⟨gb, 0, none⟩)] w fun e w' => e = .returned (.int .i64 ((readR (F nm.data.toList)).1)) ∧ Below w.heap.size w w' := by
  have hlk := hF.look nm hn
  have hfd := fld ⟨(F nm.data.toList).toArray⟩
  have c0 : w.cell? ⟨gb, 0, none⟩ = some (.map (some b)) := hx.cell 0
  have HC : Calls Tryz.prog 42 #[.string ⟨(F nm.data.toList).toArray⟩] w fun e w' => ∃ x, e = .returned (.tuple #[.int .i64 (readR (F nm.data.toList)).1, .int .i64 x]) ∧ Below w.heap.size w w' := by
    refine (cents.read_any ⟨(F nm.data.toList).toArray⟩ w).mono ?_
    rintro e w' ⟨rfl, hb⟩
    exact ⟨_, rfl, hb⟩
  clear hx hF hn hl
  generalize (⟨(F nm.data.toList).toArray⟩ : ByteArray) = T at *
  generalize (readR (F nm.data.toList)).1 = V at *
  go_enter Tryz.func41, Tryz.ntmps41
  go_wp2_with fail
  refine HC.mono ?_
  rintro e w1 ⟨x, rfl, hb⟩
  clear HC hlk c0
  go_wp2_with fail
  go_ret
  exact ⟨rfl, hb⟩
set_option maxHeartbeats 1000000 in
theorem g2_any (gb b c : Nat) (F : List UInt8 → List UInt8) (nm : ByteArray) (w : World) (hx : Blk w gb #[.map (some b)] 72) (hF : Fd w b c F) (hn : nm.size ≤ 1000) (hl : (F nm.data.toList).length ≤ 400) (he : Errs w) :
    Calls Tryz.prog 43 #[.string nm, .pointer (some ⟨gb, 0, none⟩)] w fun e w' => e = .returned (.int .i64 (atoiV (F nm.data.toList))) ∧ Below w.heap.size w w' := by
  have hlk := hF.look nm hn
  have hfd := fld ⟨(F nm.data.toList).toArray⟩
  have c0 : w.cell? ⟨gb, 0, none⟩ = some (.map (some b)) := hx.cell 0
  have HC : Calls Tryz.prog 44 #[.string ⟨(F nm.data.toList).toArray⟩] w fun e w' => ∃ x, e = .returned (.tuple #[.int .i64 (atoiV (F nm.data.toList)), x]) ∧ Below w.heap.size w w' :=
    atoi_any ⟨(F nm.data.toList).toArray⟩ w (by show (F nm.data.toList).length ≤ 1000; omega) he
  clear hx hF hn hl he
  generalize (⟨(F nm.data.toList).toArray⟩ : ByteArray) = T at *
  generalize atoiV (F nm.data.toList) = V at *
  go_enter Tryz.func43, Tryz.ntmps43
  go_wp2_with fail
  refine HC.mono ?_
  rintro e w1 ⟨x, rfl, hb⟩
  clear HC hlk c0
  go_wp2_with fail
  go_ret
  exact ⟨rfl, hb⟩
set_option maxHeartbeats 4000000 in
theorem guess_abs (s : ByteArray) (F : List UInt8 → List UInt8) (me : Int) (w : World) (TS RS MS : ByteArray) (v0 v1 v2 v3 v4 v5 v6 : Int)
    (hN : ∀ w', Below w.heap.size w w' → Calls Tryz.prog 40 #[.string s] w' fun e w'' => ∃ b c, e = .returned (.map (some b)) ∧ Fd w'' b c F ∧ w'.heap.size ≤ b ∧ Below w'.heap.size w' w'')
    (hT : TS = ⟨(F nTOKEN).toArray⟩) (hMS : MS = ⟨(F nMETER).toArray⟩)
    (hM : ∀ w', Below w.heap.size w w' → Calls Tryz.prog 45 #[.string MS] w' fun e w'' => ∃ x, e = .returned (.tuple #[.int .i64 me, .int .i64 x]) ∧ Below w'.heap.size w' w'')
    (h1 : ∀ (gb b c : Nat) (nm : ByteArray) (V : Int) w', Below w.heap.size w w' → Blk w' gb #[.map (some b)] 72 → Fd w' b c F → (nm, V) ∈ [((⟨#[84, 69, 78, 68, 69, 82]⟩ : ByteArray), v1), ((⟨#[68, 69, 66, 84]⟩ : ByteArray), v2), ((⟨#[70, 69, 69]⟩ : ByteArray), v3), ((⟨#[80, 82, 73, 67, 69]⟩ : ByteArray), v4), ((⟨#[67, 72, 65, 78, 71, 69]⟩ : ByteArray), v5)] → Calls Tryz.prog 41 #[.string nm, .pointer (some ⟨gb, 0, none⟩)] w' fun e w'' => e = .returned (.int .i64 V) ∧ Below w'.heap.size w' w'')
    (h2 : ∀ (gb b c : Nat) (nm : ByteArray) (V : Int) w', Below w.heap.size w w' → Blk w' gb #[.map (some b)] 72 → Fd w' b c F → (nm, V) ∈ [((⟨#[78, 85, 77, 66, 69, 82]⟩ : ByteArray), v0), ((⟨#[85, 78, 73, 84, 83]⟩ : ByteArray), v6)] → Calls Tryz.prog 43 #[.string nm, .pointer (some ⟨gb, 0, none⟩)] w' fun e w'' => e = .returned (.int .i64 V) ∧ Below w'.heap.size w' w'')
    (hR : ∀ w', Below w.heap.size w w' → Calls Tryz.prog 46 #[.string TS, .string ⟨#[32]⟩, .string ⟨#[]⟩] w' fun e w'' => e = .returned (.string RS) ∧ Below w'.heap.size w' w'') :
    Calls Tryz.prog 17 #[.string s] w fun e w' => e = .returned (.agg #[.int .i64 me, .int .i64 v0, .int .i64 v1, .int .i64 v2, .int .i64 v3, .int .i64 v4, .int .i64 v5, .int .i64 v6, .string RS]) ∧ Below w.heap.size w w' := by
  have HM : Hid (∀ w', Below w.heap.size w w' → Calls Tryz.prog 45 #[.string MS] w' fun e w'' => ∃ x, e = .returned (.tuple #[.int .i64 me, .int .i64 x]) ∧ Below w'.heap.size w' w'') := hM
  have H1 : Hid (∀ (gb b c : Nat) (nm : ByteArray) (V : Int) w', Below w.heap.size w w' → Blk w' gb #[.map (some b)] 72 → Fd w' b c F → (nm, V) ∈ [((⟨#[84, 69, 78, 68, 69, 82]⟩ : ByteArray), v1), ((⟨#[68, 69, 66, 84]⟩ : ByteArray), v2), ((⟨#[70, 69, 69]⟩ : ByteArray), v3), ((⟨#[80, 82, 73, 67, 69]⟩ : ByteArray), v4), ((⟨#[67, 72, 65, 78, 71, 69]⟩ : ByteArray), v5)] → Calls Tryz.prog 41 #[.string nm, .pointer (some ⟨gb, 0, none⟩)] w' fun e w'' => e = .returned (.int .i64 V) ∧ Below w'.heap.size w' w'') := h1
  have H2 : Hid (∀ (gb b c : Nat) (nm : ByteArray) (V : Int) w', Below w.heap.size w w' → Blk w' gb #[.map (some b)] 72 → Fd w' b c F → (nm, V) ∈ [((⟨#[78, 85, 77, 66, 69, 82]⟩ : ByteArray), v0), ((⟨#[85, 78, 73, 84, 83]⟩ : ByteArray), v6)] → Calls Tryz.prog 43 #[.string nm, .pointer (some ⟨gb, 0, none⟩)] w' fun e w'' => e = .returned (.int .i64 V) ∧ Below w'.heap.size w' w'') := h2
  have HR : Hid (∀ w', Below w.heap.size w w' → Calls Tryz.prog 46 #[.string TS, .string ⟨#[32]⟩, .string ⟨#[]⟩] w' fun e w'' => e = .returned (.string RS) ∧ Below w'.heap.size w' w'') := hR
  have HTE : Hid (TS = ⟨(F nTOKEN).toArray⟩) := hT
  have HME : Hid (MS = ⟨(F nMETER).toArray⟩) := hMS
  clear hM h1 h2 hR hT hMS
  have HZ0 : Hid (Blk (w.alloc (.cells #[.int .i64 0, .int .i64 0, .int .i64 0, .int .i64 0, .int .i64 0, .int .i64 0, .int .i64 0, .int .i64 0, .string ⟨#[]⟩] 25)) w.heap.size #[.int .i64 0, .int .i64 0, .int .i64 0, .int .i64 0, .int .i64 0, .int .i64 0, .int .i64 0, .int .i64 0, .string ⟨#[]⟩] 25) := Blk.new _ _ _
  have HB0 : Hid (Below w.heap.size w (w.alloc (.cells #[.int .i64 0, .int .i64 0, .int .i64 0, .int .i64 0, .int .i64 0, .int .i64 0, .int .i64 0, .int .i64 0, .string ⟨#[]⟩] 25))) := (Below.refl _ _).alloc (Nat.le_refl _) _
  have HN := hN _ HB0.out
  clear hN
  go_enter Tryz.func17, Tryz.ntmps17
  go_upto_region 1 with fail
  generalize w.alloc (.cells #[.int .i64 0, .int .i64 0, .int .i64 0, .int .i64 0, .int .i64 0, .int .i64 0, .int .i64 0, .int .i64 0, .string ⟨#[]⟩] 25) = W0 at *
  go_wp2_with fail
  refine HN.mono ?_
  rintro e W1 ⟨b, c, rfl, hf, hbge, hb⟩
  have HB1 : Hid (Below w.heap.size w W1) := bel_step HB0.out hb
  have HZ1 : Hid (Blk W1 w.heap.size #[.int .i64 0, .int .i64 0, .int .i64 0, .int .i64 0, .int .i64 0, .int .i64 0, .int .i64 0, .int .i64 0, .string ⟨#[]⟩] 25) := HZ0.out.next hb
  have HF1 : Hid (Fd W1 b c F) := hf
  have HNB : Hid (b ≠ w.heap.size) := by have := HZ0.out.lt; show _ ≠ _; omega
  have HNG : Hid (W1.heap.size ≠ w.heap.size) := by have := HZ1.out.lt; show _ ≠ _; omega
  clear HN hf hb HZ0 HB0 hbge
  have HX2 : Hid (Blk (W1.alloc (.cells #[.map (some b)] 72)) W1.heap.size #[.map (some b)] 72) := Blk.new _ _ _
  have HB2 : Hid (Below w.heap.size w (W1.alloc (.cells #[.map (some b)] 72))) := HB1.out.alloc HB1.out.size _
  have HZ2 : Hid (Blk (W1.alloc (.cells #[.map (some b)] 72)) w.heap.size #[.int .i64 0, .int .i64 0, .int .i64 0, .int .i64 0, .int .i64 0, .int .i64 0, .int .i64 0, .int .i64 0, .string ⟨#[]⟩] 25) := HZ1.out.alloc _
  have HF2 : Hid (Fd (W1.alloc (.cells #[.map (some b)] 72)) b c F) := HF1.out.next ((Below.refl _ _).alloc (Nat.le_refl _) _)
  clear HB1 HZ1 HF1
  go_upto_region 4 with fail
  generalize W1.alloc (.cells #[.map (some b)] 72) = W2 at *
  generalize W1.heap.size = gb at *
  have hlk : (Instr.lookup 72 (.map (some b)) (.string (⟨#[77, 69, 84, 69, 82]⟩ : ByteArray)) false).run Tryz.prog W2 = .ok (.agg #[.string MS]) W2 := by rw [HME.out]; exact HF2.out.look (⟨#[77, 69, 84, 69, 82]⟩ : ByteArray) (by decide)
  have c0 : W2.cell? ⟨gb, 0, none⟩ = some (.map (some b)) := HX2.out.cell 0
  have HMC := HM.out W2 HB2.out
  have hfd := fld MS
  go_wp2_with fail
  refine HMC.mono ?_
  rintro e W3 ⟨x, rfl, hb⟩
  have HB3 : Hid (Below w.heap.size w W3) := bel_step HB2.out hb
  have HZ3 : Hid (Blk W3 w.heap.size #[.int .i64 0, .int .i64 0, .int .i64 0, .int .i64 0, .int .i64 0, .int .i64 0, .int .i64 0, .int .i64 0, .string ⟨#[]⟩] 25) := HZ2.out.next hb
  have HF3 : Hid (Fd W3 b c F) := HF2.out.next hb
  have HX3 : Hid (Blk W3 gb #[.map (some b)] 72) := HX2.out.next hb
  clear HMC hb HB2 HZ2 HF2 HX2 hlk c0 HM HME hfd
  go_upto_region 5 with fail
  have HDR : Hid (Below W3.heap.size W3 W3.drew) := bel_drew (Below.refl _ _) 1
  refine wp_region_held_drew (S := fun v => Blk v gb #[.map (some b)] 72 ∧ Fd v b c F) (by kernel_rfl) ⟨HX3.out.next HDR.out, HF3.out.next HDR.out⟩ (fun hHeld => ?_)
  refine take_at 0 19 (.int .i64 me) _ rfl rfl (by kernel_rfl) (by kernel_rfl) (by kernel_rfl) (fun _ _ _ h => h) (Or.inl ⟨by rfl, fun v hv => by skip; clear hv; go_simp⟩) hHeld ?_
  simp only [Act.put, List.setIfInBounds_toArray, List.set_cons_zero, List.set_cons_succ]
  refine take_at 1 20 (.func (.func 43) #[] #[.pointer (some ⟨gb, 0, none⟩)]) _ rfl rfl (by kernel_rfl) (by kernel_rfl) (by kernel_rfl) (fun _ _ _ h => h) (Or.inl ⟨by rfl, fun v hv => by skip; clear hv; go_simp⟩) hHeld ?_
  simp only [Act.put, List.setIfInBounds_toArray, List.set_cons_zero, List.set_cons_succ]
  refine take_at 3 22 (.func (.func 41) #[] #[.pointer (some ⟨gb, 0, none⟩)]) _ rfl rfl (by kernel_rfl) (by kernel_rfl) (by kernel_rfl) (fun _ _ _ h => h) (Or.inl ⟨by rfl, fun v hv => by skip; clear hv; go_simp⟩) hHeld ?_
  simp only [Act.put, List.setIfInBounds_toArray, List.set_cons_zero, List.set_cons_succ]
  refine take_at 5 24 (.func (.func 41) #[] #[.pointer (some ⟨gb, 0, none⟩)]) _ rfl rfl (by kernel_rfl) (by kernel_rfl) (by kernel_rfl) (fun _ _ _ h => h) (Or.inl ⟨by rfl, fun v hv => by skip; clear hv; go_simp⟩) hHeld ?_
  simp only [Act.put, List.setIfInBounds_toArray, List.set_cons_zero, List.set_cons_succ]
  refine take_at 7 26 (.func (.func 41) #[] #[.pointer (some ⟨gb, 0, none⟩)]) _ rfl rfl (by kernel_rfl) (by kernel_rfl) (by kernel_rfl) (fun _ _ _ h => h) (Or.inl ⟨by rfl, fun v hv => by skip; clear hv; go_simp⟩) hHeld ?_
  simp only [Act.put, List.setIfInBounds_toArray, List.set_cons_zero, List.set_cons_succ]
  refine take_at 9 28 (.func (.func 41) #[] #[.pointer (some ⟨gb, 0, none⟩)]) _ rfl rfl (by kernel_rfl) (by kernel_rfl) (by kernel_rfl) (fun _ _ _ h => h) (Or.inl ⟨by rfl, fun v hv => by skip; clear hv; go_simp⟩) hHeld ?_
  simp only [Act.put, List.setIfInBounds_toArray, List.set_cons_zero, List.set_cons_succ]
  refine take_at 11 30 (.func (.func 41) #[] #[.pointer (some ⟨gb, 0, none⟩)]) _ rfl rfl (by kernel_rfl) (by kernel_rfl) (by kernel_rfl) (fun _ _ _ h => h) (Or.inl ⟨by rfl, fun v hv => by skip; clear hv; go_simp⟩) hHeld ?_
  simp only [Act.put, List.setIfInBounds_toArray, List.set_cons_zero, List.set_cons_succ]
  refine take_at 13 32 (.func (.func 43) #[] #[.pointer (some ⟨gb, 0, none⟩)]) _ rfl rfl (by kernel_rfl) (by kernel_rfl) (by kernel_rfl) (fun _ _ _ h => h) (Or.inl ⟨by rfl, fun v hv => by skip; clear hv; go_simp⟩) hHeld ?_
  simp only [Act.put, List.setIfInBounds_toArray, List.set_cons_zero, List.set_cons_succ]
  refine take_at 16 35 (.map (some b)) _ rfl rfl (by kernel_rfl) (by kernel_rfl) (by kernel_rfl) (fun _ _ _ h => h) (Or.inl ⟨by rfl, fun v hv => by have g0 := hv.1.cell 0; clear hv; go_simp⟩) hHeld ?_
  simp only [Act.put, List.setIfInBounds_toArray, List.set_cons_zero, List.set_cons_succ]
  refine take_at 17 36 (.agg #[.string TS]) _ rfl rfl (by kernel_rfl) (by kernel_rfl) (by kernel_rfl) (fun _ _ _ h => h) (Or.inl ⟨by rfl, fun v hv => by have g0 : (Instr.lookup 72 (.map (some b)) (.string (⟨#[84, 79, 75, 69, 78]⟩ : ByteArray)) false).run Tryz.prog v = .ok (.agg #[.string TS]) v := (by rw [HTE.out]; exact hv.2.look (⟨#[84, 79, 75, 69, 78]⟩ : ByteArray) (by decide)); clear hv; go_simp⟩) hHeld ?_
  simp only [Act.put, List.setIfInBounds_toArray, List.set_cons_zero, List.set_cons_succ]
  refine take_at 18 37 (.string TS) _ rfl rfl (by kernel_rfl) (by kernel_rfl) (by kernel_rfl) (fun _ _ _ h => h) (Or.inl ⟨by rfl, fun v hv => by have g1 := fld TS v; clear hv; go_simp⟩) hHeld ?_
  simp only [Act.put, List.setIfInBounds_toArray, List.set_cons_zero, List.set_cons_succ]
  have HB4 : Hid (Below w.heap.size w W3.drew) := bel_drew HB3.out 1
  have HH4 : Hid (Below W3.heap.size W3 W3.drew) := HDR.out
  clear HDR
  generalize W3.drew = U0 at *
  refine wpAnyH_ready (rs := [2]) (by kernel_rfl) (by simp) (AllReadyH.cons rfl (fun K hK => ?_) AllReadyH.nil)
  rw [if_pos (by rfl)]
  refine wp_callOp 21 rfl (by clear hK; go_simp) (H2.out gb b c (⟨#[78, 85, 77, 66, 69, 82]⟩ : ByteArray) v0 U0 HB4.out (HX3.out.next HH4.out) (HF3.out.next HH4.out) (by simp)) ?_
  rintro e U1 ⟨rfl, hb⟩
  have HB5 : Hid (Below w.heap.size w U1) := bel_step HB4.out hb
  have HH5 : Hid (Below W3.heap.size W3 U1) := bel_step HH4.out hb
  refine ⟨_, rfl, hK.out _ _ ⟨HX3.out.next HH5.out, HF3.out.next HH5.out⟩ (fun hHeld => ?_)⟩
  clear hK hb HB4 HH4
  simp only [Act.put, List.setIfInBounds_toArray, List.set_cons_zero, List.set_cons_succ]
  refine wpAnyH_ready (rs := [4]) (by kernel_rfl) (by simp) (AllReadyH.cons rfl (fun K hK => ?_) AllReadyH.nil)
  rw [if_pos (by rfl)]
  refine wp_callOp 23 rfl (by clear hK; go_simp) (H1.out gb b c (⟨#[84, 69, 78, 68, 69, 82]⟩ : ByteArray) v1 U1 HB5.out (HX3.out.next HH5.out) (HF3.out.next HH5.out) (by simp)) ?_
  rintro e U2 ⟨rfl, hb⟩
  have HB6 : Hid (Below w.heap.size w U2) := bel_step HB5.out hb
  have HH6 : Hid (Below W3.heap.size W3 U2) := bel_step HH5.out hb
  refine ⟨_, rfl, hK.out _ _ ⟨HX3.out.next HH6.out, HF3.out.next HH6.out⟩ (fun hHeld => ?_)⟩
  clear hK hb HB5 HH5
  simp only [Act.put, List.setIfInBounds_toArray, List.set_cons_zero, List.set_cons_succ]
  refine wpAnyH_ready (rs := [6]) (by kernel_rfl) (by simp) (AllReadyH.cons rfl (fun K hK => ?_) AllReadyH.nil)
  rw [if_pos (by rfl)]
  refine wp_callOp 25 rfl (by clear hK; go_simp) (H1.out gb b c (⟨#[68, 69, 66, 84]⟩ : ByteArray) v2 U2 HB6.out (HX3.out.next HH6.out) (HF3.out.next HH6.out) (by simp)) ?_
  rintro e U3 ⟨rfl, hb⟩
  have HB7 : Hid (Below w.heap.size w U3) := bel_step HB6.out hb
  have HH7 : Hid (Below W3.heap.size W3 U3) := bel_step HH6.out hb
  refine ⟨_, rfl, hK.out _ _ ⟨HX3.out.next HH7.out, HF3.out.next HH7.out⟩ (fun hHeld => ?_)⟩
  clear hK hb HB6 HH6
  simp only [Act.put, List.setIfInBounds_toArray, List.set_cons_zero, List.set_cons_succ]
  refine wpAnyH_ready (rs := [8]) (by kernel_rfl) (by simp) (AllReadyH.cons rfl (fun K hK => ?_) AllReadyH.nil)
  rw [if_pos (by rfl)]
  refine wp_callOp 27 rfl (by clear hK; go_simp) (H1.out gb b c (⟨#[70, 69, 69]⟩ : ByteArray) v3 U3 HB7.out (HX3.out.next HH7.out) (HF3.out.next HH7.out) (by simp)) ?_
  rintro e U4 ⟨rfl, hb⟩
  have HB8 : Hid (Below w.heap.size w U4) := bel_step HB7.out hb
  have HH8 : Hid (Below W3.heap.size W3 U4) := bel_step HH7.out hb
  refine ⟨_, rfl, hK.out _ _ ⟨HX3.out.next HH8.out, HF3.out.next HH8.out⟩ (fun hHeld => ?_)⟩
  clear hK hb HB7 HH7
  simp only [Act.put, List.setIfInBounds_toArray, List.set_cons_zero, List.set_cons_succ]
  refine wpAnyH_ready (rs := [10]) (by kernel_rfl) (by simp) (AllReadyH.cons rfl (fun K hK => ?_) AllReadyH.nil)
  rw [if_pos (by rfl)]
  refine wp_callOp 29 rfl (by clear hK; go_simp) (H1.out gb b c (⟨#[80, 82, 73, 67, 69]⟩ : ByteArray) v4 U4 HB8.out (HX3.out.next HH8.out) (HF3.out.next HH8.out) (by simp)) ?_
  rintro e U5 ⟨rfl, hb⟩
  have HB9 : Hid (Below w.heap.size w U5) := bel_step HB8.out hb
  have HH9 : Hid (Below W3.heap.size W3 U5) := bel_step HH8.out hb
  refine ⟨_, rfl, hK.out _ _ ⟨HX3.out.next HH9.out, HF3.out.next HH9.out⟩ (fun hHeld => ?_)⟩
  clear hK hb HB8 HH8
  simp only [Act.put, List.setIfInBounds_toArray, List.set_cons_zero, List.set_cons_succ]
  refine wpAnyH_ready (rs := [12]) (by kernel_rfl) (by simp) (AllReadyH.cons rfl (fun K hK => ?_) AllReadyH.nil)
  rw [if_pos (by rfl)]
  refine wp_callOp 31 rfl (by clear hK; go_simp) (H1.out gb b c (⟨#[67, 72, 65, 78, 71, 69]⟩ : ByteArray) v5 U5 HB9.out (HX3.out.next HH9.out) (HF3.out.next HH9.out) (by simp)) ?_
  rintro e U6 ⟨rfl, hb⟩
  have HB10 : Hid (Below w.heap.size w U6) := bel_step HB9.out hb
  have HH10 : Hid (Below W3.heap.size W3 U6) := bel_step HH9.out hb
  refine ⟨_, rfl, hK.out _ _ ⟨HX3.out.next HH10.out, HF3.out.next HH10.out⟩ (fun hHeld => ?_)⟩
  clear hK hb HB9 HH9
  simp only [Act.put, List.setIfInBounds_toArray, List.set_cons_zero, List.set_cons_succ]
  refine wpAnyH_ready (rs := [14]) (by kernel_rfl) (by simp) (AllReadyH.cons rfl (fun K hK => ?_) AllReadyH.nil)
  rw [if_pos (by rfl)]
  refine wp_callOp 33 rfl (by clear hK; go_simp) (H2.out gb b c (⟨#[85, 78, 73, 84, 83]⟩ : ByteArray) v6 U6 HB10.out (HX3.out.next HH10.out) (HF3.out.next HH10.out) (by simp)) ?_
  rintro e U7 ⟨rfl, hb⟩
  have HB11 : Hid (Below w.heap.size w U7) := bel_step HB10.out hb
  have HH11 : Hid (Below W3.heap.size W3 U7) := bel_step HH10.out hb
  refine ⟨_, rfl, hK.out _ _ ⟨HX3.out.next HH11.out, HF3.out.next HH11.out⟩ (fun hHeld => ?_)⟩
  clear hK hb HB10 HH10
  simp only [Act.put, List.setIfInBounds_toArray, List.set_cons_zero, List.set_cons_succ]
  refine take_at 15 34 (.agg #[.int .i64 v0, .int .i64 v1, .int .i64 v2, .int .i64 v3, .int .i64 v4, .int .i64 v5, .int .i64 v6]) _ rfl rfl (by kernel_rfl) (by kernel_rfl) (by kernel_rfl) (fun _ _ _ h => h) (Or.inl ⟨by rfl, fun v hv => by skip; clear hv; go_simp⟩) hHeld ?_
  simp only [Act.put, List.setIfInBounds_toArray, List.set_cons_zero, List.set_cons_succ]
  refine wpAnyH_ready (rs := [19]) (by kernel_rfl) (by simp) (AllReadyH.cons rfl (fun K hK => ?_) AllReadyH.nil)
  rw [if_pos (by rfl)]
  refine wp_callOp 38 rfl (by clear hK; go_simp) (HR.out U7 HB11.out) ?_
  rintro e U8 ⟨rfl, hb⟩
  have HB12 : Hid (Below w.heap.size w U8) := bel_step HB11.out hb
  have HH12 : Hid (Below W3.heap.size W3 U8) := bel_step HH11.out hb
  refine ⟨_, rfl, hK.out _ _ ⟨HX3.out.next HH12.out, HF3.out.next HH12.out⟩ (fun hHeld => ?_)⟩
  clear hK hb HB11 HH11
  simp only [Act.put, List.setIfInBounds_toArray, List.set_cons_zero, List.set_cons_succ]
  refine take_at 20 39 (.agg #[.int .i64 me, .int .i64 v0, .int .i64 v1, .int .i64 v2, .int .i64 v3, .int .i64 v4, .int .i64 v5, .int .i64 v6, .string RS]) _ rfl rfl (by kernel_rfl) (by kernel_rfl) (by kernel_rfl) (fun _ _ _ h => h) (Or.inl ⟨by rfl, fun v hv => by skip; clear hv; go_simp⟩) hHeld ?_
  simp only [Act.put, List.setIfInBounds_toArray, List.set_cons_zero, List.set_cons_succ]
  have HZ12 : Hid (Blk U8 w.heap.size #[.int .i64 0, .int .i64 0, .int .i64 0, .int .i64 0, .int .i64 0, .int .i64 0, .int .i64 0, .int .i64 0, .string ⟨#[]⟩] 25) := HZ3.out.next HH12.out
  refine wpAnyH_ready (rs := [21]) (by kernel_rfl) (by simp) (AllReadyH.cons rfl (fun K hK => ?_) AllReadyH.nil)
  rw [if_pos (by rfl)]
  refine wp_letOp 25 _ _ rfl w.heap.size rfl #[.int .i64 me, .int .i64 v0, .int .i64 v1, .int .i64 v2, .int .i64 v3, .int .i64 v4, .int .i64 v5, .int .i64 v6, .string RS] rfl (by kernel_rfl) (by simp [Value.oneCell']) #[.int .i64 0, .int .i64 0, .int .i64 0, .int .i64 0, .int .i64 0, .int .i64 0, .int .i64 0, .int .i64 0, .string ⟨#[]⟩] 25 HZ12.out rfl rfl ?_
  intro WF hUF
  have HBF : Hid (Below w.heap.size w WF) := hUF.bel _ _ (Nat.le_refl _) HB12.out
  refine hK.out _ _ ⟨hUF.keep (HX3.out.next HH12.out) HNG.out, (HF3.out.next HH12.out).upd hUF HNB.out⟩ (fun hHeld => ?_)
  clear hK
  refine wpAnyH_done (by kernel_rfl) ?_ _
  have R0 : Hid (WF.cell? ⟨w.heap.size, 0, none⟩ = some (.int .i64 me)) := hUF.blk.cell 0
  have R1 : Hid (WF.cell? ⟨w.heap.size, 1, none⟩ = some (.int .i64 v0)) := hUF.blk.cell 1
  have R2 : Hid (WF.cell? ⟨w.heap.size, 2, none⟩ = some (.int .i64 v1)) := hUF.blk.cell 2
  have R3 : Hid (WF.cell? ⟨w.heap.size, 3, none⟩ = some (.int .i64 v2)) := hUF.blk.cell 3
  have R4 : Hid (WF.cell? ⟨w.heap.size, 4, none⟩ = some (.int .i64 v3)) := hUF.blk.cell 4
  have R5 : Hid (WF.cell? ⟨w.heap.size, 5, none⟩ = some (.int .i64 v4)) := hUF.blk.cell 5
  have R6 : Hid (WF.cell? ⟨w.heap.size, 6, none⟩ = some (.int .i64 v5)) := hUF.blk.cell 6
  have R7 : Hid (WF.cell? ⟨w.heap.size, 7, none⟩ = some (.int .i64 v6)) := hUF.blk.cell 7
  have R8 : Hid (WF.cell? ⟨w.heap.size, 8, none⟩ = some (.string RS)) := hUF.blk.cell 8
  clear hUF hHeld HZ12
  go_wp2_with fail
  exact bodyPost_ret (v := .agg #[.int .i64 me, .int .i64 v0, .int .i64 v1, .int .i64 v2, .int .i64 v3, .int .i64 v4, .int .i64 v5, .int .i64 v6, .string RS]) (by simp [results, Tryz.results17, R0.out, R1.out, R2.out, R3.out, R4.out, R5.out, R6.out, R7.out, R8.out, go_sem]) rfl ⟨rfl, HBF.out⟩

end Go.Proofs.YtlicdeppfhmfjaaGreatDoor.rcg

/- What is wrong with a receipt, in the program. -/
namespace Go.Proofs.YtlicdeppfhmfjaaGreatDoor.rcp
open Go.RowKit
set_option maxRecDepth 100000
set_option linter.unusedVariables false
set_option linter.unusedSimpArgs false

set_option maxHeartbeats 1000000 in
theorem units_any (c i a t : Int) (w : World) : Calls Tryz.prog 28 #[.agg #[.int .i64 c, .int .i64 i, .int .i64 a, .int .i64 t]] w fun e w' => e = .returned (.int .i64 (if c = 0 then a else 0)) ∧ Below w.heap.size w w' := by
  by_cases h : c = 0
  · subst h
    rw [if_pos rfl]
    go_enter Tryz.func28, Tryz.ntmps28
    go_wp2_with fail
    go_ret
    exact ⟨rfl, rci.bel1 _ _⟩
  · rw [if_neg h]
    have hq : (c == 0) = false := by simpa using h
    clear h
    go_enter Tryz.func28, Tryz.ntmps28
    go_wp2_with fail
    go_ret
    exact ⟨rfl, rci.bel1 _ _⟩
/-- What Check answers, over what Parse answers. -/
def chk (me id te de fe pr ch un c i a pe : Int) : Int :=
  if ¬ (0 ≤ me ∧ me ≤ 49) then 18 else if rci.okAll 0 100000000 [te, de, fe, pr, ch] = false then 2 else if ¬ (1 ≤ id ∧ id ≤ 1048575) then 2 else if ¬ (0 ≤ un ∧ un ≤ 2097151) then 2 else if te ≠ de + fe + pr + ch then 19 else if pe ≠ 0 then pe else if i ≠ id then 8 else if (if c = 0 then a else 0) ≠ un then 8 else 0
theorem five_bd {a b c d e : Int} (h : rci.okAll 0 100000000 [a, b, c, d, e] = true) : (0 ≤ a ∧ a ≤ 100000000) ∧ (0 ≤ b ∧ b ≤ 100000000) ∧ (0 ≤ c ∧ c ≤ 100000000) ∧ (0 ≤ d ∧ d ≤ 100000000) ∧ (0 ≤ e ∧ e ≤ 100000000) := by
  simpa [rci.okAll] using h
set_option maxHeartbeats 4000000 in
theorem check_abs (me id te de fe pr ch un c i a t pe : Int) (S : ByteArray) (w : World)
    (hP : ∀ w', Below w.heap.size w w' → Calls Tryz.prog 27 #[.string S] w' fun e w'' => e = .returned (.tuple #[.agg #[.int .i64 c, .int .i64 i, .int .i64 a, .int .i64 t], .int .i64 pe]) ∧ Below w'.heap.size w' w'') :
    Calls Tryz.prog 11 #[.agg #[.int .i64 me, .int .i64 id, .int .i64 te, .int .i64 de, .int .i64 fe, .int .i64 pr, .int .i64 ch, .int .i64 un, .string S]] w fun e w' => e = .returned (.int .i64 (chk me id te de fe pr ch un c i a pe)) ∧ Below w.heap.size w w' := by
  have HP : Hid (∀ w', Below w.heap.size w w' → Calls Tryz.prog 27 #[.string S] w' fun e w'' => e = .returned (.tuple #[.agg #[.int .i64 c, .int .i64 i, .int .i64 a, .int .i64 t], .int .i64 pe]) ∧ Below w'.heap.size w' w'') := hP
  clear hP
  have HX0 : Hid (Blk (w.alloc (.cells #[.int .i64 me, .int .i64 id, .int .i64 te, .int .i64 de, .int .i64 fe, .int .i64 pr, .int .i64 ch, .int .i64 un, .string S] 25)) w.heap.size #[.int .i64 me, .int .i64 id, .int .i64 te, .int .i64 de, .int .i64 fe, .int .i64 pr, .int .i64 ch, .int .i64 un, .string S] 25) := Blk.new _ _ _
  have HB0 : Hid (Below w.heap.size w (w.alloc (.cells #[.int .i64 me, .int .i64 id, .int .i64 te, .int .i64 de, .int .i64 fe, .int .i64 pr, .int .i64 ch, .int .i64 un, .string S] 25))) := (Below.refl _ _).alloc (Nat.le_refl _) _
  have hs0 : w.heap.size < (w.alloc (.cells #[.int .i64 me, .int .i64 id, .int .i64 te, .int .i64 de, .int .i64 fe, .int .i64 pr, .int .i64 ch, .int .i64 un, .string S] 25)).heap.size := HX0.out.lt
  generalize hWW : w.alloc (.cells #[.int .i64 me, .int .i64 id, .int .i64 te, .int .i64 de, .int .i64 fe, .int .i64 pr, .int .i64 ch, .int .i64 un, .string S] 25) = W0 at *
  have HWW : Hid (w.alloc (.cells #[.int .i64 me, .int .i64 id, .int .i64 te, .int .i64 de, .int .i64 fe, .int .i64 pr, .int .i64 ch, .int .i64 un, .string S] 25) = W0) := hWW
  clear hWW
  have HU : Hid (∀ W, Calls Tryz.prog 28 #[.agg #[.int .i64 c, .int .i64 i, .int .i64 a, .int .i64 t]] W fun e w' => e = .returned (.int .i64 (if c = 0 then a else 0)) ∧ Below W.heap.size W w') := fun W => units_any c i a t W
  generalize hun' : (if c = 0 then a else 0) = ut at HU
  have HUT : Hid ((if c = 0 then a else 0) = ut) := hun'
  clear hun'
  have xme : W0.cell? ⟨w.heap.size, 0, none⟩ = some (.int .i64 me) := HX0.out.cell 0
  have xid : W0.cell? ⟨w.heap.size, 1, none⟩ = some (.int .i64 id) := HX0.out.cell 1
  have xte : W0.cell? ⟨w.heap.size, 2, none⟩ = some (.int .i64 te) := HX0.out.cell 2
  have xde : W0.cell? ⟨w.heap.size, 3, none⟩ = some (.int .i64 de) := HX0.out.cell 3
  have xfe : W0.cell? ⟨w.heap.size, 4, none⟩ = some (.int .i64 fe) := HX0.out.cell 4
  have xpr : W0.cell? ⟨w.heap.size, 5, none⟩ = some (.int .i64 pr) := HX0.out.cell 5
  have xch : W0.cell? ⟨w.heap.size, 6, none⟩ = some (.int .i64 ch) := HX0.out.cell 6
  have xun : W0.cell? ⟨w.heap.size, 7, none⟩ = some (.int .i64 un) := HX0.out.cell 7
  go_enter Tryz.func11, Tryz.ntmps11
  go_upto_region 1 with fail
  rw [HWW.out]
  clear HWW
  have HBB : Hid (Blk (W0.alloc (.cells #[.int .i64 id, .int .i64 te, .int .i64 de, .int .i64 fe, .int .i64 pr, .int .i64 ch, .int .i64 un] 23)) W0.heap.size #[.int .i64 id, .int .i64 te, .int .i64 de, .int .i64 fe, .int .i64 pr, .int .i64 ch, .int .i64 un] 23) := Blk.new _ _ _
  have HX1 : Hid (Blk (W0.alloc (.cells #[.int .i64 id, .int .i64 te, .int .i64 de, .int .i64 fe, .int .i64 pr, .int .i64 ch, .int .i64 un] 23)) w.heap.size #[.int .i64 me, .int .i64 id, .int .i64 te, .int .i64 de, .int .i64 fe, .int .i64 pr, .int .i64 ch, .int .i64 un, .string S] 25) := HX0.out.alloc _
  have HB1 : Hid (Below w.heap.size w (W0.alloc (.cells #[.int .i64 id, .int .i64 te, .int .i64 de, .int .i64 fe, .int .i64 pr, .int .i64 ch, .int .i64 un] 23))) := HB0.out.alloc HB0.out.size _
  go_upto_region 2 with fail
  generalize W0.alloc (.cells #[.int .i64 id, .int .i64 te, .int .i64 de, .int .i64 fe, .int .i64 pr, .int .i64 ch, .int .i64 un] 23) = W1 at *
  generalize W0.heap.size = gb at *
  clear xme xid xte xde xfe xpr xch xun HX0 HB0
  have yme : W1.cell? ⟨w.heap.size, 0, none⟩ = some (.int .i64 me) := HX1.out.cell 0
  have HIM := rci.isMeter_any me W1
  by_cases hme : 0 ≤ me ∧ me ≤ 49
  case neg =>
    rw [decide_eq_false hme] at HIM
    have HR : Hid (chk me id te de fe pr ch un c i a pe = 18) := by show _ = _; unfold chk; rw [if_pos hme]
    go_wp2_with fail
    refine HIM.mono ?_
    rintro e W2 ⟨rfl, hb⟩
    have HB2 : Hid (Below w.heap.size w W2) := bel_step HB1.out hb
    clear hb HIM
    go_wp2_with fail
    go_ret
    exact ⟨by rw [HR.out]; rfl, HB2.out⟩
  rw [decide_eq_true hme] at HIM
  go_wp2_with fail
  refine HIM.mono ?_
  rintro e W2 ⟨rfl, hb⟩
  have HB2 : Hid (Below w.heap.size w W2) := bel_step HB1.out hb
  have HBB2 : Hid (Blk W2 gb #[.int .i64 id, .int .i64 te, .int .i64 de, .int .i64 fe, .int .i64 pr, .int .i64 ch, .int .i64 un] 23) := HBB.out.next hb
  have HX2 : Hid (Blk W2 w.heap.size #[.int .i64 me, .int .i64 id, .int .i64 te, .int .i64 de, .int .i64 fe, .int .i64 pr, .int .i64 ch, .int .i64 un, .string S] 25) := HX1.out.next hb
  clear hb HIM HB1 HBB HX1 yme
  have bid : W2.cell? ⟨gb, 0, none⟩ = some (.int .i64 id) := HBB2.out.cell 0
  have bte : W2.cell? ⟨gb, 1, none⟩ = some (.int .i64 te) := HBB2.out.cell 1
  have bde : W2.cell? ⟨gb, 2, none⟩ = some (.int .i64 de) := HBB2.out.cell 2
  have bfe : W2.cell? ⟨gb, 3, none⟩ = some (.int .i64 fe) := HBB2.out.cell 3
  have bpr : W2.cell? ⟨gb, 4, none⟩ = some (.int .i64 pr) := HBB2.out.cell 4
  have bch : W2.cell? ⟨gb, 5, none⟩ = some (.int .i64 ch) := HBB2.out.cell 5
  have bun : W2.cell? ⟨gb, 6, none⟩ = some (.int .i64 un) := HBB2.out.cell 6
  have HW2 : Hid (Calls Tryz.prog 26 #[.int .i64 0, .int .i64 100000000, .slice (some ⟨W2.heap.size, 0, none⟩) 5 5] (W2.alloc (.cells #[.int .i64 te, .int .i64 de, .int .i64 fe, .int .i64 pr, .int .i64 ch] 3)) fun e w' => e = .returned (.bool (rci.okAll 0 100000000 [te, de, fe, pr, ch])) ∧ w' = W2.alloc (.cells #[.int .i64 te, .int .i64 de, .int .i64 fe, .int .i64 pr, .int .i64 ch] 3)) := rci.within_any 0 100000000 _ 5 5 [te, de, fe, pr, ch] _ (rci.row_five W2 te de fe pr ch 3) (by decide)
  have HB3 : Hid (Below w.heap.size w (W2.alloc (.cells #[.int .i64 te, .int .i64 de, .int .i64 fe, .int .i64 pr, .int .i64 ch] 3))) := HB2.out.alloc HB2.out.size _
  have HBB3 : Hid (Blk (W2.alloc (.cells #[.int .i64 te, .int .i64 de, .int .i64 fe, .int .i64 pr, .int .i64 ch] 3)) gb #[.int .i64 id, .int .i64 te, .int .i64 de, .int .i64 fe, .int .i64 pr, .int .i64 ch, .int .i64 un] 23) := HBB2.out.alloc _
  have HX3 : Hid (Blk (W2.alloc (.cells #[.int .i64 te, .int .i64 de, .int .i64 fe, .int .i64 pr, .int .i64 ch] 3)) w.heap.size #[.int .i64 me, .int .i64 id, .int .i64 te, .int .i64 de, .int .i64 fe, .int .i64 pr, .int .i64 ch, .int .i64 un, .string S] 25) := HX2.out.alloc _
  by_cases h5 : rci.okAll 0 100000000 [te, de, fe, pr, ch] = true
  case neg =>
    rw [show rci.okAll 0 100000000 [te, de, fe, pr, ch] = false by simpa using h5] at HW2
    have HR : Hid (chk me id te de fe pr ch un c i a pe = 2) := by show _ = _; unfold chk; rw [if_neg (not_not_intro hme), if_pos (by simpa using h5)]
    go_wp2_with fail
    refine HW2.out.mono ?_
    rintro e W ⟨rfl, hw⟩
    subst hw
    clear HW2
    go_wp2_with fail
    go_ret
    exact ⟨by rw [HR.out]; rfl, HB3.out⟩
  rw [h5] at HW2
  go_wp2_with fail
  refine HW2.out.mono ?_
  rintro e W ⟨rfl, hw⟩
  subst hw
  clear HW2 HB2 HBB2 HX2 bid bte bde bfe bpr bch bun
  generalize W2.alloc (.cells #[.int .i64 te, .int .i64 de, .int .i64 fe, .int .i64 pr, .int .i64 ch] 3) = W3 at *
  have bid : W3.cell? ⟨gb, 0, none⟩ = some (.int .i64 id) := HBB3.out.cell 0
  have bte : W3.cell? ⟨gb, 1, none⟩ = some (.int .i64 te) := HBB3.out.cell 1
  have bde : W3.cell? ⟨gb, 2, none⟩ = some (.int .i64 de) := HBB3.out.cell 2
  have bfe : W3.cell? ⟨gb, 3, none⟩ = some (.int .i64 fe) := HBB3.out.cell 3
  have bpr : W3.cell? ⟨gb, 4, none⟩ = some (.int .i64 pr) := HBB3.out.cell 4
  have bch : W3.cell? ⟨gb, 5, none⟩ = some (.int .i64 ch) := HBB3.out.cell 5
  have bun : W3.cell? ⟨gb, 6, none⟩ = some (.int .i64 un) := HBB3.out.cell 6
  have HW3 : Hid (Calls Tryz.prog 26 #[.int .i64 1, .int .i64 1048575, .slice (some ⟨W3.heap.size, 0, none⟩) 1 1] (W3.alloc (.cells #[.int .i64 id] 3)) fun e w' => e = .returned (.bool (decide (1 ≤ id ∧ id ≤ 1048575))) ∧ w' = W3.alloc (.cells #[.int .i64 id] 3)) := rci.within_one 1 1048575 id W3 _ rfl
  have HB4 : Hid (Below w.heap.size w (W3.alloc (.cells #[.int .i64 id] 3))) := HB3.out.alloc HB3.out.size _
  have HBB4 : Hid (Blk (W3.alloc (.cells #[.int .i64 id] 3)) gb #[.int .i64 id, .int .i64 te, .int .i64 de, .int .i64 fe, .int .i64 pr, .int .i64 ch, .int .i64 un] 23) := HBB3.out.alloc _
  have HX4 : Hid (Blk (W3.alloc (.cells #[.int .i64 id] 3)) w.heap.size #[.int .i64 me, .int .i64 id, .int .i64 te, .int .i64 de, .int .i64 fe, .int .i64 pr, .int .i64 ch, .int .i64 un, .string S] 25) := HX3.out.alloc _
  by_cases hid : 1 ≤ id ∧ id ≤ 1048575
  case neg =>
    rw [decide_eq_false hid] at HW3
    have HR : Hid (chk me id te de fe pr ch un c i a pe = 2) := by show _ = _; unfold chk; rw [if_neg (not_not_intro hme), if_neg (by rw [h5]; decide), if_pos hid]
    go_wp2_with fail
    refine HW3.out.mono ?_
    rintro e W ⟨rfl, hw⟩
    subst hw
    clear HW3
    go_wp2_with fail
    go_ret
    exact ⟨by rw [HR.out]; rfl, HB4.out⟩
  rw [decide_eq_true hid] at HW3
  go_wp2_with fail
  refine HW3.out.mono ?_
  rintro e W ⟨rfl, hw⟩
  subst hw
  clear HW3 HB3 HBB3 HX3 bid bte bde bfe bpr bch bun
  generalize W3.alloc (.cells #[.int .i64 id] 3) = W4 at *
  have bid : W4.cell? ⟨gb, 0, none⟩ = some (.int .i64 id) := HBB4.out.cell 0
  have bte : W4.cell? ⟨gb, 1, none⟩ = some (.int .i64 te) := HBB4.out.cell 1
  have bde : W4.cell? ⟨gb, 2, none⟩ = some (.int .i64 de) := HBB4.out.cell 2
  have bfe : W4.cell? ⟨gb, 3, none⟩ = some (.int .i64 fe) := HBB4.out.cell 3
  have bpr : W4.cell? ⟨gb, 4, none⟩ = some (.int .i64 pr) := HBB4.out.cell 4
  have bch : W4.cell? ⟨gb, 5, none⟩ = some (.int .i64 ch) := HBB4.out.cell 5
  have bun : W4.cell? ⟨gb, 6, none⟩ = some (.int .i64 un) := HBB4.out.cell 6
  have HW4 : Hid (Calls Tryz.prog 26 #[.int .i64 0, .int .i64 2097151, .slice (some ⟨W4.heap.size, 0, none⟩) 1 1] (W4.alloc (.cells #[.int .i64 un] 3)) fun e w' => e = .returned (.bool (decide (0 ≤ un ∧ un ≤ 2097151))) ∧ w' = W4.alloc (.cells #[.int .i64 un] 3)) := rci.within_one 0 2097151 un W4 _ rfl
  have HB5 : Hid (Below w.heap.size w (W4.alloc (.cells #[.int .i64 un] 3))) := HB4.out.alloc HB4.out.size _
  have HBB5 : Hid (Blk (W4.alloc (.cells #[.int .i64 un] 3)) gb #[.int .i64 id, .int .i64 te, .int .i64 de, .int .i64 fe, .int .i64 pr, .int .i64 ch, .int .i64 un] 23) := HBB4.out.alloc _
  have HX5 : Hid (Blk (W4.alloc (.cells #[.int .i64 un] 3)) w.heap.size #[.int .i64 me, .int .i64 id, .int .i64 te, .int .i64 de, .int .i64 fe, .int .i64 pr, .int .i64 ch, .int .i64 un, .string S] 25) := HX4.out.alloc _
  by_cases hun : 0 ≤ un ∧ un ≤ 2097151
  case neg =>
    rw [decide_eq_false hun] at HW4
    have HR : Hid (chk me id te de fe pr ch un c i a pe = 2) := by show _ = _; unfold chk; rw [if_neg (not_not_intro hme), if_neg (by rw [h5]; decide), if_neg (not_not_intro hid), if_pos hun]
    go_wp2_with fail
    refine HW4.out.mono ?_
    rintro e W ⟨rfl, hw⟩
    subst hw
    clear HW4
    go_wp2_with fail
    go_ret
    exact ⟨by rw [HR.out]; rfl, HB5.out⟩
  rw [decide_eq_true hun] at HW4
  go_wp2_with fail
  refine HW4.out.mono ?_
  rintro e W ⟨rfl, hw⟩
  subst hw
  clear HW4 HB4 HBB4 HX4 bid bte bde bfe bpr bch bun
  generalize W4.alloc (.cells #[.int .i64 un] 3) = W5 at *
  have bid : W5.cell? ⟨gb, 0, none⟩ = some (.int .i64 id) := HBB5.out.cell 0
  have bte : W5.cell? ⟨gb, 1, none⟩ = some (.int .i64 te) := HBB5.out.cell 1
  have bde : W5.cell? ⟨gb, 2, none⟩ = some (.int .i64 de) := HBB5.out.cell 2
  have bfe : W5.cell? ⟨gb, 3, none⟩ = some (.int .i64 fe) := HBB5.out.cell 3
  have bpr : W5.cell? ⟨gb, 4, none⟩ = some (.int .i64 pr) := HBB5.out.cell 4
  have bch : W5.cell? ⟨gb, 5, none⟩ = some (.int .i64 ch) := HBB5.out.cell 5
  have bun : W5.cell? ⟨gb, 6, none⟩ = some (.int .i64 un) := HBB5.out.cell 6
  obtain ⟨⟨te0, te1⟩, ⟨de0, de1⟩, ⟨fe0, fe1⟩, ⟨pr0, pr1⟩, ⟨ch0, ch1⟩⟩ := five_bd h5
  have q1 : IntKind.i64.wrap (de + fe) = de + fe := by rw [IntKind.wrap_i64]; omega
  have q2 : IntKind.i64.wrap (de + fe + pr) = de + fe + pr := by rw [IntKind.wrap_i64]; omega
  have q3 : IntKind.i64.wrap (de + fe + pr + ch) = de + fe + pr + ch := by rw [IntKind.wrap_i64]; omega
  by_cases hsum : te = de + fe + pr + ch
  case neg =>
    have hq : (te != de + fe + pr + ch) = true := by simpa using hsum
    have HR : Hid (chk me id te de fe pr ch un c i a pe = 19) := by show _ = _; unfold chk; rw [if_neg (not_not_intro hme), if_neg (by rw [h5]; decide), if_neg (not_not_intro hid), if_neg (not_not_intro hun), if_pos hsum]
    clear hsum
    go_wp2_with fail
    go_ret
    exact ⟨by rw [HR.out]; rfl, HB5.out⟩
  have hq : (te != de + fe + pr + ch) = false := by simpa using hsum
  have ytk : W5.cell? ⟨w.heap.size, 8, none⟩ = some (.string S) := HX5.out.cell 8
  have HP5 := HP.out W5 HB5.out
  have HHE : Hid (te = de + fe + pr + ch) := hsum
  clear hsum HP
  go_upto_region 10 with fail
  go_wp2_with fail
  refine HP5.mono ?_
  rintro e W6 ⟨rfl, hb⟩
  have HB6 : Hid (Below w.heap.size w W6) := bel_step HB5.out hb
  have HBB6 : Hid (Blk W6 gb #[.int .i64 id, .int .i64 te, .int .i64 de, .int .i64 fe, .int .i64 pr, .int .i64 ch, .int .i64 un] 23) := HBB5.out.next hb
  clear hb HP5 HB5 HBB5 HX5 ytk bid bte bde bfe bpr bch bun q1 q2 q3
  have HT7 : Hid (Blk (W6.alloc (.cells #[.int .i64 c, .int .i64 i, .int .i64 a, .int .i64 t] 51)) W6.heap.size #[.int .i64 c, .int .i64 i, .int .i64 a, .int .i64 t] 51) := Blk.new _ _ _
  have HBB7 : Hid (Blk (W6.alloc (.cells #[.int .i64 c, .int .i64 i, .int .i64 a, .int .i64 t] 51)) gb #[.int .i64 id, .int .i64 te, .int .i64 de, .int .i64 fe, .int .i64 pr, .int .i64 ch, .int .i64 un] 23) := HBB6.out.alloc _
  have HB7 : Hid (Below w.heap.size w (W6.alloc (.cells #[.int .i64 c, .int .i64 i, .int .i64 a, .int .i64 t] 51))) := HB6.out.alloc HB6.out.size _
  go_upto_region 11 with fail
  generalize W6.alloc (.cells #[.int .i64 c, .int .i64 i, .int .i64 a, .int .i64 t] 51) = W7 at *
  generalize W6.heap.size = gt at *
  clear HB6 HBB6
  by_cases hpe : pe = 0
  case neg =>
    have hq2 : (pe != 0) = true := by simpa using hpe
    have HR : Hid (chk me id te de fe pr ch un c i a pe = pe) := by show _ = _; unfold chk; rw [if_neg (not_not_intro hme), if_neg (by rw [h5]; decide), if_neg (not_not_intro hid), if_neg (not_not_intro hun), if_neg (not_not_intro HHE.out), if_pos hpe]
    clear hpe
    go_wp2_with fail
    go_ret
    exact ⟨by rw [HR.out]; rfl, HB7.out⟩
  have hq2 : (pe != 0) = false := by simpa using hpe
  have HPE : Hid (pe = 0) := hpe
  clear hpe
  go_upto_region 13 with fail
  have lt0 : gt < W7.heap.size := HT7.out.lt
  have lb0 : gb < W7.heap.size := HBB7.out.lt
  have u0 : W7.cell? ⟨gt, 0, none⟩ = some (.int .i64 c) := HT7.out.cell 0
  have u1 : W7.cell? ⟨gt, 1, none⟩ = some (.int .i64 i) := HT7.out.cell 1
  have u2 : W7.cell? ⟨gt, 2, none⟩ = some (.int .i64 a) := HT7.out.cell 2
  have u3 : W7.cell? ⟨gt, 3, none⟩ = some (.int .i64 t) := HT7.out.cell 3
  have v0 : W7.cell? ⟨gb, 0, none⟩ = some (.int .i64 id) := HBB7.out.cell 0
  have v6 : W7.cell? ⟨gb, 6, none⟩ = some (.int .i64 un) := HBB7.out.cell 6
  have HDR : Hid (Below W7.heap.size W7 W7.drew) := bel_drew (Below.refl _ _) 1
  by_cases hi : i = id
  case neg =>
    have hq3 : (i != id) = true := by simpa using hi
    have HR : Hid (chk me id te de fe pr ch un c i a pe = 8) := by show _ = _; unfold chk; rw [if_neg (not_not_intro hme), if_neg (by rw [h5]; decide), if_neg (not_not_intro hid), if_neg (not_not_intro hun), if_neg (not_not_intro HHE.out), if_neg (not_not_intro HPE.out), if_pos hi]
    clear hi
    refine wp_region_held_drew (S := fun v => Below W7.heap.size W7 v) (by kernel_rfl) HDR.out (fun hHeld => ?_)
    refine take_at 0 61 (.pointer (some ⟨gt, 1, none⟩)) _ rfl rfl (by kernel_rfl) (by kernel_rfl) (by kernel_rfl) (fun _ _ _ h => h) (Or.inl ⟨by rfl, fun v hv => by skip; clear hv; go_simp⟩) hHeld ?_
    simp only [Act.put, List.setIfInBounds_toArray, List.set_cons_zero, List.set_cons_succ]
    refine take_at 1 62 (.int .i64 i) _ rfl rfl (by kernel_rfl) (by kernel_rfl) (by kernel_rfl) (fun _ _ _ h => h) (Or.inl ⟨by rfl, fun v hv => by have g1 := (hv.cell (p := ⟨gt, 1, none⟩) lt0).trans u1; clear hv; go_simp⟩) hHeld ?_
    simp only [Act.put, List.setIfInBounds_toArray, List.set_cons_zero, List.set_cons_succ]
    refine take_at 2 63 (.pointer (some ⟨gb, 0, none⟩)) _ rfl rfl (by kernel_rfl) (by kernel_rfl) (by kernel_rfl) (fun _ _ _ h => h) (Or.inl ⟨by rfl, fun v hv => by skip; clear hv; go_simp⟩) hHeld ?_
    simp only [Act.put, List.setIfInBounds_toArray, List.set_cons_zero, List.set_cons_succ]
    refine take_at 3 64 (.int .i64 id) _ rfl rfl (by kernel_rfl) (by kernel_rfl) (by kernel_rfl) (fun _ _ _ h => h) (Or.inl ⟨by rfl, fun v hv => by have g0 := (hv.cell (p := ⟨gb, 0, none⟩) lb0).trans v0; clear hv; go_simp⟩) hHeld ?_
    simp only [Act.put, List.setIfInBounds_toArray, List.set_cons_zero, List.set_cons_succ]
    refine take_at 4 65 (.bool true) _ rfl rfl (by kernel_rfl) (by kernel_rfl) (by kernel_rfl) (fun _ _ _ h => h) (Or.inl ⟨by rfl, fun v hv => by skip; clear hv; go_simp⟩) hHeld ?_
    simp only [Act.put, List.setIfInBounds_toArray, List.set_cons_zero, List.set_cons_succ]
    refine take_at 5 66 (.bool true) _ rfl rfl (by kernel_rfl) (by kernel_rfl) (by kernel_rfl) (fun _ _ _ h => h) (Or.inl ⟨by rfl, fun v hv => by skip; clear hv; go_simp⟩) hHeld ?_
    simp only [Act.put, List.setIfInBounds_toArray, List.set_cons_zero, List.set_cons_succ]
    refine take_at 6 67 undef _ rfl rfl (by kernel_rfl) (by kernel_rfl) (by kernel_rfl) (fun _ _ _ h => h) (Or.inr ⟨by rfl, rfl⟩) hHeld ?_
    simp only [Act.put, List.setIfInBounds_toArray, List.set_cons_zero, List.set_cons_succ]
    refine take_at 7 68 undef _ rfl rfl (by kernel_rfl) (by kernel_rfl) (by kernel_rfl) (fun _ _ _ h => h) (Or.inr ⟨by rfl, rfl⟩) hHeld ?_
    simp only [Act.put, List.setIfInBounds_toArray, List.set_cons_zero, List.set_cons_succ]
    refine take_at 8 69 undef _ rfl rfl (by kernel_rfl) (by kernel_rfl) (by kernel_rfl) (fun _ _ _ h => h) (Or.inr ⟨by rfl, rfl⟩) hHeld ?_
    simp only [Act.put, List.setIfInBounds_toArray, List.set_cons_zero, List.set_cons_succ]
    refine take_at 9 70 undef _ rfl rfl (by kernel_rfl) (by kernel_rfl) (by kernel_rfl) (fun _ _ _ h => h) (Or.inr ⟨by rfl, rfl⟩) hHeld ?_
    simp only [Act.put, List.setIfInBounds_toArray, List.set_cons_zero, List.set_cons_succ]
    refine take_at 10 71 undef _ rfl rfl (by kernel_rfl) (by kernel_rfl) (by kernel_rfl) (fun _ _ _ h => h) (Or.inr ⟨by rfl, rfl⟩) hHeld ?_
    simp only [Act.put, List.setIfInBounds_toArray, List.set_cons_zero, List.set_cons_succ]
    refine take_at 11 72 (.bool true) _ rfl rfl (by kernel_rfl) (by kernel_rfl) (by kernel_rfl) (fun _ _ _ h => h) (Or.inl ⟨by rfl, fun v hv => by skip; clear hv; go_simp⟩) hHeld ?_
    simp only [Act.put, List.setIfInBounds_toArray, List.set_cons_zero, List.set_cons_succ]
    refine wpAnyH_done (by kernel_rfl) ?_ _
    have HB8 : Hid (Below w.heap.size w W7.drew) := bel_drew HB7.out 1
    clear hHeld
    go_wp2_with fail
    go_ret
    exact ⟨by rw [HR.out]; rfl, HB8.out⟩
  have hq3 : (i != id) = false := by simpa using hi
  have HII : Hid (i = id) := hi
  clear hi
  refine wp_region_held_drew (S := fun v => Below W7.heap.size W7 v) (by kernel_rfl) HDR.out (fun hHeld => ?_)
  refine take_at 0 61 (.pointer (some ⟨gt, 1, none⟩)) _ rfl rfl (by kernel_rfl) (by kernel_rfl) (by kernel_rfl) (fun _ _ _ h => h) (Or.inl ⟨by rfl, fun v hv => by skip; clear hv; go_simp⟩) hHeld ?_
  simp only [Act.put, List.setIfInBounds_toArray, List.set_cons_zero, List.set_cons_succ]
  refine take_at 1 62 (.int .i64 i) _ rfl rfl (by kernel_rfl) (by kernel_rfl) (by kernel_rfl) (fun _ _ _ h => h) (Or.inl ⟨by rfl, fun v hv => by have g1 := (hv.cell (p := ⟨gt, 1, none⟩) lt0).trans u1; clear hv; go_simp⟩) hHeld ?_
  simp only [Act.put, List.setIfInBounds_toArray, List.set_cons_zero, List.set_cons_succ]
  refine take_at 2 63 (.pointer (some ⟨gb, 0, none⟩)) _ rfl rfl (by kernel_rfl) (by kernel_rfl) (by kernel_rfl) (fun _ _ _ h => h) (Or.inl ⟨by rfl, fun v hv => by skip; clear hv; go_simp⟩) hHeld ?_
  simp only [Act.put, List.setIfInBounds_toArray, List.set_cons_zero, List.set_cons_succ]
  refine take_at 3 64 (.int .i64 id) _ rfl rfl (by kernel_rfl) (by kernel_rfl) (by kernel_rfl) (fun _ _ _ h => h) (Or.inl ⟨by rfl, fun v hv => by have g0 := (hv.cell (p := ⟨gb, 0, none⟩) lb0).trans v0; clear hv; go_simp⟩) hHeld ?_
  simp only [Act.put, List.setIfInBounds_toArray, List.set_cons_zero, List.set_cons_succ]
  refine take_at 4 65 (.bool false) _ rfl rfl (by kernel_rfl) (by kernel_rfl) (by kernel_rfl) (fun _ _ _ h => h) (Or.inl ⟨by rfl, fun v hv => by skip; clear hv; go_simp⟩) hHeld ?_
  simp only [Act.put, List.setIfInBounds_toArray, List.set_cons_zero, List.set_cons_succ]
  refine take_at 5 66 (.bool false) _ rfl rfl (by kernel_rfl) (by kernel_rfl) (by kernel_rfl) (fun _ _ _ h => h) (Or.inl ⟨by rfl, fun v hv => by skip; clear hv; go_simp⟩) hHeld ?_
  simp only [Act.put, List.setIfInBounds_toArray, List.set_cons_zero, List.set_cons_succ]
  refine take_at 6 67 (.agg #[.int .i64 c, .int .i64 i, .int .i64 a, .int .i64 t]) _ rfl rfl (by kernel_rfl) (by kernel_rfl) (by kernel_rfl) (fun _ _ _ h => h) (Or.inl ⟨by rfl, fun v hv => by have g0 := (hv.cell (p := ⟨gt, 0, none⟩) lt0).trans u0; have g1 := (hv.cell (p := ⟨gt, 1, none⟩) lt0).trans u1; have g2 := (hv.cell (p := ⟨gt, 2, none⟩) lt0).trans u2; have g3 := (hv.cell (p := ⟨gt, 3, none⟩) lt0).trans u3; clear hv; go_simp⟩) hHeld ?_
  simp only [Act.put, List.setIfInBounds_toArray, List.set_cons_zero, List.set_cons_succ]
  refine take_at 8 69 (.pointer (some ⟨gb, 6, none⟩)) _ rfl rfl (by kernel_rfl) (by kernel_rfl) (by kernel_rfl) (fun _ _ _ h => h) (Or.inl ⟨by rfl, fun v hv => by skip; clear hv; go_simp⟩) hHeld ?_
  simp only [Act.put, List.setIfInBounds_toArray, List.set_cons_zero, List.set_cons_succ]
  refine take_at 9 70 (.int .i64 un) _ rfl rfl (by kernel_rfl) (by kernel_rfl) (by kernel_rfl) (fun _ _ _ h => h) (Or.inl ⟨by rfl, fun v hv => by have g6 := (hv.cell (p := ⟨gb, 6, none⟩) lb0).trans v6; clear hv; go_simp⟩) hHeld ?_
  simp only [Act.put, List.setIfInBounds_toArray, List.set_cons_zero, List.set_cons_succ]
  refine wpAnyH_ready (rs := [7]) (by kernel_rfl) (by simp) (AllReadyH.cons rfl (fun K hK => ?_) AllReadyH.nil)
  rw [if_pos (by rfl)]
  refine wp_callOp 68 rfl (by clear hK; go_simp) (HU.out _) ?_
  rintro e W8 ⟨rfl, hb⟩
  have HB8 : Hid (Below w.heap.size w W8) := bel_step (bel_drew HB7.out 1) hb
  refine ⟨_, rfl, hK.out _ _ (bel_step HDR.out hb) (fun hHeld => ?_)⟩
  clear hK hb HB7
  simp only [Act.put, List.setIfInBounds_toArray, List.set_cons_zero, List.set_cons_succ]
  by_cases hu : ut = un
  · have hq4 : (ut != un) = false := by simpa using hu
    have HR : Hid (chk me id te de fe pr ch un c i a pe = 0) := by show _ = _; unfold chk; rw [if_neg (not_not_intro hme), if_neg (by rw [h5]; decide), if_neg (not_not_intro hid), if_neg (not_not_intro hun), if_neg (not_not_intro HHE.out), if_neg (not_not_intro HPE.out), if_neg (not_not_intro HII.out), HUT.out, if_neg (not_not_intro hu)]
    clear hu
    refine take_at 10 71 (.bool false) _ rfl rfl (by kernel_rfl) (by kernel_rfl) (by kernel_rfl) (fun _ _ _ h => h) (Or.inl ⟨by rfl, fun v hv => by skip; clear hv; go_simp⟩) hHeld ?_
    simp only [Act.put, List.setIfInBounds_toArray, List.set_cons_zero, List.set_cons_succ]
    refine take_at 11 72 (.bool false) _ rfl rfl (by kernel_rfl) (by kernel_rfl) (by kernel_rfl) (fun _ _ _ h => h) (Or.inl ⟨by rfl, fun v hv => by skip; clear hv; go_simp⟩) hHeld ?_
    simp only [Act.put, List.setIfInBounds_toArray, List.set_cons_zero, List.set_cons_succ]
    refine wpAnyH_done (by kernel_rfl) ?_ _
    clear hHeld
    go_wp2_with fail
    go_ret
    exact ⟨by rw [HR.out]; rfl, HB8.out⟩
  · have hq4 : (ut != un) = true := by simpa using hu
    have HR : Hid (chk me id te de fe pr ch un c i a pe = 8) := by show _ = _; unfold chk; rw [if_neg (not_not_intro hme), if_neg (by rw [h5]; decide), if_neg (not_not_intro hid), if_neg (not_not_intro hun), if_neg (not_not_intro HHE.out), if_neg (not_not_intro HPE.out), if_neg (not_not_intro HII.out), HUT.out, if_pos hu]
    clear hu
    refine take_at 10 71 (.bool true) _ rfl rfl (by kernel_rfl) (by kernel_rfl) (by kernel_rfl) (fun _ _ _ h => h) (Or.inl ⟨by rfl, fun v hv => by skip; clear hv; go_simp⟩) hHeld ?_
    simp only [Act.put, List.setIfInBounds_toArray, List.set_cons_zero, List.set_cons_succ]
    refine take_at 11 72 (.bool true) _ rfl rfl (by kernel_rfl) (by kernel_rfl) (by kernel_rfl) (fun _ _ _ h => h) (Or.inl ⟨by rfl, fun v hv => by skip; clear hv; go_simp⟩) hHeld ?_
    simp only [Act.put, List.setIfInBounds_toArray, List.set_cons_zero, List.set_cons_succ]
    refine wpAnyH_done (by kernel_rfl) ?_ _
    clear hHeld
    go_wp2_with fail
    go_ret
    exact ⟨by rw [HR.out]; rfl, HB8.out⟩

theorem chk_is (r : Rc) (c i a : Int) (pe : Int) (hpe : pe = token.parseE r.tk) (hok : token.parseE r.tk = 0 → c = ((tokR r).c : Int) ∧ i = ((tokR r).i : Int) ∧ a = ((tokR r).a : Int)) :
    FaultIs r (chk r.me r.id r.te r.de r.fe r.pr r.ch r.un c i a pe) := by
  unfold chk
  by_cases h1 : 0 ≤ r.me ∧ r.me ≤ 49
  case neg => rw [if_pos h1]; exact .inl ⟨h1, rfl⟩
  rw [if_neg (not_not_intro h1)]
  cases h5 : rci.okAll 0 100000000 [r.te, r.de, r.fe, r.pr, r.ch] with
  | false =>
    rw [if_pos rfl]
    refine .inr (.inl ⟨h1, fun hr => ?_, rfl⟩)
    obtain ⟨⟨a, b, c, d⟩, e, _⟩ := hr
    have : rci.okAll 0 100000000 [r.te, r.de, r.fe, r.pr, r.ch] = true := by simp [rci.okAll]; exact ⟨a, b, c, d, e⟩
    rw [this] at h5; cases h5
  | true =>
    rw [if_neg (by decide)]
    obtain ⟨b1, b2, b3, b4, b5⟩ := five_bd h5
    by_cases hid : 1 ≤ r.id ∧ r.id ≤ 1048575
    case neg => rw [if_pos hid]; exact .inr (.inl ⟨h1, fun hr => hid hr.2.2.1, rfl⟩)
    rw [if_neg (not_not_intro hid)]
    by_cases hun : 0 ≤ r.un ∧ r.un ≤ 2097151
    case neg => rw [if_pos hun]; exact .inr (.inl ⟨h1, fun hr => hun hr.2.2.2, rfl⟩)
    rw [if_neg (not_not_intro hun)]
    have hrr : RRange r := ⟨⟨b1, b2, b3, b4⟩, b5, hid, hun⟩
    by_cases hs : r.te = r.de + r.fe + r.pr + r.ch
    case neg => rw [if_pos hs]; exact .inr (.inr (.inl ⟨h1, hrr, fun h => hs (by unfold RSum at h; omega), rfl⟩))
    rw [if_neg (not_not_intro hs)]
    have hsm : RSum r := by unfold RSum; omega
    subst hpe
    by_cases hp : token.parseE r.tk = 0
    case neg => rw [if_pos hp]; exact .inr (.inr (.inr (.inl ⟨h1, hrr, hsm, hp, rfl⟩)))
    rw [if_neg (not_not_intro hp)]
    obtain ⟨rfl, rfl, rfl⟩ := hok hp
    by_cases hi : ((tokR r).i : Int) = r.id
    case neg => rw [if_pos hi]; exact .inr (.inr (.inr (.inr (.inl ⟨h1, hrr, hsm, hp, fun h => hi h.1, rfl⟩))))
    rw [if_neg (not_not_intro hi)]
    by_cases hc : (tokR r).c = 0
    · rw [if_pos (show ((tokR r).c : Int) = 0 by omega)]
      by_cases ha : ((tokR r).a : Int) = r.un
      case neg => rw [if_pos ha]; exact .inr (.inr (.inr (.inr (.inl ⟨h1, hrr, hsm, hp, fun h => ha (h.2.1 hc), rfl⟩))))
      rw [if_neg (not_not_intro ha)]
      exact .inr (.inr (.inr (.inr (.inr ⟨h1, hrr, hsm, hp, ⟨hi, fun _ => ha, fun h => absurd hc h⟩, rfl⟩))))
    · rw [if_neg (show ¬ ((tokR r).c : Int) = 0 by omega)]
      by_cases ha : (0 : Int) = r.un
      case neg => rw [if_pos ha]; exact .inr (.inr (.inr (.inr (.inl ⟨h1, hrr, hsm, hp, fun h => ha (h.2.2 hc).symm, rfl⟩))))
      rw [if_neg (not_not_intro ha)]
      exact .inr (.inr (.inr (.inr (.inr ⟨h1, hrr, hsm, hp, ⟨hi, fun h => absurd h hc, fun _ => ha.symm⟩, rfl⟩))))
theorem check_any (r : Rc) (w : World) (ht : token.TTab w) : Calls Tryz.prog 11 #[r.v] w fun e w' => FaultPost w r e w' := by
  have fin : ∀ (c i a t : Int), (token.parseE r.tk = 0 → c = ((tokR r).c : Int) ∧ i = ((tokR r).i : Int) ∧ a = ((tokR r).a : Int)) → token.parseV r.tk = .agg #[.int .i64 c, .int .i64 i, .int .i64 a, .int .i64 t] → Calls Tryz.prog 11 #[r.v] w fun e w' => FaultPost w r e w' := fun c i a t hok hv => by
    refine (check_abs r.me r.id r.te r.de r.fe r.pr r.ch r.un c i a t (token.parseE r.tk) ⟨r.tk.toArray⟩ w (fun w' hb => ?_)).mono ?_
    · have := token.parse_any ⟨r.tk.toArray⟩ w' (ht.below hb)
      simp only at this
      rw [hv] at this
      exact this
    · rintro e w' ⟨rfl, hb⟩
      exact ⟨_, rfl, chk_is r c i a _ rfl hok, hb⟩
  by_cases h : token.parseE r.tk = 0
  · exact fin ((tokR r).c : Int) ((tokR r).i : Int) ((tokR r).a : Int) ((tokR r).t : Int) (fun _ => ⟨rfl, rfl, rfl⟩) (by unfold token.parseV; rw [if_pos h]; rfl)
  · exact fin 0 0 0 0 (fun h' => absurd h' h) (by unfold token.parseV; rw [if_neg h]; rfl)
theorem kcheck {w : World} (ht : token.TTab w) : KrCheck w := fun W r hb _ => check_any r W (ht.below hb)

end Go.Proofs.YtlicdeppfhmfjaaGreatDoor.rcp

/- A builder that lies at the head of a paper: what its methods do there. -/
namespace Go.Proofs.YtlicdeppfhmfjaaGreatDoor.rcb
open Go.RowKit
set_option maxRecDepth 100000

def TP : TypeId := 65
def TU : TypeId := 5
/-- The paper in block b holds these bytes. -/
def Sb (B b : Nat) (bs : List Value) (w : World) : Prop := Lib.IsBuilder TP TU B b bs w
/-- .. and was written on. -/
def Su (B b : Nat) (bs : List Value) (w : World) : Prop := Lib.BuilderAt TP TU B b (.pointer (some ⟨b, 0, none⟩)) bs w
theorem Su.sb {B b : Nat} {bs : List Value} {w : World} (h : Su B b bs w) : Sb B b bs w := .inr h
theorem infoB : ∃ i, Tryz.prog.info? 5 = some i ∧ i.zero = some (.int .u8 0) ∧ i.size = 1 ∧ i.bytes = 1 := info_parts (by kernel_rfl)
theorem infoS : (Tryz.prog.info? 63).map (·.size) = some 2 := by kernel_rfl
theorem lies : liesAt Tryz.prog Tryz.prog.depth TP (2 / Tryz.prog.cellsOf TP) 0 63 1 = true := by kernel_rfl
theorem neP : TP ≠ TU := by decide

set_option maxHeartbeats 1000000 in
theorem copy_used (b : Nat) (w : World) (h0 : w.cell? ⟨b, 0, none⟩ = some (.pointer (some ⟨b, 0, none⟩))) :
    Calls Tryz.prog 96 #[.pointer (some ⟨b, 0, none⟩)] w fun e w' => e = .returned (.tuple #[]) ∧ w' = w := by
  obtain ⟨j, hj, _⟩ := Option.map_eq_some_iff.1 infoS
  go_enter Tryz.func96, Tryz.ntmps96
  go_wp2
  rw [Lib.run_neq_ptr_same w _ Tryz.underlying60 hj]
  go_wp2
  go_end0
  exact ⟨rfl, rfl⟩

set_option maxHeartbeats 1000000 in
theorem copy_fresh (b : Nat) (w : World) (h0 : w.cell? ⟨b, 0, none⟩ = some (.pointer none)) (hsh : w.shape? b = some (TP, 2)) (hfz : w.frozen? ⟨b, 0, none⟩ = false) :
    Calls Tryz.prog 96 #[.pointer (some ⟨b, 0, none⟩)] w fun e w' => e = .returned (.tuple #[]) ∧ w' = w.setCell ⟨b, 0, none⟩ (.pointer (some ⟨b, 0, none⟩)) := by
  obtain ⟨j, hj, hjs⟩ := Option.map_eq_some_iff.1 infoS
  go_enter Tryz.func96, Tryz.ntmps96
  go_wp2
  rw [Lib.run_to_unsafe w ⟨b, 0, none⟩ Tryz.underlying60 Tryz.underlying175 hj (by rw [hjs]; decide) hsh (Nat.zero_lt_succ 1)]
  simp only [Result.andThen]
  rw [Oper.upon_value]
  go_wp2
  rw [run_callFunc_extern Tryz.func134 (by kernel_rfl) (by kernel_rfl) (by kernel_rfl) (e := Extern.AbiNoEscape.same) (by kernel_rfl)]
  rw [Lib.run_noEscape]
  simp only [Result.andThen]
  rw [Oper.upon_value]
  go_wp2
  rw [Lib.run_from_unsafe w ⟨b, 0, none⟩ Tryz.underlying175 Tryz.underlying60 hj hsh lies]
  simp only [Result.andThen]
  rw [Oper.upon_value]
  go_wp2
  go_end0
  exact ⟨rfl, rfl⟩

theorem copy_any (B b : Nat) (bs : List Value) (w : World) (h : Sb B b bs w) :
    Calls Tryz.prog 96 #[.pointer (some ⟨b, 0, none⟩)] w fun e w' => e = .returned (.tuple #[]) ∧ Su B b bs w' ∧ Below B w w' := by
  rcases h with h | h
  · refine (copy_fresh b w h.cell0 h.shape h.frozen0).mono ?_
    rintro e w' ⟨rfl, rfl⟩
    exact ⟨rfl, h.used _, (Below.refl B w).setCell (p := ⟨b, 0, none⟩) h.1 _⟩
  · refine (copy_used b w h.cell0).mono ?_
    rintro e w' ⟨rfl, rfl⟩
    exact ⟨rfl, h, Below.refl B _⟩

theorem lt_of {w : World} {b : Nat} {o : Obj} (h : w.heap[b]? = some o) : b < w.heap.size := by
  rcases Nat.lt_or_ge b w.heap.size with h' | h'
  · exact h'
  · simp [Array.getElem?_eq_none h'] at h

set_option maxHeartbeats 2000000 in
theorem byte_any (B b : Nat) (bs : List Value) (c : Int) (w : World) (h : Sb B b bs w) (hlen : bs.length + 1 ≤ 100000) (hBw : B ≤ w.heap.size) :
    Calls Tryz.prog 60 #[.pointer (some ⟨b, 0, none⟩), .int .u8 c] w fun e w' => e = .returned .nilIface ∧ Su B b (bs ++ [.int .u8 c]) w' ∧ Below B w w' := by
  obtain ⟨i0, hi, hz0, hz1, hz2⟩ := infoB
  have HC := copy_any B b bs w h
  clear h
  go_enter Tryz.func60, Tryz.ntmps60
  go_wp2_with fail
  refine HC.mono ?_
  rintro e w1 ⟨rfl, ⟨hB, v, hbk, hown, hne⟩, hb1⟩
  clear HC
  have c0 : w1.cell? ⟨b, 0, none⟩ = some (.pointer (some ⟨b, 0, none⟩)) := by rw [Lib.cell_of_heap hbk]; rfl
  have c1 : w1.cell? ⟨b, 1, none⟩ = some v := by rw [Lib.cell_of_heap hbk]; rfl
  have hs1 := hb1.size
  go_wp2_with (at_builtin; refine wpList_append_own _ rfl _ _ 61 rfl B TU i0 (.int .u8 0) 1 1 Tryz.underlying61 hi hz0 hz1 hz2 rfl (by decide) _ _ _ rfl (hown.alloc _) ⟨w1.heap.size, 0, none⟩ 1 1 [.int .u8 c] rfl rfl ?c1 ?c2 ?c3 ?c4 ?c5 ?_)
  case c1 =>
    intro j u hj
    match j, hj with
    | 0, hj => simp at hj; subst hj; simp [Addr.add]
  case c2 => intro u hu; simp at hu; subst hu; rfl
  case c3 => unfold maxLen; omega
  case c4 => omega
  case c5 => simp; omega
  intro v' w2 hown' hgrow _
  have hlt := lt_of hbk
  have hb2 : w2.heap[b]? = some (.cells #[.pointer (some ⟨b, 0, none⟩), v] TP (0, 0)) := by
    rw [hgrow.block b (by simp; omega) (fun e => hne e.symm), Lib.alloc_old w1 _ b hlt]
    exact hbk
  have d0 : w2.cell? ⟨b, 0, none⟩ = some (.pointer (some ⟨b, 0, none⟩)) := by rw [Lib.cell_of_heap hb2]; rfl
  have d1 : w2.cell? ⟨b, 1, none⟩ = some v := by rw [Lib.cell_of_heap hb2]; rfl
  have f1 : w2.frozen? ⟨b, 1, none⟩ = false := Lib.frozen_of_heap hb2 1
  obtain ⟨g, cap, rfl⟩ : ∃ g cap, v' = .slice (some ⟨g, 0, none⟩) (bs.length + 1) cap := by
    rcases hown'.2 with ⟨_, h0⟩ | ⟨g, cap, cur, hv, _⟩
    · omega
    · exact ⟨g, cap, hv⟩
  go_wp2
  go_ret
  refine ⟨rfl, ?_, ?_⟩
  · exact Lib.BuilderAt.put (T := TP) (e := TU) hB hb2 (bs' := bs ++ [.int .u8 c]) (by simpa using hown') neP
  · exact ((hb1.alloc (by omega) _).grown hgrow (by simp; omega) (fun k hk => (hown.lt k hk).1)).setCell (p := ⟨b, 1, none⟩) hB _

set_option maxHeartbeats 2000000 in
theorem str_any (B b : Nat) (bs : List Value) (s : ByteArray) (w : World) (h : Sb B b bs w) (hlen : bs.length + s.size ≤ 100000) (hBw : B ≤ w.heap.size) :
    Calls Tryz.prog 59 #[.pointer (some ⟨b, 0, none⟩), .string s] w fun e w' => e = .returned (.tuple #[.int .i64 s.size, .nilIface]) ∧ Su B b (bs ++ Lib.strCells s) w' ∧ Below B w w' := by
  obtain ⟨i0, hi, hz0, hz1, hz2⟩ := infoB
  have HC := copy_any B b bs w h
  clear h
  go_enter Tryz.func59, Tryz.ntmps59
  go_wp2_with fail
  refine HC.mono ?_
  rintro e w1 ⟨rfl, ⟨hB, v, hbk, hown, hne⟩, hb1⟩
  clear HC
  have c0 : w1.cell? ⟨b, 0, none⟩ = some (.pointer (some ⟨b, 0, none⟩)) := by rw [Lib.cell_of_heap hbk]; rfl
  have c1 : w1.cell? ⟨b, 1, none⟩ = some v := by rw [Lib.cell_of_heap hbk]; rfl
  have hs1 := hb1.size
  go_wp2_with (at_builtin; refine Lib.wpList_append_own_string _ rfl _ _ 61 9 rfl B TU i0 Tryz.underlying61 Tryz.underlying9 hi hz0 hz1 hz2 _ _ _ rfl hown s rfl ?c3 ?c4 ?c5 ?_)
  case c3 => unfold maxLen; omega
  case c4 => omega
  case c5 => omega
  intro v' w2 hown' hgrow _
  have hlt := lt_of hbk
  have hb2 : w2.heap[b]? = some (.cells #[.pointer (some ⟨b, 0, none⟩), v] TP (0, 0)) := by
    rw [hgrow.block b hlt (fun e => hne e.symm)]
    exact hbk
  have d0 : w2.cell? ⟨b, 0, none⟩ = some (.pointer (some ⟨b, 0, none⟩)) := by rw [Lib.cell_of_heap hb2]; rfl
  have d1 : w2.cell? ⟨b, 1, none⟩ = some v := by rw [Lib.cell_of_heap hb2]; rfl
  have f1 : w2.frozen? ⟨b, 1, none⟩ = false := Lib.frozen_of_heap hb2 1
  obtain ⟨ao, n', cap, rfl⟩ : ∃ ao n' cap, v' = .slice ao n' cap := by
    rcases hown'.2 with ⟨hv, _⟩ | ⟨g, cap, cur, hv, _⟩
    · exact ⟨_, _, _, hv⟩
    · exact ⟨_, _, _, hv⟩
  go_wp2
  go_ret2
  refine ⟨rfl, ?_, ?_⟩
  · exact Lib.BuilderAt.put (T := TP) (e := TU) hB hb2 (bs' := bs ++ Lib.strCells s) (by simpa [Lib.strCells_length] using hown') neP
  · exact (hb1.grown hgrow (by omega) (fun k hk => (hown.lt k hk).1)).setCell (p := ⟨b, 1, none⟩) hB _

set_option maxHeartbeats 1000000 in
/-- What was written, as a text: at least one byte. -/
theorem text_any (B b : Nat) (l : List UInt8) (w : World) (h : Sb B b (Lib.byteCells l) w) (h0 : l ≠ []) :
    Calls Tryz.prog 35 #[.pointer (some ⟨b, 0, none⟩)] w fun e w' => e = .returned (.string ⟨l.toArray⟩) ∧ Below B w w' := by
  obtain ⟨p, hB, v, hbk, hown, hne⟩ : ∃ p, Lib.BuilderAt TP TU B b p (Lib.byteCells l) w := by
    rcases h with h | h
    · exact ⟨_, h⟩
    · exact ⟨_, h⟩
  have hl0 : l.length ≠ 0 := by simpa using h0
  rw [Lib.byteCells_length] at hown
  obtain ⟨g, cap, cur, rfl, hbg, hg, hnc, hcm, hcs, htake⟩ : ∃ g cap cur, v = .slice (some ⟨g, 0, none⟩) l.length cap ∧ B ≤ g ∧ w.heap[g]? = some (.cells cur TU (0, 0)) ∧ l.length ≤ cap ∧ cap ≤ maxLen ∧ cur.size = cap * 1 ∧ cur.toList.take (l.length * 1) = Lib.byteCells l := by
    rcases hown.2 with ⟨_, hz⟩ | ⟨g, cap, cur, hv, r⟩
    · exact absurd hz hl0
    · exact ⟨g, cap, cur, hv, r⟩
  have c1 : w.drew.cell? ⟨b, 1, none⟩ = some (.slice (some ⟨g, 0, none⟩) l.length cap) := by
    have : w.drew.heap[b]? = some (.cells #[p, .slice (some ⟨g, 0, none⟩) l.length cap] TP (0, 0)) := hbk
    rw [Lib.cell_of_heap this]; rfl
  have hg' : w.drew.heap[g]? = some (.cells cur 5 (0, 0)) := hg
  have hSD : (Builtin.unsafeSliceData_ #[61] 100 #[.slice (some ⟨g, 0, none⟩) l.length cap]).run Tryz.prog w.drew = .ok (.pointer (some ⟨g, 0, none⟩)) w.drew :=
    Lib.run_unsafeSliceData_row _ _ _ _ _ _ (by omega)
  have hUS : (Builtin.unsafeString_ #[100, 3] 9 #[.pointer (some ⟨g, 0, none⟩), .int .i64 l.length]).run Tryz.prog w.drew = .ok (.string ⟨l.toArray⟩) (w.drew.freeze ⟨g, 0, none⟩ l.length) := by
    refine Lib.run_unsafeString_row w.drew 100 3 9 5 Tryz.underlying100 (by kernel_rfl) g cur.size (by simp [World.shape?, hg']) l h0 (by omega) (by unfold maxLen at hcm; omega) ?_
    intro j x hx
    exact hown.cells (g := g) rfl j (.int .u8 x.toNat) (by simp [Lib.byteCells, hx])
  clear hg' hg hown hbk hcm hcs htake hnc hl0 h0
  go_enter Tryz.func35, Tryz.ntmps35
  go_wp2
  go_region
  all_goals (go_wp2; go_ret; exact ⟨rfl, Lib.below_freeze (Below.drew (Below.refl B w)) (p := ⟨g, 0, none⟩) hbg _⟩)

end Go.Proofs.YtlicdeppfhmfjaaGreatDoor.rcb

/- A line is written. -/
namespace Go.Proofs.YtlicdeppfhmfjaaGreatDoor.rcb
open Go.RowKit
set_option maxRecDepth 100000

theorem str_bytes (s : ByteArray) : Lib.strCells s = Lib.byteCells s.data.toList := rfl
theorem bytes_app (l m : List UInt8) : Lib.byteCells l ++ Lib.byteCells m = Lib.byteCells (l ++ m) := by simp [Lib.byteCells]
theorem bytes_one (c : UInt8) : [Value.int .u8 ((c.toNat : Nat) : Int)] = Lib.byteCells [c] := rfl

set_option maxHeartbeats 1000000 in
theorem line_any (B b : Nat) (l : List UInt8) (n t : ByteArray) (w : World) (h : Sb B b (Lib.byteCells l) w) (hl : l.length ≤ 1000) (hn : n.size ≤ 1000) (ht : t.size ≤ 1000) (hBw : B ≤ w.heap.size) :
    Calls Tryz.prog 31 #[.pointer (some ⟨b, 0, none⟩), .string n, .string t] w fun e w' => e = .returned (.tuple #[]) ∧ Sb B b (Lib.byteCells (l ++ rcp.line n.data.toList t.data.toList)) w' ∧ Below B w w' := by
  have hl' : (Lib.byteCells l).length = l.length := Lib.byteCells_length _
  have hn' : (Lib.strCells n).length = n.size := Lib.strCells_length _
  have ht' : (Lib.strCells t).length = t.size := Lib.strCells_length _
  have H1 := str_any B b (Lib.byteCells l) n w h (by omega) hBw
  clear h
  have HE : Hid (Lib.byteCells l ++ Lib.strCells n ++ [.int .u8 32] ++ Lib.strCells t ++ [.int .u8 10] = Lib.byteCells (l ++ rcp.line n.data.toList t.data.toList)) := by
    show _ = _
    rw [show [Value.int .u8 32] = Lib.byteCells [32] from rfl, show [Value.int .u8 10] = Lib.byteCells [10] from rfl, str_bytes, str_bytes, bytes_app, bytes_app, bytes_app, bytes_app]
    congr 1
    simp [rcp.line]
  go_enter Tryz.func31, Tryz.ntmps31
  go_wp2_with fail
  refine H1.mono ?_
  rintro e w1 ⟨rfl, h1, b1⟩
  clear H1
  have s1 := b1.size
  have H2 := byte_any B b _ 32 w1 h1.sb (by rw [List.length_append]; omega) (by omega)
  clear h1
  go_wp2_with fail
  refine H2.mono ?_
  rintro e w2 ⟨rfl, h2, b2⟩
  clear H2
  have s2 := b2.size
  have H3 := str_any B b _ t w2 h2.sb (by rw [List.length_append, List.length_append]; simp; omega) (by omega)
  clear h2
  go_wp2_with fail
  refine H3.mono ?_
  rintro e w3 ⟨rfl, h3, b3⟩
  clear H3
  have s3 := b3.size
  have H4 := byte_any B b _ 10 w3 h3.sb (by rw [List.length_append, List.length_append, List.length_append]; simp; omega) (by omega)
  clear h3
  go_wp2_with fail
  refine H4.mono ?_
  rintro e w4 ⟨rfl, h4, b4⟩
  clear H4
  rw [HE.out] at h4
  go_wp2_with fail
  go_end0
  exact ⟨rfl, h4.sb, ((b1.trans b2).trans b3).trans b4⟩

end Go.Proofs.YtlicdeppfhmfjaaGreatDoor.rcb

/- The paper's builder: what stays as it is. -/
namespace Go.Proofs.YtlicdeppfhmfjaaGreatDoor.rcb
open Go.RowKit
theorem own_next {w w' : World} {B : Nat} {e : TypeId} {k : Nat} {v : Value} {n : Nat} {xs : List Value} (h : w.ownsRow B e k v n xs) (hb : Below w.heap.size w w') : w'.ownsRow B e k v n xs := by
  refine ⟨h.1, ?_⟩
  rcases h.2 with hn | ⟨g, cap, cur, hv, hg, hc, rest⟩
  · exact .inl hn
  · exact .inr ⟨g, cap, cur, hv, hg, Blk.next hc hb, rest⟩
theorem at_next {B b : Nat} {p : Value} {bs : List Value} {w w' : World} (h : Lib.BuilderAt TP TU B b p bs w) (hb : Below w.heap.size w w') : Lib.BuilderAt TP TU B b p bs w' := by
  obtain ⟨h1, v, h2, h3, h4⟩ := h
  exact ⟨h1, v, Blk.next h2 hb, own_next h3 hb, h4⟩
theorem Sb.next {B b : Nat} {bs : List Value} {w w' : World} (h : Sb B b bs w) (hb : Below w.heap.size w w') : Sb B b bs w' := by
  rcases h with h | h
  · exact .inl (at_next h hb)
  · exact .inr (at_next h hb)
theorem Sb.fresh (w : World) : Sb w.heap.size w.heap.size (Lib.byteCells []) (w.alloc (.cells #[.pointer none, .slice none 0 0] 65)) := Lib.fresh_isBuilder TP TU w

set_option maxHeartbeats 1000000 in
theorem amount_any (B b : Nat) (l : List UInt8) (nm T : ByteArray) (n : Int) (w : World) (h : Sb B b (Lib.byteCells l) w) (hl : l.length ≤ 1000) (hn : nm.size ≤ 1000) (ht : T.size ≤ 1000) (hBw : B ≤ w.heap.size)
    (hC : Calls Tryz.prog 30 #[.int .i64 n] w fun e w' => e = .returned (.tuple #[.string T, .int .i64 0]) ∧ Below w.heap.size w w') :
    Calls Tryz.prog 29 #[.string nm, .int .i64 n, .pointer (some ⟨b, 0, none⟩)] w fun e w' => e = .returned (.tuple #[]) ∧ Sb B b (Lib.byteCells (l ++ rcp.line nm.data.toList T.data.toList)) w' ∧ Below B w w' := by
  have HS : Hid (Sb B b (Lib.byteCells l) w) := h
  clear h
  go_enter Tryz.func29, Tryz.ntmps29
  go_wp2_with fail
  refine hC.mono ?_
  rintro e w1 ⟨rfl, b1⟩
  have HL := line_any B b l nm T w1 (HS.out.next b1) hl hn ht (Nat.le_trans hBw b1.size)
  have HB1 : Hid (Below B w w1) := b1.mono hBw
  clear b1 hC HS
  go_wp2_with fail
  refine HL.mono ?_
  rintro e w2 ⟨rfl, h2, b2⟩
  have HB2 : Hid (Below B w w2) := HB1.out.trans b2
  have HS2 : Hid (Sb B b (Lib.byteCells (l ++ rcp.line nm.data.toList T.data.toList)) w2) := h2
  clear HL h2 b2 HB1
  go_wp2_with fail
  go_end0
  exact ⟨rfl, HS2.out, HB2.out⟩

end Go.Proofs.YtlicdeppfhmfjaaGreatDoor.rcb

/- Contracts of the library, laid at this dump in plain words: strings_Join, strings_Join_none. -/
namespace Go.Proofs
open Go.Shelf
def Tryz.lays156_ren : Go.Shelf.Ren := ⟨fun | 156 => 63 | 165 => 88 | 166 => 59 | 169 => 35 | 240 => 96 | 241 => 128 | 276 => 134 | 277 => 163 | n => n, fun | 31 => 45 | 9 => 9 | 3 => 3 | 4 => 4 | 0 => 0 | 20 => 20 | 72 => 63 | 76 => 78 | 70 => 60 | 37 => 61 | 75 => 77 | 127 => 100 | 164 => 175 | 5 => 5 | 80 => 69 | n => n, fun | n => n⟩
theorem Tryz.lays156 : Go.Proofs.Lays.n156 Tryz.prog Tryz.lays156_ren := {
  mixed := by kernel_rfl
  f156 := Tryz.func63.trans (congrArg some (by kernel_rfl))
  f165 := Tryz.func88.trans (congrArg some (by kernel_rfl))
  f166 := Tryz.func59.trans (congrArg some (by kernel_rfl))
  f169 := Tryz.func35.trans (congrArg some (by kernel_rfl))
  f240 := Tryz.func96.trans (congrArg some (by kernel_rfl))
  f241 := Tryz.func128.trans (congrArg some (by kernel_rfl))
  f276 := Tryz.func134.trans (congrArg some (by kernel_rfl))
  f277 := Tryz.func163.trans (congrArg some (by kernel_rfl))
  t0 := Tryz.underlying0
  a0 := Tryz.isAgg0
  z0 := Tryz.sizeOf0
  v0 := Tryz.zeroValue0
  t3 := Tryz.underlying3
  a3 := Tryz.isAgg3
  z3 := Tryz.sizeOf3
  v3 := Tryz.zeroValue3
  t4 := Tryz.underlying4
  a4 := Tryz.isAgg4
  z4 := Tryz.sizeOf4
  v4 := Tryz.zeroValue4
  t9 := Tryz.underlying9
  a9 := Tryz.isAgg9
  z9 := Tryz.sizeOf9
  v9 := Tryz.zeroValue9
  t20 := Tryz.underlying20
  a20 := Tryz.isAgg20
  z20 := Tryz.sizeOf20
  v20 := Tryz.zeroValue20
  t31 := Tryz.underlying45
  a31 := Tryz.isAgg45
  z31 := Tryz.sizeOf45
  v31 := Tryz.zeroValue45
  t37 := Tryz.underlying61
  a37 := Tryz.isAgg61
  z37 := Tryz.sizeOf61
  v37 := Tryz.zeroValue61
  t70 := Tryz.underlying60
  a70 := Tryz.isAgg60
  z70 := Tryz.sizeOf60
  v70 := Tryz.zeroValue60
  t72 := Tryz.underlying63
  a72 := Tryz.isAgg63
  z72 := Tryz.sizeOf63
  v72 := Tryz.zeroValue63
  t75 := Tryz.underlying77
  a75 := Tryz.isAgg77
  z75 := Tryz.sizeOf77
  v75 := Tryz.zeroValue77
  t76 := Tryz.underlying78
  a76 := Tryz.isAgg78
  z76 := Tryz.sizeOf78
  v76 := Tryz.zeroValue78
  t127 := Tryz.underlying100
  a127 := Tryz.isAgg100
  z127 := Tryz.sizeOf100
  v127 := Tryz.zeroValue100
  t164 := Tryz.underlying175
  a164 := Tryz.isAgg175
  z164 := Tryz.sizeOf175
  v164 := Tryz.zeroValue175 }
theorem Tryz.Builder_Extra_156 : Builder.Extra Tryz.prog Tryz.lays156_ren := {
  sizeBuilder := by kernel_rfl
  liesBuilder := by kernel_rfl
  t5 := Tryz.underlying5
  a5 := Tryz.isAgg5
  z5 := Tryz.sizeOf5
  v5 := Tryz.zeroValue5
  infoByte := by kernel_rfl
  cellsByte := by kernel_rfl
  sizeByte := by kernel_rfl
  neB5 := by decide }
open Go.RowKit in
theorem Tryz.strings_Join_none (a : Option Addr) (c : Nat) (sep : ByteArray) (w : World) :
    Calls Tryz.prog 63 #[.slice a 0 c, .string sep] w fun e w' => e = .returned (.string ⟨#[]⟩) ∧ w' = w := Any.strings_Join_none Tryz.lays156 Tryz.Builder_Extra_156 a c sep w
open Go.RowKit in
theorem Tryz.strings_Join (bk o c : Nat) (xs : List ByteArray) (sep : ByteArray) (w : World) (hcells : ∀ (j : Nat) x, xs[j]? = some x → w.cell? ⟨bk, o + j, none⟩ = some (.string x)) (hbk : bk < w.heap.size) (hN : xs.length ≤ 140737488355328) (hcap : xs.length ≤ c) (hlen : (Lib.join (xs.map (·.data.toList)) sep.data.toList).length ≤ 140737488355328) :
    Calls Tryz.prog 63 #[.slice (some ⟨bk, o, none⟩) xs.length c, .string sep] w fun e w' => e = .returned (.string ⟨(Lib.join (xs.map (·.data.toList)) sep.data.toList).toArray⟩) ∧ Below w.heap.size w w' := Any.strings_Join Tryz.lays156 Tryz.Builder_Extra_156 bk o c xs sep w hcells hbk hN hcap hlen
end Go.Proofs

/- Rows of texts that a call owns. -/
namespace Go.Proofs.YtlicdeppfhmfjaaGreatDoor.rcp
open Go.RowKit
set_option maxRecDepth 100000

def cellsS (l : List ByteArray) : List Value := l.map Value.string
theorem oneS (l : List ByteArray) : ∀ u ∈ cellsS l, u.oneCell' = true := fun u hu => by
  obtain ⟨s, _, rfl⟩ := List.mem_map.1 hu
  rfl
/-- Texts (of the kind T) that nobody else holds. -/
def Ls (T : TypeId) (w : World) (base : Nat) (v : Value) (l : List ByteArray) : Prop := w.ownsRow base T 1 v l.length (cellsS l)
theorem Ls.zero (T : TypeId) (w : World) (base : Nat) : Ls T w base (.slice none 0 0) [] := World.ownsRow_nil _ _ _ _
theorem Ls.alloc {T : TypeId} {w : World} {base : Nat} {v : Value} {l : List ByteArray} (h : Ls T w base v l) (o : Obj) : Ls T (w.alloc o) base v l := World.ownsRow.alloc h o
theorem Ls.next {T : TypeId} {w w' : World} {base : Nat} {v : Value} {l : List ByteArray} (h : Ls T w base v l) (hb : Below w.heap.size w w') : Ls T w' base v l := by
  refine ⟨h.1, ?_⟩
  rcases h.2 with hn | ⟨g, cap, cur, hv, hg, hc, rest⟩
  · exact .inl hn
  · exact .inr ⟨g, cap, cur, hv, hg, Blk.next hc hb, rest⟩
theorem Ls.row {T : TypeId} {w : World} {base : Nat} {v : Value} {l : List ByteArray} (h : Ls T w base v l) (h0 : 0 < l.length) : ∃ g cap, v = .slice (some ⟨g, 0, none⟩) l.length cap ∧ base ≤ g ∧ g < w.heap.size ∧ l.length ≤ cap ∧ ∀ i, i < l.length → w.cell? ⟨g, i, none⟩ = some (.string (l.getD i ByteArray.empty)) := by
  rcases h.2 with ⟨hv, hn⟩ | ⟨g, cap, cur, hv, hg, hc, h1, _⟩
  · omega
  · subst hv
    refine ⟨g, cap, rfl, hg, Blk.lt hc, h1, fun i hi => ?_⟩
    have e1 := World.ownsRow.cellAt h i (by omega)
    rw [e1]
    simp [cellsS, List.getD, hi]
theorem Ls.len {T : TypeId} {w : World} {base : Nat} {v : Value} {l : List ByteArray} (h : Ls T w base v l) : ∃ a cap, v = .slice a l.length cap := by
  rcases h.2 with ⟨hv, hn⟩ | ⟨g, cap, cur, hv, _⟩
  · exact ⟨none, 0, by rw [hn]; exact hv⟩
  · exact ⟨_, cap, hv⟩
/-- What is to be known of a kind T of texts, whose slices are S. -/
structure TextT (P : Program) (T S : TypeId) : Prop where
  info : (P.info? T).map (fun i => (i.zero, i.size, i.bytes)) = some (some (.string ByteArray.empty), 1, 16)
  under : P.underlying S = some (.slice T)
/-- One text is put behind the others. -/
theorem wp_str {P : Program} {T S : TypeId} (hP : TextT P T S) {w : World} {ops : Array Oper} {rest : List Oper} {o : Oper} {a : Act} {Q : Exit → Act → World → Prop} (hgd : o.guard = none) (s x : Operand)
    (ho : o.op = .call { callee := .builtin .append, args := #[s, x], argTypes := #[S, S] })
    (base G : Nat) (v : Value) (l : List ByteArray) (r : ByteArray) (hs : a.eval s = v) (hx : a.eval x = .slice (some ⟨G, 0, none⟩) 1 1) (hv : Ls T w base v l) (hu : w.cell? ⟨G, 0, none⟩ = some (.string r)) (hn : l.length ≤ 1000000) (hbase : base ≤ w.heap.size)
    (h : ∀ v' w', Ls T w' base v' (l ++ [r]) → w.grownBy w' v.ownBlock → wpList P ops Q rest (a.put o.dst v') w') : wpList P ops Q (o :: rest) a w := by
  obtain ⟨i0, hi, hz0, hz1, hz2⟩ := info_parts hP.info
  refine wpList_append_own w hgd s x S ho base T i0 (.string ByteArray.empty) 1 16 hP.under hi hz0 hz1 hz2 rfl (by decide) v l.length (cellsS l) hs hv ⟨G, 0, none⟩ 1 1 (cellsS [r]) hx rfl ?_ (oneS [r]) (by unfold maxLen; omega) (by omega) hbase ?_
  · intro j u hj
    match j, hj with
    | 0, hj => simp [cellsS] at hj; subst hj; simpa [Addr.add] using hu
    | j + 1, hj => simp [cellsS] at hj
  intro v' w' h1 h2 _
  refine h v' w' ?_ h2
  unfold Ls
  rw [List.length_append]
  unfold cellsS at *
  rw [List.map_append]
  exact h1

end Go.Proofs.YtlicdeppfhmfjaaGreatDoor.rcp

/- Twenty digits, four by four, in the program. -/
namespace Go.Proofs.YtlicdeppfhmfjaaGreatDoor.rcf
open Go.Proofs.YtlicdeppfhmfjaaGreatDoor.rcp (Ls wp_str TextT four)
open Go.RowKit
set_option maxRecDepth 100000
set_option linter.unusedVariables false

theorem textT : TextT Tryz.prog 9 45 := ⟨by kernel_rfl, Tryz.underlying45⟩
def szOf : Value → Nat
  | .string s => s.size
  | _ => 0
/-- The first k groups. -/
def grp (l : List UInt8) (k : Nat) : List (List UInt8) := (List.range k).map fun i => (l.drop (4 * i)).take 4
def lists (l : List ByteArray) : List (List UInt8) := l.map fun s => s.data.toList
theorem grp_snoc (l : List UInt8) (k : Nat) : grp l (k + 1) = grp l k ++ [(l.drop (4 * k)).take 4] := by
  unfold grp; rw [List.range_succ, List.map_append]; rfl
theorem lists_snoc (l : List ByteArray) (s : ByteArray) : lists (l ++ [s]) = lists l ++ [s.data.toList] := by unfold lists; rw [List.map_append]; rfl
theorem join_grp {l : List UInt8} (h : l.length = 20) : Lib.join (grp l 5) [32] = four l := by
  match l, h with
  | [a, b, c, d, e, f, g, i, j, l, m, n, o, p, q, r, s, t, u, v], _ => rfl
theorem ext_take (d : ByteArray) (k : Nat) : (d.extract 0 k).data.toList = d.data.toList.take k := by simp [ByteArray.data_extract]
theorem ext_drop (d : ByteArray) (k : Nat) : (d.extract k d.size).data.toList = d.data.toList.drop k := by
  simp [ByteArray.data_extract]
  exact List.take_of_length_le (by rw [List.length_drop, Array.length_toList]; exact Nat.le_refl _)

set_option maxHeartbeats 1000000 in
theorem fours_any (s : ByteArray) (w : World) (hs : s.size = 20) :
    Calls Tryz.prog 34 #[.string s] w fun e w' => e = .returned (.string ⟨(four s.data.toList).toArray⟩) ∧ Below w.heap.size w w' := by
  have HLN : Hid (s.data.toList.length = 20) := (Array.length_toList).trans hs
  have HS : Hid (s.size = 20) := hs
  clear hs
  go_enter Tryz.func34, Tryz.ntmps34
  go_wp2_with fail
  go_loopw [0, 3] (fun v0 v3 wr => ∃ (k : Nat) (D : ByteArray) (V : Value) (out : List ByteArray), k ≤ 5 ∧ D.size = 20 - 4 * k ∧ v0 = .string D ∧ V = v3 ∧ D.data.toList = s.data.toList.drop (4 * k) ∧ out.length = k ∧ lists out = grp s.data.toList k ∧ Ls 9 wr w.heap.size V out ∧ Below w.heap.size w wr) (fun v0 _ _ => szOf v0)
  case atStart => exact ⟨0, s, _, [], by decide, HS.out, rfl, rfl, rfl, rfl, rfl, Ls.zero _ _ _, Below.refl _ _⟩
  case round =>
    obtain ⟨k, D, V, out, hk, hD, rfl, hV, hDl, hol, hli, hls, hbel⟩ := hrel
    subst hV
    have HLS : Hid (Ls 9 wr w.heap.size V out) := hls
    have HDL : Hid (D.data.toList = s.data.toList.drop (4 * k)) := hDl
    have HLI : Hid (lists out = grp s.data.toList k) := hli
    have HBL : Hid (Below w.heap.size w wr) := hbel
    have HDS : Hid (D.size = 20 - 4 * k) := hD
    have HOL : Hid (out.length = k) := hol
    have hol6 : out.length ≤ 1000000 := by omega
    clear hls hDl hli hbel
    by_cases h5 : k = 5
    · have hne : D = ⟨#[]⟩ := by
        apply ByteArray.ext
        have : D.data.size = 0 := by show D.size = 0; omega
        exact Array.eq_empty_of_size_eq_zero this
      have HJ : Hid (∀ w', Below w.heap.size wr w' → True) := fun _ _ => trivial
      obtain ⟨g, cap, hV2, hg0, hg1, hcap, hcells⟩ := HLS.out.row (by omega)
      subst hV2 hne
      have HJN : Hid (Calls Tryz.prog 63 #[.slice (some ⟨g, 0, none⟩) out.length cap, .string ⟨#[32]⟩] wr fun e w' => e = .returned (.string ⟨(four s.data.toList).toArray⟩) ∧ Below wr.heap.size wr w') := by
        have hq : Lib.join (out.map (·.data.toList)) [32] = four s.data.toList := by
          have := HLI.out
          rw [h5] at this
          show Lib.join (lists out) [32] = _
          rw [this, join_grp HLN.out]
        have hfl : (four s.data.toList).length = 24 := rcp.four_len HLN.out
        have h := Tryz.strings_Join g 0 cap out ⟨#[32]⟩ wr (fun j x hx => by
          have hj : j < out.length := by
            rcases Nat.lt_or_ge j out.length with h | h
            · exact h
            · rw [List.getElem?_eq_none h] at hx; cases hx
          have := hcells j hj
          rw [List.getD_eq_getElem?_getD, hx] at this
          simpa using this) hg1 (by omega) hcap (by show (Lib.join (out.map (·.data.toList)) [32]).length ≤ _; rw [hq, hfl]; decide)
        have hq' : Lib.join (out.map (·.data.toList)) (⟨#[32]⟩ : ByteArray).data.toList = four s.data.toList := hq
        rw [hq'] at h
        exact h
      clear hcells hg0 hg1 hcap HLI HDL HDS HOL h5 hD hol hk
      go_wp2_with fail
      refine HJN.out.mono ?_
      rintro e w' ⟨rfl, hb⟩
      have HB2 : Hid (Below w.heap.size w w') := HBL.out.trans (hb.mono HBL.out.size)
      clear hb HJN
      go_wp2_with fail
      go_ret
      exact ⟨rfl, HB2.out⟩
    · have hD4 : 4 ≤ D.size := by omega
      have hne : D ≠ ⟨#[]⟩ := by rintro rfl; exact absurd hD4 (by decide)
      have hE : D.toList.isEmpty = false := by
        cases hx : D.toList.isEmpty with
        | false => rfl
        | true =>
          exfalso
          have h1 : D.toList = [] := List.isEmpty_iff.1 hx
          have h2 : D.data.toList = [] := by rw [← h1, ByteArray.toList_eq]
          have h3 : D.data.toList.length = D.size := Array.length_toList
          rw [h2] at h3
          simp at h3
          omega
      have HUA : Hid (∀ o, Ls 9 (wr.alloc o) w.heap.size V out) := fun o => HLS.out.alloc o
      have HBA : Hid (∀ o, Below w.heap.size w (wr.alloc o)) := fun o => HBL.out.alloc HBL.out.size o
      have HK : Hid (k < 5) := by show k < 5; omega
      clear hD hol hk h5
      go_wp2_with (first | (refine wp_str textT rfl _ _ rfl w.heap.size wr.heap.size V out (D.extract 0 4) rfl rfl (HUA.out _) ((Blk.new wr _ _).cell 0) hol6 (by have := HBL.out.size; simp; omega) ?_; intro v3 w3 h3 hg3; have HB3 : Hid (Below w.heap.size w w3) := tar.own_bel (HUA.out _) hg3 (HBA.out _) (Nat.le_refl _) (by have := HBL.out.size; simp; omega); have H3 : Hid (Ls 9 w3 w.heap.size v3 (out ++ [D.extract 0 4])) := h3; clear h3 hg3) | fail)
      go_roundw
      case rel =>
        refine ⟨k + 1, D.extract 4 D.size, v3, out ++ [D.extract 0 4], HK.out, ?_, rfl, rfl, ?_, ?_, ?_, H3.out, HB3.out⟩
        · have := HDS.out; rw [ByteArray.size_extract]; omega
        · rw [ext_drop, HDL.out, List.drop_drop]; congr 1
        · rw [List.length_append, HOL.out]; rfl
        · rw [lists_snoc, HLI.out, grp_snoc, ext_take, HDL.out]
      case measure => simp [szOf]; omega

end Go.Proofs.YtlicdeppfhmfjaaGreatDoor.rcf

/- receipt.Number: what is asked of it. -/
namespace Go.Proofs.YtlicdeppfhmfjaaGreatDoor.rcp
open Go.RowKit

def KrNumber (w0 : World) : Prop := ∀ (W : World) (m : Int), Below w0.heap.size w0 W → (Lit.int .i64 m).wf = true → Calls Tryz.prog 32 #[.int .i64 m] W fun e w' => NumPost W m e w'

end Go.Proofs.YtlicdeppfhmfjaaGreatDoor.rcp

/- Contracts of the library, laid at this dump in plain words: strconv_Itoa, strconv_Itoa_small. -/
namespace Go.Proofs
open Go.Shelf
def Tryz.laysM171_ren : Go.Shelf.Ren := ⟨fun | 171 => 33 | 243 => 62 | 246 => 100 | 283 => 139 | 284 => 140 | 285 => 141 | 286 => 142 | 129 => 167 | 317 => 166 | 318 => 168 | 319 => 169 | 320 => 170 | 337 => 177 | 338 => 178 | n => n, fun | 3 => 3 | 9 => 9 | 2 => 2 | 4 => 4 | 171 => 183 | 0 => 0 | 53 => 129 | 37 => 61 | 5 => 5 | 173 => 186 | 212 => 206 | 51 => 83 | 20 => 20 | 213 => 207 | 46 => 111 | 232 => 220 | 233 => 221 | n => n, fun | 17 => 4 | 18 => 9 | 19 => 10 | n => n⟩
theorem Tryz.laysM171 : Go.Proofs.LaysM.n171 Tryz.prog Tryz.laysM171_ren := {
  mixed := by kernel_rfl
  f129 := Tryz.func167.trans (congrArg some (by kernel_rfl))
  f171 := Tryz.func33.trans (congrArg some (by kernel_rfl))
  f243 := Tryz.func62.trans (congrArg some (by kernel_rfl))
  f246 := Tryz.func100.trans (congrArg some (by kernel_rfl))
  f283 := Tryz.func139.trans (congrArg some (by kernel_rfl))
  f284 := Tryz.func140.trans (congrArg some (by kernel_rfl))
  f285 := Tryz.func141.trans (congrArg some (by kernel_rfl))
  f286 := Tryz.func142.trans (congrArg some (by kernel_rfl))
  f317 := Tryz.func166.trans (congrArg some (by kernel_rfl))
  f318 := Tryz.func168.trans (congrArg some (by kernel_rfl))
  f319 := Tryz.func169.trans (congrArg some (by kernel_rfl))
  f320 := Tryz.func170.trans (congrArg some (by kernel_rfl))
  f337 := Tryz.func177.trans (congrArg some (by kernel_rfl))
  f338 := Tryz.func178.trans (congrArg some (by kernel_rfl))
  t0 := Tryz.underlying0
  a0 := Tryz.isAgg0
  z0 := Tryz.sizeOf0
  v0 := Tryz.zeroValue0
  t2 := Tryz.underlying2
  a2 := Tryz.isAgg2
  z2 := Tryz.sizeOf2
  v2 := Tryz.zeroValue2
  t3 := Tryz.underlying3
  a3 := Tryz.isAgg3
  z3 := Tryz.sizeOf3
  v3 := Tryz.zeroValue3
  t4 := Tryz.underlying4
  a4 := Tryz.isAgg4
  z4 := Tryz.sizeOf4
  v4 := Tryz.zeroValue4
  t5 := Tryz.underlying5
  a5 := Tryz.isAgg5
  z5 := Tryz.sizeOf5
  v5 := Tryz.zeroValue5
  t9 := Tryz.underlying9
  a9 := Tryz.isAgg9
  z9 := Tryz.sizeOf9
  v9 := Tryz.zeroValue9
  t20 := Tryz.underlying20
  a20 := Tryz.isAgg20
  z20 := Tryz.sizeOf20
  v20 := Tryz.zeroValue20
  t37 := Tryz.underlying61
  a37 := Tryz.isAgg61
  z37 := Tryz.sizeOf61
  v37 := Tryz.zeroValue61
  t46 := Tryz.underlying111
  a46 := Tryz.isAgg111
  z46 := Tryz.sizeOf111
  v46 := Tryz.zeroValue111
  t51 := Tryz.underlying83
  a51 := Tryz.isAgg83
  z51 := Tryz.sizeOf83
  v51 := Tryz.zeroValue83
  t53 := Tryz.underlying129
  a53 := Tryz.isAgg129
  z53 := Tryz.sizeOf129
  v53 := Tryz.zeroValue129
  t171 := Tryz.underlying183
  a171 := Tryz.isAgg183
  z171 := Tryz.sizeOf183
  v171 := Tryz.zeroValue183
  t173 := Tryz.underlying186
  a173 := Tryz.isAgg186
  z173 := Tryz.sizeOf186
  v173 := Tryz.zeroValue186
  t212 := Tryz.underlying206
  a212 := Tryz.isAgg206
  z212 := Tryz.sizeOf206
  v212 := Tryz.zeroValue206
  t213 := Tryz.underlying207
  a213 := Tryz.isAgg207
  z213 := Tryz.sizeOf207
  t232 := Tryz.underlying220
  a232 := Tryz.isAgg220
  z232 := Tryz.sizeOf220
  v232 := Tryz.zeroValue220
  t233 := Tryz.underlying221
  a233 := Tryz.isAgg221
  z233 := Tryz.sizeOf221
  v233 := Tryz.zeroValue221
  g17 := by kernel_rfl
  g18 := by kernel_rfl
  g19 := by kernel_rfl
  i0 := by kernel_rfl
  i2 := by kernel_rfl
  i3 := by kernel_rfl
  i4 := by kernel_rfl
  i5 := by kernel_rfl
  i9 := by kernel_rfl
  i20 := by kernel_rfl
  i37 := by kernel_rfl
  i46 := by kernel_rfl
  i51 := by kernel_rfl
  i53 := by kernel_rfl
  i171 := by kernel_rfl
  i173 := by kernel_rfl
  i212 := by kernel_rfl
  i232 := by kernel_rfl
  i233 := by kernel_rfl
  m17 := by kernel_rfl
  m18 := by kernel_rfl
  m19 := by kernel_rfl }
open Go.RowKit Go.Sort Go.Lib in
theorem Tryz.strconv_Itoa (n : Int) (h0 : -9223372036854775808 ≤ n) (h1 : n ≤ 9223372036854775807) (w : World) (htab : Lib.TabIs Tryz.prog w "internal/strconv.uint64pow10" .u64 Lib.pow10Tab) :
    Calls Tryz.prog 33 #[.int .i64 n] w fun e w' => e = .returned (.string ⟨(Lib.itoa n).toArray⟩) ∧ ∃ k os, w' = grow (w.drewN k) os := Any.strconv_Itoa Tryz.laysM171 n h0 h1 w htab
def Tryz.lays171_ren : Go.Shelf.Ren := ⟨fun | 171 => 33 | 243 => 62 | 246 => 100 | 283 => 139 | 284 => 140 | 285 => 141 | 286 => 142 | 129 => 167 | 317 => 166 | 318 => 168 | 319 => 169 | 320 => 170 | 337 => 177 | 338 => 178 | n => n, fun | 3 => 3 | 9 => 9 | 2 => 2 | 4 => 4 | 171 => 183 | 0 => 0 | 53 => 129 | 37 => 61 | 5 => 5 | 173 => 186 | 212 => 206 | 51 => 83 | 20 => 20 | 213 => 207 | 46 => 111 | 232 => 220 | 233 => 221 | n => n, fun | 17 => 4 | 18 => 9 | 19 => 10 | n => n⟩
theorem Tryz.lays171 : Go.Proofs.Lays.n171 Tryz.prog Tryz.lays171_ren := {
  mixed := by kernel_rfl
  f129 := Tryz.func167.trans (congrArg some (by kernel_rfl))
  f171 := Tryz.func33.trans (congrArg some (by kernel_rfl))
  f243 := Tryz.func62.trans (congrArg some (by kernel_rfl))
  f246 := Tryz.func100.trans (congrArg some (by kernel_rfl))
  f283 := Tryz.func139.trans (congrArg some (by kernel_rfl))
  f284 := Tryz.func140.trans (congrArg some (by kernel_rfl))
  f285 := Tryz.func141.trans (congrArg some (by kernel_rfl))
  f286 := Tryz.func142.trans (congrArg some (by kernel_rfl))
  f317 := Tryz.func166.trans (congrArg some (by kernel_rfl))
  f318 := Tryz.func168.trans (congrArg some (by kernel_rfl))
  f319 := Tryz.func169.trans (congrArg some (by kernel_rfl))
  f320 := Tryz.func170.trans (congrArg some (by kernel_rfl))
  f337 := Tryz.func177.trans (congrArg some (by kernel_rfl))
  f338 := Tryz.func178.trans (congrArg some (by kernel_rfl))
  t0 := Tryz.underlying0
  a0 := Tryz.isAgg0
  z0 := Tryz.sizeOf0
  v0 := Tryz.zeroValue0
  t2 := Tryz.underlying2
  a2 := Tryz.isAgg2
  z2 := Tryz.sizeOf2
  v2 := Tryz.zeroValue2
  t3 := Tryz.underlying3
  a3 := Tryz.isAgg3
  z3 := Tryz.sizeOf3
  v3 := Tryz.zeroValue3
  t4 := Tryz.underlying4
  a4 := Tryz.isAgg4
  z4 := Tryz.sizeOf4
  v4 := Tryz.zeroValue4
  t5 := Tryz.underlying5
  a5 := Tryz.isAgg5
  z5 := Tryz.sizeOf5
  v5 := Tryz.zeroValue5
  t9 := Tryz.underlying9
  a9 := Tryz.isAgg9
  z9 := Tryz.sizeOf9
  v9 := Tryz.zeroValue9
  t20 := Tryz.underlying20
  a20 := Tryz.isAgg20
  z20 := Tryz.sizeOf20
  v20 := Tryz.zeroValue20
  t37 := Tryz.underlying61
  a37 := Tryz.isAgg61
  z37 := Tryz.sizeOf61
  v37 := Tryz.zeroValue61
  t46 := Tryz.underlying111
  a46 := Tryz.isAgg111
  z46 := Tryz.sizeOf111
  v46 := Tryz.zeroValue111
  t51 := Tryz.underlying83
  a51 := Tryz.isAgg83
  z51 := Tryz.sizeOf83
  v51 := Tryz.zeroValue83
  t53 := Tryz.underlying129
  a53 := Tryz.isAgg129
  z53 := Tryz.sizeOf129
  v53 := Tryz.zeroValue129
  t171 := Tryz.underlying183
  a171 := Tryz.isAgg183
  z171 := Tryz.sizeOf183
  v171 := Tryz.zeroValue183
  t173 := Tryz.underlying186
  a173 := Tryz.isAgg186
  z173 := Tryz.sizeOf186
  v173 := Tryz.zeroValue186
  t212 := Tryz.underlying206
  a212 := Tryz.isAgg206
  z212 := Tryz.sizeOf206
  v212 := Tryz.zeroValue206
  t213 := Tryz.underlying207
  a213 := Tryz.isAgg207
  z213 := Tryz.sizeOf207
  t232 := Tryz.underlying220
  a232 := Tryz.isAgg220
  z232 := Tryz.sizeOf220
  v232 := Tryz.zeroValue220
  t233 := Tryz.underlying221
  a233 := Tryz.isAgg221
  z233 := Tryz.sizeOf221
  v233 := Tryz.zeroValue221
  g17 := by kernel_rfl
  g18 := by kernel_rfl
  g19 := by kernel_rfl }
open Go.RowKit Go.Sort Go.Lib in
theorem Tryz.strconv_Itoa_small (i : Nat) (hi : i < 100) (w : World) :
    Calls Tryz.prog 33 #[.int .i64 i] w fun e w' => e = .returned (.string ⟨(Lib.decDigits i).toArray⟩) ∧ w' = w := Any.strconv_Itoa_small Tryz.lays171 i hi w
end Go.Proofs

/- Contracts of the library, laid at this dump in plain words: strings_Repeat. -/
namespace Go.Proofs
open Go.Shelf
def Tryz.lays105_ren : Go.Shelf.Ren := ⟨fun | 105 => 52 | 212 => 86 | 99 => 87 | 165 => 88 | 166 => 59 | 170 => 89 | 169 => 35 | 263 => 125 | 264 => 126 | 206 => 127 | 240 => 96 | 241 => 128 | 276 => 134 | 277 => 163 | n => n, fun | 9 => 9 | 3 => 3 | 4 => 4 | 20 => 20 | 0 => 0 | 46 => 111 | 109 => 124 | 5 => 5 | 72 => 63 | 76 => 78 | 51 => 83 | 146 => 167 | 53 => 129 | 148 => 169 | 70 => 60 | 37 => 61 | 75 => 77 | 127 => 100 | 164 => 175 | 80 => 69 | n => n, fun | n => n⟩
theorem Tryz.lays105 : Go.Proofs.Lays.n105 Tryz.prog Tryz.lays105_ren := {
  mixed := by kernel_rfl
  f99 := Tryz.func87.trans (congrArg some (by kernel_rfl))
  f105 := Tryz.func52.trans (congrArg some (by kernel_rfl))
  f165 := Tryz.func88.trans (congrArg some (by kernel_rfl))
  f166 := Tryz.func59.trans (congrArg some (by kernel_rfl))
  f169 := Tryz.func35.trans (congrArg some (by kernel_rfl))
  f170 := Tryz.func89.trans (congrArg some (by kernel_rfl))
  f206 := Tryz.func127.trans (congrArg some (by kernel_rfl))
  f212 := Tryz.func86.trans (congrArg some (by kernel_rfl))
  f240 := Tryz.func96.trans (congrArg some (by kernel_rfl))
  f241 := Tryz.func128.trans (congrArg some (by kernel_rfl))
  f263 := Tryz.func125.trans (congrArg some (by kernel_rfl))
  f264 := Tryz.func126.trans (congrArg some (by kernel_rfl))
  f276 := Tryz.func134.trans (congrArg some (by kernel_rfl))
  f277 := Tryz.func163.trans (congrArg some (by kernel_rfl))
  t0 := Tryz.underlying0
  a0 := Tryz.isAgg0
  z0 := Tryz.sizeOf0
  v0 := Tryz.zeroValue0
  t3 := Tryz.underlying3
  a3 := Tryz.isAgg3
  z3 := Tryz.sizeOf3
  v3 := Tryz.zeroValue3
  t4 := Tryz.underlying4
  a4 := Tryz.isAgg4
  z4 := Tryz.sizeOf4
  v4 := Tryz.zeroValue4
  t5 := Tryz.underlying5
  a5 := Tryz.isAgg5
  z5 := Tryz.sizeOf5
  v5 := Tryz.zeroValue5
  t9 := Tryz.underlying9
  a9 := Tryz.isAgg9
  z9 := Tryz.sizeOf9
  v9 := Tryz.zeroValue9
  t20 := Tryz.underlying20
  a20 := Tryz.isAgg20
  z20 := Tryz.sizeOf20
  v20 := Tryz.zeroValue20
  t37 := Tryz.underlying61
  a37 := Tryz.isAgg61
  z37 := Tryz.sizeOf61
  v37 := Tryz.zeroValue61
  t46 := Tryz.underlying111
  a46 := Tryz.isAgg111
  z46 := Tryz.sizeOf111
  v46 := Tryz.zeroValue111
  t51 := Tryz.underlying83
  a51 := Tryz.isAgg83
  z51 := Tryz.sizeOf83
  v51 := Tryz.zeroValue83
  t53 := Tryz.underlying129
  a53 := Tryz.isAgg129
  z53 := Tryz.sizeOf129
  v53 := Tryz.zeroValue129
  t70 := Tryz.underlying60
  a70 := Tryz.isAgg60
  z70 := Tryz.sizeOf60
  v70 := Tryz.zeroValue60
  t72 := Tryz.underlying63
  a72 := Tryz.isAgg63
  z72 := Tryz.sizeOf63
  v72 := Tryz.zeroValue63
  t75 := Tryz.underlying77
  a75 := Tryz.isAgg77
  z75 := Tryz.sizeOf77
  v75 := Tryz.zeroValue77
  t76 := Tryz.underlying78
  a76 := Tryz.isAgg78
  z76 := Tryz.sizeOf78
  v76 := Tryz.zeroValue78
  t109 := Tryz.underlying124
  a109 := Tryz.isAgg124
  z109 := Tryz.sizeOf124
  v109 := Tryz.zeroValue124
  t127 := Tryz.underlying100
  a127 := Tryz.isAgg100
  z127 := Tryz.sizeOf100
  v127 := Tryz.zeroValue100
  t146 := Tryz.underlying167
  a146 := Tryz.isAgg167
  z146 := Tryz.sizeOf167
  v146 := Tryz.zeroValue167
  t148 := Tryz.underlying169
  a148 := Tryz.isAgg169
  z148 := Tryz.sizeOf169
  v148 := Tryz.zeroValue169
  t164 := Tryz.underlying175
  a164 := Tryz.isAgg175
  z164 := Tryz.sizeOf175
  v164 := Tryz.zeroValue175 }
theorem Tryz.Builder_Extra_105 : Builder.Extra Tryz.prog Tryz.lays105_ren := {
  sizeBuilder := by kernel_rfl
  liesBuilder := by kernel_rfl
  t5 := Tryz.underlying5
  a5 := Tryz.isAgg5
  z5 := Tryz.sizeOf5
  v5 := Tryz.zeroValue5
  infoByte := by kernel_rfl
  cellsByte := by kernel_rfl
  sizeByte := by kernel_rfl
  neB5 := by decide }
open Go.RowKit Go.Lib in
theorem Tryz.strings_Repeat (s : ByteArray) (c : Nat) (w : World) (hc : c ≤ 9223372036854775807) (hlen : s.size * c ≤ 140737488355328) :
    Calls Tryz.prog 52 #[.string s, .int .i64 c] w fun e w' => e = .returned (.string ⟨(Lib.repeatL s.data.toList c).toArray⟩) ∧ Below w.heap.size w w' := Any.strings_Repeat Tryz.lays105 Tryz.Builder_Extra_105 s c w hc hlen
end Go.Proofs

/- A meter's number, in the program. -/
namespace Go.Proofs.YtlicdeppfhmfjaaGreatDoor.rcp
open Go.Proofs.YtlicdeppfhmfjaaGreatDoor.check (digitR MTab digit_any flawR)
open Go.RowKit
set_option maxRecDepth 100000
set_option linter.unusedVariables false

theorem rep_noughts (k : Nat) : Lib.repeatL [48] k = List.replicate k 48 := by
  induction k with
  | zero => rfl
  | succ k ih => simp [Lib.repeatL, List.replicate_succ] at *; exact ih
theorem dec_len2 : ∀ m : Nat, m < 50 → (Lib.decDigits m).length = (if m < 10 then 1 else 2) := by decide +kernel
theorem digit_bd : ∀ m : Nat, m < 50 → 0 ≤ digitR (pad m 10) ∧ digitR (pad m 10) < 10 := by decide +kernel
theorem itoa_2 (n : Int) (w : World) (h0 : 0 ≤ n) (h1 : n < 100) :
    Calls Tryz.prog 33 #[.int .i64 n] w fun e w' => e = .returned (.string ⟨(Lib.decDigits n.toNat).toArray⟩) ∧ w' = w := by
  obtain ⟨i, rfl⟩ := Int.eq_ofNat_of_zero_le h0
  exact Tryz.strconv_Itoa_small i (by omega) w

set_option maxHeartbeats 1000000 in
theorem number_abs (m d : Nat) (f : Int) (X Y Z PX : ByteArray) (w : World) (hm : m ≤ 49) (hX : X.size = (if m < 10 then 1 else 2)) (hY : Y.size ≤ 10) (hZ : Z.size ≤ 10) (hPX : PX = Y ++ X)
    (hI : ∀ w, Calls Tryz.prog 25 #[.int .i64 (m : Int)] w fun e w' => e = .returned (.bool true) ∧ Below w.heap.size w w')
    (hA : ∀ w, Calls Tryz.prog 33 #[.int .i64 (m : Int)] w fun e w' => e = .returned (.string X) ∧ w' = w)
    (hR : ∀ (w : World) (k : Int), k = ((10 - X.size : Nat) : Int) → Calls Tryz.prog 52 #[.string ⟨#[48]⟩, .int .i64 k] w fun e w' => e = .returned (.string Y) ∧ Below w.heap.size w w')
    (hD : ∀ w', Below w.heap.size w w' → Calls Tryz.prog 61 #[.string PX] w' fun e w'' => e = .returned (.tuple #[.int .i64 (d : Int), .int .i64 f]) ∧ Below w'.heap.size w' w'')
    (hB : ∀ w, Calls Tryz.prog 33 #[.int .i64 (d : Int)] w fun e w' => e = .returned (.string Z) ∧ w' = w) :
    Calls Tryz.prog 32 #[.int .i64 (m : Int)] w fun e w' => e = .returned (.tuple #[.string (PX ++ Z), .int .i64 0]) ∧ Below w.heap.size w w' := by
  have HI : Hid (∀ w, Calls Tryz.prog 25 #[.int .i64 (m : Int)] w fun e w' => e = .returned (.bool true) ∧ Below w.heap.size w w') := hI
  have HA : Hid (∀ w, Calls Tryz.prog 33 #[.int .i64 (m : Int)] w fun e w' => e = .returned (.string X) ∧ w' = w) := hA
  have HR : Hid (∀ (w : World) (k : Int), k = ((10 - X.size : Nat) : Int) → Calls Tryz.prog 52 #[.string ⟨#[48]⟩, .int .i64 k] w fun e w' => e = .returned (.string Y) ∧ Below w.heap.size w w') := hR
  have HD : Hid (∀ w', Below w.heap.size w w' → Calls Tryz.prog 61 #[.string (Y ++ X)] w' fun e w'' => e = .returned (.tuple #[.int .i64 (d : Int), .int .i64 f]) ∧ Below w'.heap.size w' w'') := hPX ▸ hD
  have HB : Hid (∀ w, Calls Tryz.prog 33 #[.int .i64 (d : Int)] w fun e w' => e = .returned (.string Z) ∧ w' = w) := hB
  have hX2 : X.size ≤ 2 := by split at hX <;> omega
  have hw : IntKind.i64.wrap (10 - (X.size : Int)) = 10 - (X.size : Int) := by rw [IntKind.wrap_i64]; omega
  have HK : Hid (10 - (X.size : Int) = ((10 - X.size : Nat) : Int)) := by show _ = _; omega
  have hs1 : ¬ (9223372036854775807 < Y.size + X.size) := by omega
  have hs2 : ¬ (9223372036854775807 < Y.size + X.size + Z.size) := by omega
  subst hPX
  clear hI hA hR hD hB hX hm
  go_enter Tryz.func32, Tryz.ntmps32
  go_wp2_with fail
  refine (HI.out _).mono ?_
  rintro e w1 ⟨rfl, hb⟩
  have HB1 : Hid (Below w.heap.size w w1) := hb
  clear hb HI
  go_wp2_with fail
  refine (HA.out _).mono ?_
  rintro e w1' ⟨rfl, rfl⟩
  clear HA
  go_wp2_with fail
  refine (HR.out _ _ HK.out).mono ?_
  rintro e w2 ⟨rfl, hb⟩
  have HB2 : Hid (Below w.heap.size w w2) := HB1.out.trans (hb.mono HB1.out.size)
  clear hb HR HB1
  go_wp2_with fail
  refine (HD.out _ HB2.out).mono ?_
  rintro e w3 ⟨rfl, hb⟩
  have HB3 : Hid (Below w.heap.size w w3) := HB2.out.trans (hb.mono HB2.out.size)
  clear hb HD HB2
  go_wp2_with fail
  refine (HB.out _).mono ?_
  rintro e w3' ⟨rfl, rfl⟩
  clear HB
  go_wp2_with fail
  go_ret2
  exact ⟨rfl, HB3.out⟩

set_option maxHeartbeats 1000000 in
theorem number_no (m : Int) (w : World) (h : ¬ MMay m) :
    Calls Tryz.prog 32 #[.int .i64 m] w fun e w' => e = .returned (.tuple #[.string ⟨#[]⟩, .int .i64 18]) ∧ Below w.heap.size w w' := by
  have HI := rci.isMeter_any m w
  rw [decide_eq_false (show ¬ (0 ≤ m ∧ m ≤ 49) from h)] at HI
  clear h
  go_enter Tryz.func32, Tryz.ntmps32
  go_wp2_with fail
  refine HI.mono ?_
  rintro e w1 ⟨rfl, hb⟩
  clear HI
  go_wp2_with fail
  go_ret2
  exact ⟨rfl, hb⟩

theorem pnumber_any (m : Int) (w : World) (ht : MTab w) : Calls Tryz.prog 32 #[.int .i64 m] w fun e w' => NumPost w m e w' := by
  by_cases h : MMay m
  · obtain ⟨n, rfl⟩ : ∃ n : Nat, m = (n : Int) := ⟨m.toNat, by have := h.1; omega⟩
    have hn : n ≤ 49 := by have := h.2; omega
    obtain ⟨d0, d1⟩ := digit_bd n (by omega)
    obtain ⟨d, hd⟩ : ∃ d : Nat, digitR (pad n 10) = (d : Int) := ⟨(digitR (pad n 10)).toNat, by omega⟩
    have hl := dec_len2 n (by omega)
    have hxs : (⟨(Lib.decDigits n).toArray⟩ : ByteArray).size = (if n < 10 then 1 else 2) := hl
    have hx2 : (if n < 10 then 1 else 2) ≤ 2 := by split <;> omega
    have hk : 10 - (Lib.decDigits n).length ≤ 10 := by omega
    have hrl : ∀ k, (Lib.repeatL [48] k).length = k := fun k => by rw [rep_noughts, List.length_replicate]
    refine (number_abs n d (flawR (pad n 10)) ⟨(Lib.decDigits n).toArray⟩ ⟨(Lib.repeatL [48] (10 - (Lib.decDigits n).length)).toArray⟩ ⟨(Lib.decDigits d).toArray⟩ ⟨(pad n 10).toArray⟩ w hn hxs
      (by show (Lib.repeatL [48] _).length ≤ 10; rw [hrl]; omega) ?_ ?_ (fun w => ?_) (fun w => itoa_2 (n : Int) w (by omega) (by omega)) (fun w k hk' => ?_) (fun w' hb => ?_) (fun w => itoa_2 (d : Int) w (by omega) (by omega))).mono ?_
    · have : ∀ d, d < 10 → (Lib.decDigits d).length ≤ 10 := by decide +kernel
      exact this d (by omega)
    · apply ByteArray.ext
      show (pad n 10).toArray = _
      rw [rep_noughts]
      simp [pad]
    · have := rci.isMeter_any (n : Int) w
      rw [decide_eq_true (show 0 ≤ (n : Int) ∧ (n : Int) ≤ 49 from h)] at this
      exact this
    · subst hk'
      exact Tryz.strings_Repeat ⟨#[48]⟩ (10 - (Lib.decDigits n).length) w (by omega) (by show 1 * _ ≤ _; omega)
    · have := digit_any ⟨(pad n 10).toArray⟩ w' (ht.below hb)
      simp only at this
      rw [hd] at this
      exact this
    · rintro e w' ⟨rfl, hb⟩
      refine ⟨numL n, 0, ?_, .inl ⟨h, ?_, rfl⟩, hb⟩
      · have e : ((⟨(pad n 10).toArray⟩ : ByteArray) ++ ⟨(Lib.decDigits d).toArray⟩) = ⟨(numL n).toArray⟩ := by
          apply ByteArray.ext
          simp [numL, hd]
        rw [e]
      · simp
  · refine (number_no m w h).mono ?_
    rintro e w' ⟨rfl, hb⟩
    exact ⟨[], 18, rfl, .inr ⟨h, rfl, rfl⟩, hb⟩
theorem knumber {w : World} (ht : MTab w) : KrNumber w := fun W m hb _ => pnumber_any m W (ht.below hb)

end Go.Proofs.YtlicdeppfhmfjaaGreatDoor.rcp

/- One number alone, held against its bounds. -/
namespace Go.Proofs.YtlicdeppfhmfjaaGreatDoor.cents
open Go.RowKit

theorem row_one (w : World) (z : Int) (t : TypeId) : Row (w.alloc (.cells #[.int .i64 z] t)) (some ⟨w.heap.size, 0, none⟩) 1 [z] := by
  refine ⟨rfl, .inr ⟨_, _, rfl, fun i hi => ?_⟩⟩
  obtain rfl : i = 0 := by omega
  simp

theorem okAll_yes {lo hi z : Int} (h1 : lo ≤ z) (h2 : z ≤ hi) : okAll lo hi [z] = true := by simp [okAll, h1, h2]
theorem okAll_not {lo hi z : Int} (h : z < lo ∨ hi < z) : okAll lo hi [z] = false := by simp [okAll]; omega

/-- One number alone, laid in a new block: it lies within the bounds. -/
theorem within_one_yes (lo hi z : Int) (w : World) (b : Nat) (hb : b = w.heap.size) (h1 : lo ≤ z) (h2 : z ≤ hi) :
    Calls Tryz.prog 58 #[.int .i64 lo, .int .i64 hi, .slice (some ⟨b, 0, none⟩) 1 1] (w.alloc (.cells #[.int .i64 z] 3)) fun e w' => e = .returned (.bool true) ∧ w' = w.alloc (.cells #[.int .i64 z] 3) := by
  have h := within_any lo hi _ 1 1 [z] _ (row_one w z 3) (by decide)
  rw [okAll_yes h1 h2] at h
  rw [hb]
  exact h

theorem within_one_no (lo hi z : Int) (w : World) (b : Nat) (hb : b = w.heap.size) (h0 : z < lo ∨ hi < z) :
    Calls Tryz.prog 58 #[.int .i64 lo, .int .i64 hi, .slice (some ⟨b, 0, none⟩) 1 1] (w.alloc (.cells #[.int .i64 z] 3)) fun e w' => e = .returned (.bool false) ∧ w' = w.alloc (.cells #[.int .i64 z] 3) := by
  have h := within_any lo hi _ 1 1 [z] _ (row_one w z 3) (by decide)
  rw [okAll_not h0] at h
  rw [hb]
  exact h

theorem prod_bd (a b A B : Int) (h1 : 0 ≤ a) (h2 : a ≤ A) (h3 : 0 ≤ b) (h4 : b ≤ B) : 0 ≤ a * b ∧ a * b ≤ A * B :=
  ⟨Int.mul_nonneg h1 h3, Int.mul_le_mul h2 h4 h3 (by omega)⟩

theorem bel1 (w : World) (o : Obj) : Below w.heap.size w (w.alloc o) := (Below.refl _ _).alloc (Nat.le_refl _) _
theorem bel2 (w : World) (o o' : Obj) : Below w.heap.size w ((w.alloc o).alloc o') := (bel1 w o).alloc (by simp) _

end Go.Proofs.YtlicdeppfhmfjaaGreatDoor.cents

/- What cents.Show gives back. -/
namespace Go.Proofs.YtlicdeppfhmfjaaGreatDoor.cents
open Go.RowKit

abbrev Tab (w : World) : Prop := Lib.TabIs Tryz.prog w "internal/strconv.uint64pow10" .u64 Lib.pow10Tab

theorem tab_below {w w' : World} (h : Tab w) (hb : Below w.heap.size w w') : Tab w' := Lib.tabBelow_of_tabIs h w' hb

theorem itoa_pos {n : Int} (h : 0 ≤ n) : Lib.itoa n = Lib.decDigits n.toNat := by unfold Lib.itoa; rw [if_neg (by omega)]

theorem itoa_big (n : Int) (w : World) (h0 : 0 ≤ n) (h1 : n ≤ 1000000000000) (ht : Tab w) :
    Calls Tryz.prog 33 #[.int .i64 n] w fun e w' => e = .returned (.string ⟨(Lib.decDigits n.toNat).toArray⟩) ∧ Below w.heap.size w w' := by
  refine (Tryz.strconv_Itoa n (by omega) (by omega) w ht).mono ?_
  rintro e w' ⟨rfl, k, os, rfl⟩
  rw [itoa_pos h0]
  exact ⟨rfl, Lib.below_grow _ _ (Nat.le_refl _) _ _⟩

theorem itoa_small (n : Int) (w : World) (h0 : 0 ≤ n) (h1 : n < 100) :
    Calls Tryz.prog 33 #[.int .i64 n] w fun e w' => e = .returned (.string ⟨(Lib.decDigits n.toNat).toArray⟩) ∧ w' = w := by
  obtain ⟨i, rfl⟩ := Int.eq_ofNat_of_zero_le h0
  exact Tryz.strconv_Itoa_small i (by omega) w

set_option maxHeartbeats 400000 in
theorem show_pos (n : Int) (w : World) (h0 : 0 ≤ n) (h1 : n ≤ 1000000000000) (ht : Tab w) :
    Calls Tryz.prog 30 #[.int .i64 n] w fun e w' => e = .returned (.tuple #[.string ⟨(showP n).toArray⟩, .int .i64 0]) ∧ Below w.heap.size w w' := by
  have hl1 := dec_len (n / 100).toNat (by omega)
  have hl2 := dec_len (n / 10 % 10).toNat (by omega)
  have hl3 := dec_len (n % 10).toNat (by omega)
  have hq : -1000000000000 ≤ n := by omega
  have HT : Hid (Tab w) := ht
  clear ht
  go_enter Tryz.func30, Tryz.ntmps30
  go_wp2_with fail
  refine (within_one_yes _ _ _ _ _ rfl hq h1).mono ?_
  rintro e w' ⟨rfl, rfl⟩
  go_wp2_with fail
  refine (itoa_big (n / 100) _ (by omega) (by omega) (Lib.tabIs_alloc HT.out _)).mono ?_
  rintro e w1 ⟨rfl, hb1⟩
  have hb : Below w.heap.size w w1 := (bel1 w _).trans (hb1.mono (by simp))
  clear hb1
  go_wp2_with fail
  refine (itoa_small (n / 10 % 10) _ (by omega) (by omega)).mono ?_
  rintro e w2 ⟨rfl, rfl⟩
  go_wp2_with fail
  refine (itoa_small (n % 10) _ (by omega) (by omega)).mono ?_
  rintro e w3 ⟨rfl, rfl⟩
  go_wp2_with fail
  go_ret2
  refine ⟨ret_str ?_, hb⟩
  apply ByteArray.ext
  simp [showP]

set_option maxHeartbeats 400000 in
theorem show_neg (m : Int) (w : World) (hm : 0 < m) (h1 : m ≤ 1000000000000) (ht : Tab w) :
    Calls Tryz.prog 30 #[.int .i64 (-m)] w fun e w' => e = .returned (.tuple #[.string ⟨(45 :: showP m).toArray⟩, .int .i64 0]) ∧ Below w.heap.size w w' := by
  have hl1 := dec_len (m / 100).toNat (by omega)
  have hl2 := dec_len (m / 10 % 10).toNat (by omega)
  have hl3 := dec_len (m % 10).toNat (by omega)
  have h0 : -1000000000000 ≤ -m := by omega
  have h2 : -m ≤ 1000000000000 := by omega
  have h3 : -m < 0 := by omega
  have HT : Hid (Tab w) := ht
  clear ht
  go_enter Tryz.func30, Tryz.ntmps30
  go_wp2_with fail
  refine (within_one_yes _ _ _ _ _ rfl h0 h2).mono ?_
  rintro e w' ⟨rfl, rfl⟩
  go_wp2_with fail
  refine (itoa_big (m / 100) _ (by omega) (by omega) (Lib.tabIs_alloc HT.out _)).mono ?_
  rintro e w1 ⟨rfl, hb1⟩
  have hb : Below w.heap.size w w1 := (bel1 w _).trans (hb1.mono (by simp))
  clear hb1
  go_wp2_with fail
  refine (itoa_small (m / 10 % 10) _ (by omega) (by omega)).mono ?_
  rintro e w2 ⟨rfl, rfl⟩
  go_wp2_with fail
  refine (itoa_small (m % 10) _ (by omega) (by omega)).mono ?_
  rintro e w3 ⟨rfl, rfl⟩
  go_wp2_with fail
  go_ret2
  refine ⟨ret_str ?_, hb⟩
  apply ByteArray.ext
  simp [showP]

theorem show_any (n : Int) (w : World) (h0 : -1000000000000 ≤ n) (h1 : n ≤ 1000000000000) (ht : Tab w) :
    Calls Tryz.prog 30 #[.int .i64 n] w fun e w' => e = .returned (.tuple #[.string ⟨(showT n).toArray⟩, .int .i64 0]) ∧ Below w.heap.size w w' := by
  by_cases hn : n < 0
  · have hs : showT n = 45 :: showP (-n) := by unfold showT; rw [if_pos hn]
    rw [hs]
    obtain ⟨m, rfl⟩ : ∃ m, n = -m := ⟨-n, by omega⟩
    rw [Int.neg_neg]
    exact show_neg m w (by omega) (by omega) ht
  · have hs : showT n = showP n := by unfold showT; rw [if_neg hn]
    rw [hs]; exact show_pos n w (by omega) h1 ht

set_option maxHeartbeats 400000 in
theorem show_no (n : Int) (w : World) (h : n < -1000000000000 ∨ 1000000000000 < n) :
    Calls Tryz.prog 30 #[.int .i64 n] w fun e w' => e = .returned (.tuple #[.string ⟨#[]⟩, .int .i64 2]) ∧ Below w.heap.size w w' := by
  go_enter Tryz.func30, Tryz.ntmps30
  go_wp2_with fail
  refine (within_one_no _ _ _ _ _ rfl h).mono ?_
  rintro e w' ⟨rfl, rfl⟩
  clear h
  go_wp2_with fail
  go_ret2
  exact ⟨rfl, bel1 _ _⟩

end Go.Proofs.YtlicdeppfhmfjaaGreatDoor.cents

/- A receipt is written. -/
namespace Go.Proofs.YtlicdeppfhmfjaaGreatDoor.rcp
open Go.Proofs.YtlicdeppfhmfjaaGreatDoor.rcb (Sb line_any amount_any text_any)
open Go.RowKit
set_option maxRecDepth 100000
set_option linter.unusedVariables false
set_option linter.unusedSimpArgs false

def EqL (a b : List UInt8) : Prop := a = b
/-- The lines, one behind the other. -/
def lns (l : List (List UInt8 × List UInt8)) : List UInt8 := l.foldl (fun a p => a ++ line p.1 p.2) []
theorem lns_snoc (l : List (List UInt8 × List UInt8)) (p : List UInt8 × List UInt8) : lns (l ++ [p]) = lns l ++ line p.1 p.2 := by unfold lns; rw [List.foldl_append]; rfl
theorem pline_len (n v : List UInt8) : (line n v).length = n.length + v.length + 2 := by unfold line; simp; omega
set_option maxHeartbeats 4000000 in
theorem write_abs (me id te de fe pr ch un : Int) (S X0 X1 X2 X3 X4 X5 X6 X7 X8 : ByteArray) (w : World) (z0 : X0.size ≤ 40) (z1 : X1.size ≤ 40) (z2 : X2.size ≤ 40) (z3 : X3.size ≤ 40) (z4 : X4.size ≤ 40) (z5 : X5.size ≤ 40) (z6 : X6.size ≤ 40) (z7 : X7.size ≤ 40) (z8 : X8.size ≤ 40)
    (h0 : ∀ w', Below w.heap.size w w' → Calls Tryz.prog 32 #[.int .i64 me] w' fun e w'' => e = .returned (.tuple #[.string X0, .int .i64 0]) ∧ Below w'.heap.size w' w'')
    (h1 : ∀ w', Below w.heap.size w w' → Calls Tryz.prog 33 #[.int .i64 id] w' fun e w'' => e = .returned (.string X1) ∧ Below w'.heap.size w' w'')
    (h2 : ∀ w', Below w.heap.size w w' → Calls Tryz.prog 30 #[.int .i64 te] w' fun e w'' => e = .returned (.tuple #[.string X2, .int .i64 0]) ∧ Below w'.heap.size w' w'')
    (h3 : ∀ w', Below w.heap.size w w' → Calls Tryz.prog 30 #[.int .i64 de] w' fun e w'' => e = .returned (.tuple #[.string X3, .int .i64 0]) ∧ Below w'.heap.size w' w'')
    (h4 : ∀ w', Below w.heap.size w w' → Calls Tryz.prog 30 #[.int .i64 fe] w' fun e w'' => e = .returned (.tuple #[.string X4, .int .i64 0]) ∧ Below w'.heap.size w' w'')
    (h5 : ∀ w', Below w.heap.size w w' → Calls Tryz.prog 30 #[.int .i64 pr] w' fun e w'' => e = .returned (.tuple #[.string X5, .int .i64 0]) ∧ Below w'.heap.size w' w'')
    (h6 : ∀ w', Below w.heap.size w w' → Calls Tryz.prog 30 #[.int .i64 ch] w' fun e w'' => e = .returned (.tuple #[.string X6, .int .i64 0]) ∧ Below w'.heap.size w' w'')
    (h7 : ∀ w', Below w.heap.size w w' → Calls Tryz.prog 33 #[.int .i64 un] w' fun e w'' => e = .returned (.string X7) ∧ Below w'.heap.size w' w'')
    (h8 : ∀ w', Below w.heap.size w w' → Calls Tryz.prog 34 #[.string S] w' fun e w'' => e = .returned (.string X8) ∧ Below w'.heap.size w' w'') :
    Calls Tryz.prog 12 #[.agg #[.int .i64 me, .int .i64 id, .int .i64 te, .int .i64 de, .int .i64 fe, .int .i64 pr, .int .i64 ch, .int .i64 un, .string S]] w fun e w' => ∃ L : List UInt8, e = .returned (.string ⟨L.toArray⟩) ∧ L = (((((((((([] : List UInt8) ++ line (⟨#[77, 69, 84, 69, 82]⟩ : ByteArray).data.toList X0.data.toList) ++ line (⟨#[78, 85, 77, 66, 69, 82]⟩ : ByteArray).data.toList X1.data.toList) ++ line (⟨#[84, 69, 78, 68, 69, 82]⟩ : ByteArray).data.toList X2.data.toList) ++ line (⟨#[68, 69, 66, 84]⟩ : ByteArray).data.toList X3.data.toList) ++ line (⟨#[70, 69, 69]⟩ : ByteArray).data.toList X4.data.toList) ++ line (⟨#[80, 82, 73, 67, 69]⟩ : ByteArray).data.toList X5.data.toList) ++ line (⟨#[67, 72, 65, 78, 71, 69]⟩ : ByteArray).data.toList X6.data.toList) ++ line (⟨#[85, 78, 73, 84, 83]⟩ : ByteArray).data.toList X7.data.toList) ++ line (⟨#[84, 79, 75, 69, 78]⟩ : ByteArray).data.toList X8.data.toList) ∧ Below w.heap.size w w' := by
  have H0 : Hid (∀ w', Below w.heap.size w w' → Calls Tryz.prog 32 #[.int .i64 me] w' fun e w'' => e = .returned (.tuple #[.string X0, .int .i64 0]) ∧ Below w'.heap.size w' w'') := h0
  have H1 : Hid (∀ w', Below w.heap.size w w' → Calls Tryz.prog 33 #[.int .i64 id] w' fun e w'' => e = .returned (.string X1) ∧ Below w'.heap.size w' w'') := h1
  have H2 : Hid (∀ w', Below w.heap.size w w' → Calls Tryz.prog 30 #[.int .i64 te] w' fun e w'' => e = .returned (.tuple #[.string X2, .int .i64 0]) ∧ Below w'.heap.size w' w'') := h2
  have H3 : Hid (∀ w', Below w.heap.size w w' → Calls Tryz.prog 30 #[.int .i64 de] w' fun e w'' => e = .returned (.tuple #[.string X3, .int .i64 0]) ∧ Below w'.heap.size w' w'') := h3
  have H4 : Hid (∀ w', Below w.heap.size w w' → Calls Tryz.prog 30 #[.int .i64 fe] w' fun e w'' => e = .returned (.tuple #[.string X4, .int .i64 0]) ∧ Below w'.heap.size w' w'') := h4
  have H5 : Hid (∀ w', Below w.heap.size w w' → Calls Tryz.prog 30 #[.int .i64 pr] w' fun e w'' => e = .returned (.tuple #[.string X5, .int .i64 0]) ∧ Below w'.heap.size w' w'') := h5
  have H6 : Hid (∀ w', Below w.heap.size w w' → Calls Tryz.prog 30 #[.int .i64 ch] w' fun e w'' => e = .returned (.tuple #[.string X6, .int .i64 0]) ∧ Below w'.heap.size w' w'') := h6
  have H7 : Hid (∀ w', Below w.heap.size w w' → Calls Tryz.prog 33 #[.int .i64 un] w' fun e w'' => e = .returned (.string X7) ∧ Below w'.heap.size w' w'') := h7
  have H8 : Hid (∀ w', Below w.heap.size w w' → Calls Tryz.prog 34 #[.string S] w' fun e w'' => e = .returned (.string X8) ∧ Below w'.heap.size w' w'') := h8
  clear h0 h1 h2 h3 h4 h5 h6 h7 h8
  have HX0 : Hid (Blk ((w.alloc (.cells #[.int .i64 me, .int .i64 id, .int .i64 te, .int .i64 de, .int .i64 fe, .int .i64 pr, .int .i64 ch, .int .i64 un, .string S] 25)).alloc (.cells #[.pointer none, .slice none 0 0] 65)) w.heap.size #[.int .i64 me, .int .i64 id, .int .i64 te, .int .i64 de, .int .i64 fe, .int .i64 pr, .int .i64 ch, .int .i64 un, .string S] 25) := (Blk.new _ _ _).alloc _
  have HB0 : Hid (Below w.heap.size w ((w.alloc (.cells #[.int .i64 me, .int .i64 id, .int .i64 te, .int .i64 de, .int .i64 fe, .int .i64 pr, .int .i64 ch, .int .i64 un, .string S] 25)).alloc (.cells #[.pointer none, .slice none 0 0] 65))) := ((Below.refl _ _).alloc (Nat.le_refl _) _).alloc (by simp) _
  have HS0 : Hid (Sb (w.heap.size + 1) (w.heap.size + 1) (Lib.byteCells []) ((w.alloc (.cells #[.int .i64 me, .int .i64 id, .int .i64 te, .int .i64 de, .int .i64 fe, .int .i64 pr, .int .i64 ch, .int .i64 un, .string S] 25)).alloc (.cells #[.pointer none, .slice none 0 0] 65))) := by
    have := Sb.fresh (w.alloc (.cells #[.int .i64 me, .int .i64 id, .int .i64 te, .int .i64 de, .int .i64 fe, .int .i64 pr, .int .i64 ch, .int .i64 un, .string S] 25))
    simp only [World.size_alloc] at this
    exact this
  have hz0 : w.heap.size + 1 ≤ ((w.alloc (.cells #[.int .i64 me, .int .i64 id, .int .i64 te, .int .i64 de, .int .i64 fe, .int .i64 pr, .int .i64 ch, .int .i64 un, .string S] 25)).alloc (.cells #[.pointer none, .slice none 0 0] 65)).heap.size := by simp
  go_enter Tryz.func12, Tryz.ntmps12
  go_upto_region 3 with fail
  generalize hgp : w.heap.size + 1 = gp at *
  have HGP : Hid (w.heap.size < gp) := by show _ < _; omega
  clear hgp
  generalize ((w.alloc (.cells #[.int .i64 me, .int .i64 id, .int .i64 te, .int .i64 de, .int .i64 fe, .int .i64 pr, .int .i64 ch, .int .i64 un, .string S] 25)).alloc (.cells #[.pointer none, .slice none 0 0] 65)) = V0 at *
  have x0 : V0.cell? ⟨w.heap.size, 0, none⟩ = some (.int .i64 me) := HX0.out.cell 0
  have HL0 : Hid (([] : List UInt8).length ≤ 0) := Nat.le_refl _
  have HE0 : Hid (EqL [] ([] : List UInt8)) := rfl
  have HC0 := H0.out V0 HB0.out
  go_wp2_with fail
  refine HC0.mono ?_
  rintro e U0 ⟨rfl, hb⟩
  have HSU0 : Hid (Sb gp gp (Lib.byteCells ([] : List UInt8)) U0) := HS0.out.next hb
  have HXU0 : Hid (Blk U0 w.heap.size #[.int .i64 me, .int .i64 id, .int .i64 te, .int .i64 de, .int .i64 fe, .int .i64 pr, .int .i64 ch, .int .i64 un, .string S] 25) := HX0.out.next hb
  have HBU0 : Hid (Below w.heap.size w U0) := bel_step HB0.out hb
  have hzU0 : gp ≤ U0.heap.size := Nat.le_trans hz0 hb.size
  clear hb HC0 HS0 HX0 HB0 hz0 x0
  have HA0 := line_any gp gp ([] : List UInt8) (⟨#[77, 69, 84, 69, 82]⟩ : ByteArray) X0 U0 HSU0.out (by have := HL0.out; omega) (by decide) (by omega) hzU0
  go_wp2_with fail
  refine HA0.mono ?_
  rintro e V1 ⟨rfl, hs, hb⟩
  have HX1 : Hid (Blk V1 w.heap.size #[.int .i64 me, .int .i64 id, .int .i64 te, .int .i64 de, .int .i64 fe, .int .i64 pr, .int .i64 ch, .int .i64 un, .string S] 25) := HXU0.out.below hb HGP.out
  have HB1 : Hid (Below w.heap.size w V1) := HBU0.out.trans (hb.mono (Nat.le_of_lt HGP.out))
  have hz1 : gp ≤ V1.heap.size := Nat.le_trans hzU0 hb.size
  have HL1 : Hid ((([] : List UInt8) ++ line (⟨#[77, 69, 84, 69, 82]⟩ : ByteArray).data.toList X0.data.toList).length ≤ 60) := by
    show _ ≤ _
    rw [List.length_append, pline_len]
    have h1 := HL0.out
    have h2 : X0.data.toList.length = X0.size := Array.length_toList
    have h3 : (⟨#[77, 69, 84, 69, 82]⟩ : ByteArray).data.toList.length ≤ 6 := by decide
    omega
  have HS1 : Hid (Sb gp gp (Lib.byteCells (([] : List UInt8) ++ line (⟨#[77, 69, 84, 69, 82]⟩ : ByteArray).data.toList X0.data.toList)) V1) := hs
  generalize hq : ([] : List UInt8) ++ line (⟨#[77, 69, 84, 69, 82]⟩ : ByteArray).data.toList X0.data.toList = l1 at HS1 HL1
  have HE1 : Hid (EqL l1 (([] : List UInt8) ++ line (⟨#[77, 69, 84, 69, 82]⟩ : ByteArray).data.toList X0.data.toList)) := by show l1 = _; rw [← hq, ← show ([] : List UInt8) = ([] : List UInt8) from HE0.out]
  clear hs hb HA0 HXU0 HBU0 hzU0 HSU0 H0 HL0 HE0 hq
  have x1 : V1.cell? ⟨w.heap.size, 1, none⟩ = some (.int .i64 id) := HX1.out.cell 1
  have HC1 := H1.out V1 HB1.out
  go_wp2_with fail
  refine HC1.mono ?_
  rintro e U1 ⟨rfl, hb⟩
  have HSU1 : Hid (Sb gp gp (Lib.byteCells l1) U1) := HS1.out.next hb
  have HXU1 : Hid (Blk U1 w.heap.size #[.int .i64 me, .int .i64 id, .int .i64 te, .int .i64 de, .int .i64 fe, .int .i64 pr, .int .i64 ch, .int .i64 un, .string S] 25) := HX1.out.next hb
  have HBU1 : Hid (Below w.heap.size w U1) := bel_step HB1.out hb
  have hzU1 : gp ≤ U1.heap.size := Nat.le_trans hz1 hb.size
  clear hb HC1 HS1 HX1 HB1 hz1 x1
  have HA1 := line_any gp gp l1 (⟨#[78, 85, 77, 66, 69, 82]⟩ : ByteArray) X1 U1 HSU1.out (by have := HL1.out; omega) (by decide) (by omega) hzU1
  go_wp2_with fail
  refine HA1.mono ?_
  rintro e V2 ⟨rfl, hs, hb⟩
  have HX2 : Hid (Blk V2 w.heap.size #[.int .i64 me, .int .i64 id, .int .i64 te, .int .i64 de, .int .i64 fe, .int .i64 pr, .int .i64 ch, .int .i64 un, .string S] 25) := HXU1.out.below hb HGP.out
  have HB2 : Hid (Below w.heap.size w V2) := HBU1.out.trans (hb.mono (Nat.le_of_lt HGP.out))
  have hz2 : gp ≤ V2.heap.size := Nat.le_trans hzU1 hb.size
  have HL2 : Hid ((l1 ++ line (⟨#[78, 85, 77, 66, 69, 82]⟩ : ByteArray).data.toList X1.data.toList).length ≤ 120) := by
    show _ ≤ _
    rw [List.length_append, pline_len]
    have h1 := HL1.out
    have h2 : X1.data.toList.length = X1.size := Array.length_toList
    have h3 : (⟨#[78, 85, 77, 66, 69, 82]⟩ : ByteArray).data.toList.length ≤ 6 := by decide
    omega
  have HS2 : Hid (Sb gp gp (Lib.byteCells (l1 ++ line (⟨#[78, 85, 77, 66, 69, 82]⟩ : ByteArray).data.toList X1.data.toList)) V2) := hs
  generalize hq : l1 ++ line (⟨#[78, 85, 77, 66, 69, 82]⟩ : ByteArray).data.toList X1.data.toList = l2 at HS2 HL2
  have HE2 : Hid (EqL l2 ((([] : List UInt8) ++ line (⟨#[77, 69, 84, 69, 82]⟩ : ByteArray).data.toList X0.data.toList) ++ line (⟨#[78, 85, 77, 66, 69, 82]⟩ : ByteArray).data.toList X1.data.toList)) := by show l2 = _; rw [← hq, ← show l1 = (([] : List UInt8) ++ line (⟨#[77, 69, 84, 69, 82]⟩ : ByteArray).data.toList X0.data.toList) from HE1.out]
  clear hs hb HA1 HXU1 HBU1 hzU1 HSU1 H1 HL1 HE1 hq
  have x2 : V2.cell? ⟨w.heap.size, 2, none⟩ = some (.int .i64 te) := HX2.out.cell 2
  have HA2 := amount_any gp gp l2 (⟨#[84, 69, 78, 68, 69, 82]⟩ : ByteArray) X2 te V2 HS2.out (by have := HL2.out; omega) (by decide) (by omega) hz2 (H2.out V2 HB2.out)
  go_wp2_with fail
  refine HA2.mono ?_
  rintro e V3 ⟨rfl, hs, hb⟩
  have HX3 : Hid (Blk V3 w.heap.size #[.int .i64 me, .int .i64 id, .int .i64 te, .int .i64 de, .int .i64 fe, .int .i64 pr, .int .i64 ch, .int .i64 un, .string S] 25) := HX2.out.below hb HGP.out
  have HB3 : Hid (Below w.heap.size w V3) := HB2.out.trans (hb.mono (Nat.le_of_lt HGP.out))
  have hz3 : gp ≤ V3.heap.size := Nat.le_trans hz2 hb.size
  have HL3 : Hid ((l2 ++ line (⟨#[84, 69, 78, 68, 69, 82]⟩ : ByteArray).data.toList X2.data.toList).length ≤ 180) := by
    show _ ≤ _
    rw [List.length_append, pline_len]
    have h1 := HL2.out
    have h2 : X2.data.toList.length = X2.size := Array.length_toList
    have h3 : (⟨#[84, 69, 78, 68, 69, 82]⟩ : ByteArray).data.toList.length ≤ 6 := by decide
    omega
  have HS3 : Hid (Sb gp gp (Lib.byteCells (l2 ++ line (⟨#[84, 69, 78, 68, 69, 82]⟩ : ByteArray).data.toList X2.data.toList)) V3) := hs
  generalize hq : l2 ++ line (⟨#[84, 69, 78, 68, 69, 82]⟩ : ByteArray).data.toList X2.data.toList = l3 at HS3 HL3
  have HE3 : Hid (EqL l3 (((([] : List UInt8) ++ line (⟨#[77, 69, 84, 69, 82]⟩ : ByteArray).data.toList X0.data.toList) ++ line (⟨#[78, 85, 77, 66, 69, 82]⟩ : ByteArray).data.toList X1.data.toList) ++ line (⟨#[84, 69, 78, 68, 69, 82]⟩ : ByteArray).data.toList X2.data.toList)) := by show l3 = _; rw [← hq, ← show l2 = ((([] : List UInt8) ++ line (⟨#[77, 69, 84, 69, 82]⟩ : ByteArray).data.toList X0.data.toList) ++ line (⟨#[78, 85, 77, 66, 69, 82]⟩ : ByteArray).data.toList X1.data.toList) from HE2.out]
  clear hs hb HA2 HX2 HB2 hz2 HS2 x2 H2 HL2 HE2 hq
  have x3 : V3.cell? ⟨w.heap.size, 3, none⟩ = some (.int .i64 de) := HX3.out.cell 3
  have HA3 := amount_any gp gp l3 (⟨#[68, 69, 66, 84]⟩ : ByteArray) X3 de V3 HS3.out (by have := HL3.out; omega) (by decide) (by omega) hz3 (H3.out V3 HB3.out)
  go_wp2_with fail
  refine HA3.mono ?_
  rintro e V4 ⟨rfl, hs, hb⟩
  have HX4 : Hid (Blk V4 w.heap.size #[.int .i64 me, .int .i64 id, .int .i64 te, .int .i64 de, .int .i64 fe, .int .i64 pr, .int .i64 ch, .int .i64 un, .string S] 25) := HX3.out.below hb HGP.out
  have HB4 : Hid (Below w.heap.size w V4) := HB3.out.trans (hb.mono (Nat.le_of_lt HGP.out))
  have hz4 : gp ≤ V4.heap.size := Nat.le_trans hz3 hb.size
  have HL4 : Hid ((l3 ++ line (⟨#[68, 69, 66, 84]⟩ : ByteArray).data.toList X3.data.toList).length ≤ 240) := by
    show _ ≤ _
    rw [List.length_append, pline_len]
    have h1 := HL3.out
    have h2 : X3.data.toList.length = X3.size := Array.length_toList
    have h3 : (⟨#[68, 69, 66, 84]⟩ : ByteArray).data.toList.length ≤ 6 := by decide
    omega
  have HS4 : Hid (Sb gp gp (Lib.byteCells (l3 ++ line (⟨#[68, 69, 66, 84]⟩ : ByteArray).data.toList X3.data.toList)) V4) := hs
  generalize hq : l3 ++ line (⟨#[68, 69, 66, 84]⟩ : ByteArray).data.toList X3.data.toList = l4 at HS4 HL4
  have HE4 : Hid (EqL l4 ((((([] : List UInt8) ++ line (⟨#[77, 69, 84, 69, 82]⟩ : ByteArray).data.toList X0.data.toList) ++ line (⟨#[78, 85, 77, 66, 69, 82]⟩ : ByteArray).data.toList X1.data.toList) ++ line (⟨#[84, 69, 78, 68, 69, 82]⟩ : ByteArray).data.toList X2.data.toList) ++ line (⟨#[68, 69, 66, 84]⟩ : ByteArray).data.toList X3.data.toList)) := by show l4 = _; rw [← hq, ← show l3 = (((([] : List UInt8) ++ line (⟨#[77, 69, 84, 69, 82]⟩ : ByteArray).data.toList X0.data.toList) ++ line (⟨#[78, 85, 77, 66, 69, 82]⟩ : ByteArray).data.toList X1.data.toList) ++ line (⟨#[84, 69, 78, 68, 69, 82]⟩ : ByteArray).data.toList X2.data.toList) from HE3.out]
  clear hs hb HA3 HX3 HB3 hz3 HS3 x3 H3 HL3 HE3 hq
  have x4 : V4.cell? ⟨w.heap.size, 4, none⟩ = some (.int .i64 fe) := HX4.out.cell 4
  have HA4 := amount_any gp gp l4 (⟨#[70, 69, 69]⟩ : ByteArray) X4 fe V4 HS4.out (by have := HL4.out; omega) (by decide) (by omega) hz4 (H4.out V4 HB4.out)
  go_wp2_with fail
  refine HA4.mono ?_
  rintro e V5 ⟨rfl, hs, hb⟩
  have HX5 : Hid (Blk V5 w.heap.size #[.int .i64 me, .int .i64 id, .int .i64 te, .int .i64 de, .int .i64 fe, .int .i64 pr, .int .i64 ch, .int .i64 un, .string S] 25) := HX4.out.below hb HGP.out
  have HB5 : Hid (Below w.heap.size w V5) := HB4.out.trans (hb.mono (Nat.le_of_lt HGP.out))
  have hz5 : gp ≤ V5.heap.size := Nat.le_trans hz4 hb.size
  have HL5 : Hid ((l4 ++ line (⟨#[70, 69, 69]⟩ : ByteArray).data.toList X4.data.toList).length ≤ 300) := by
    show _ ≤ _
    rw [List.length_append, pline_len]
    have h1 := HL4.out
    have h2 : X4.data.toList.length = X4.size := Array.length_toList
    have h3 : (⟨#[70, 69, 69]⟩ : ByteArray).data.toList.length ≤ 6 := by decide
    omega
  have HS5 : Hid (Sb gp gp (Lib.byteCells (l4 ++ line (⟨#[70, 69, 69]⟩ : ByteArray).data.toList X4.data.toList)) V5) := hs
  generalize hq : l4 ++ line (⟨#[70, 69, 69]⟩ : ByteArray).data.toList X4.data.toList = l5 at HS5 HL5
  have HE5 : Hid (EqL l5 (((((([] : List UInt8) ++ line (⟨#[77, 69, 84, 69, 82]⟩ : ByteArray).data.toList X0.data.toList) ++ line (⟨#[78, 85, 77, 66, 69, 82]⟩ : ByteArray).data.toList X1.data.toList) ++ line (⟨#[84, 69, 78, 68, 69, 82]⟩ : ByteArray).data.toList X2.data.toList) ++ line (⟨#[68, 69, 66, 84]⟩ : ByteArray).data.toList X3.data.toList) ++ line (⟨#[70, 69, 69]⟩ : ByteArray).data.toList X4.data.toList)) := by show l5 = _; rw [← hq, ← show l4 = ((((([] : List UInt8) ++ line (⟨#[77, 69, 84, 69, 82]⟩ : ByteArray).data.toList X0.data.toList) ++ line (⟨#[78, 85, 77, 66, 69, 82]⟩ : ByteArray).data.toList X1.data.toList) ++ line (⟨#[84, 69, 78, 68, 69, 82]⟩ : ByteArray).data.toList X2.data.toList) ++ line (⟨#[68, 69, 66, 84]⟩ : ByteArray).data.toList X3.data.toList) from HE4.out]
  clear hs hb HA4 HX4 HB4 hz4 HS4 x4 H4 HL4 HE4 hq
  have x5 : V5.cell? ⟨w.heap.size, 5, none⟩ = some (.int .i64 pr) := HX5.out.cell 5
  have HA5 := amount_any gp gp l5 (⟨#[80, 82, 73, 67, 69]⟩ : ByteArray) X5 pr V5 HS5.out (by have := HL5.out; omega) (by decide) (by omega) hz5 (H5.out V5 HB5.out)
  go_wp2_with fail
  refine HA5.mono ?_
  rintro e V6 ⟨rfl, hs, hb⟩
  have HX6 : Hid (Blk V6 w.heap.size #[.int .i64 me, .int .i64 id, .int .i64 te, .int .i64 de, .int .i64 fe, .int .i64 pr, .int .i64 ch, .int .i64 un, .string S] 25) := HX5.out.below hb HGP.out
  have HB6 : Hid (Below w.heap.size w V6) := HB5.out.trans (hb.mono (Nat.le_of_lt HGP.out))
  have hz6 : gp ≤ V6.heap.size := Nat.le_trans hz5 hb.size
  have HL6 : Hid ((l5 ++ line (⟨#[80, 82, 73, 67, 69]⟩ : ByteArray).data.toList X5.data.toList).length ≤ 360) := by
    show _ ≤ _
    rw [List.length_append, pline_len]
    have h1 := HL5.out
    have h2 : X5.data.toList.length = X5.size := Array.length_toList
    have h3 : (⟨#[80, 82, 73, 67, 69]⟩ : ByteArray).data.toList.length ≤ 6 := by decide
    omega
  have HS6 : Hid (Sb gp gp (Lib.byteCells (l5 ++ line (⟨#[80, 82, 73, 67, 69]⟩ : ByteArray).data.toList X5.data.toList)) V6) := hs
  generalize hq : l5 ++ line (⟨#[80, 82, 73, 67, 69]⟩ : ByteArray).data.toList X5.data.toList = l6 at HS6 HL6
  have HE6 : Hid (EqL l6 ((((((([] : List UInt8) ++ line (⟨#[77, 69, 84, 69, 82]⟩ : ByteArray).data.toList X0.data.toList) ++ line (⟨#[78, 85, 77, 66, 69, 82]⟩ : ByteArray).data.toList X1.data.toList) ++ line (⟨#[84, 69, 78, 68, 69, 82]⟩ : ByteArray).data.toList X2.data.toList) ++ line (⟨#[68, 69, 66, 84]⟩ : ByteArray).data.toList X3.data.toList) ++ line (⟨#[70, 69, 69]⟩ : ByteArray).data.toList X4.data.toList) ++ line (⟨#[80, 82, 73, 67, 69]⟩ : ByteArray).data.toList X5.data.toList)) := by show l6 = _; rw [← hq, ← show l5 = (((((([] : List UInt8) ++ line (⟨#[77, 69, 84, 69, 82]⟩ : ByteArray).data.toList X0.data.toList) ++ line (⟨#[78, 85, 77, 66, 69, 82]⟩ : ByteArray).data.toList X1.data.toList) ++ line (⟨#[84, 69, 78, 68, 69, 82]⟩ : ByteArray).data.toList X2.data.toList) ++ line (⟨#[68, 69, 66, 84]⟩ : ByteArray).data.toList X3.data.toList) ++ line (⟨#[70, 69, 69]⟩ : ByteArray).data.toList X4.data.toList) from HE5.out]
  clear hs hb HA5 HX5 HB5 hz5 HS5 x5 H5 HL5 HE5 hq
  have x6 : V6.cell? ⟨w.heap.size, 6, none⟩ = some (.int .i64 ch) := HX6.out.cell 6
  have HA6 := amount_any gp gp l6 (⟨#[67, 72, 65, 78, 71, 69]⟩ : ByteArray) X6 ch V6 HS6.out (by have := HL6.out; omega) (by decide) (by omega) hz6 (H6.out V6 HB6.out)
  go_wp2_with fail
  refine HA6.mono ?_
  rintro e V7 ⟨rfl, hs, hb⟩
  have HX7 : Hid (Blk V7 w.heap.size #[.int .i64 me, .int .i64 id, .int .i64 te, .int .i64 de, .int .i64 fe, .int .i64 pr, .int .i64 ch, .int .i64 un, .string S] 25) := HX6.out.below hb HGP.out
  have HB7 : Hid (Below w.heap.size w V7) := HB6.out.trans (hb.mono (Nat.le_of_lt HGP.out))
  have hz7 : gp ≤ V7.heap.size := Nat.le_trans hz6 hb.size
  have HL7 : Hid ((l6 ++ line (⟨#[67, 72, 65, 78, 71, 69]⟩ : ByteArray).data.toList X6.data.toList).length ≤ 420) := by
    show _ ≤ _
    rw [List.length_append, pline_len]
    have h1 := HL6.out
    have h2 : X6.data.toList.length = X6.size := Array.length_toList
    have h3 : (⟨#[67, 72, 65, 78, 71, 69]⟩ : ByteArray).data.toList.length ≤ 6 := by decide
    omega
  have HS7 : Hid (Sb gp gp (Lib.byteCells (l6 ++ line (⟨#[67, 72, 65, 78, 71, 69]⟩ : ByteArray).data.toList X6.data.toList)) V7) := hs
  generalize hq : l6 ++ line (⟨#[67, 72, 65, 78, 71, 69]⟩ : ByteArray).data.toList X6.data.toList = l7 at HS7 HL7
  have HE7 : Hid (EqL l7 (((((((([] : List UInt8) ++ line (⟨#[77, 69, 84, 69, 82]⟩ : ByteArray).data.toList X0.data.toList) ++ line (⟨#[78, 85, 77, 66, 69, 82]⟩ : ByteArray).data.toList X1.data.toList) ++ line (⟨#[84, 69, 78, 68, 69, 82]⟩ : ByteArray).data.toList X2.data.toList) ++ line (⟨#[68, 69, 66, 84]⟩ : ByteArray).data.toList X3.data.toList) ++ line (⟨#[70, 69, 69]⟩ : ByteArray).data.toList X4.data.toList) ++ line (⟨#[80, 82, 73, 67, 69]⟩ : ByteArray).data.toList X5.data.toList) ++ line (⟨#[67, 72, 65, 78, 71, 69]⟩ : ByteArray).data.toList X6.data.toList)) := by show l7 = _; rw [← hq, ← show l6 = ((((((([] : List UInt8) ++ line (⟨#[77, 69, 84, 69, 82]⟩ : ByteArray).data.toList X0.data.toList) ++ line (⟨#[78, 85, 77, 66, 69, 82]⟩ : ByteArray).data.toList X1.data.toList) ++ line (⟨#[84, 69, 78, 68, 69, 82]⟩ : ByteArray).data.toList X2.data.toList) ++ line (⟨#[68, 69, 66, 84]⟩ : ByteArray).data.toList X3.data.toList) ++ line (⟨#[70, 69, 69]⟩ : ByteArray).data.toList X4.data.toList) ++ line (⟨#[80, 82, 73, 67, 69]⟩ : ByteArray).data.toList X5.data.toList) from HE6.out]
  clear hs hb HA6 HX6 HB6 hz6 HS6 x6 H6 HL6 HE6 hq
  have x7 : V7.cell? ⟨w.heap.size, 7, none⟩ = some (.int .i64 un) := HX7.out.cell 7
  have HC7 := H7.out V7 HB7.out
  go_wp2_with fail
  refine HC7.mono ?_
  rintro e U7 ⟨rfl, hb⟩
  have HSU7 : Hid (Sb gp gp (Lib.byteCells l7) U7) := HS7.out.next hb
  have HXU7 : Hid (Blk U7 w.heap.size #[.int .i64 me, .int .i64 id, .int .i64 te, .int .i64 de, .int .i64 fe, .int .i64 pr, .int .i64 ch, .int .i64 un, .string S] 25) := HX7.out.next hb
  have HBU7 : Hid (Below w.heap.size w U7) := bel_step HB7.out hb
  have hzU7 : gp ≤ U7.heap.size := Nat.le_trans hz7 hb.size
  clear hb HC7 HS7 HX7 HB7 hz7 x7
  have HA7 := line_any gp gp l7 (⟨#[85, 78, 73, 84, 83]⟩ : ByteArray) X7 U7 HSU7.out (by have := HL7.out; omega) (by decide) (by omega) hzU7
  go_wp2_with fail
  refine HA7.mono ?_
  rintro e V8 ⟨rfl, hs, hb⟩
  have HX8 : Hid (Blk V8 w.heap.size #[.int .i64 me, .int .i64 id, .int .i64 te, .int .i64 de, .int .i64 fe, .int .i64 pr, .int .i64 ch, .int .i64 un, .string S] 25) := HXU7.out.below hb HGP.out
  have HB8 : Hid (Below w.heap.size w V8) := HBU7.out.trans (hb.mono (Nat.le_of_lt HGP.out))
  have hz8 : gp ≤ V8.heap.size := Nat.le_trans hzU7 hb.size
  have HL8 : Hid ((l7 ++ line (⟨#[85, 78, 73, 84, 83]⟩ : ByteArray).data.toList X7.data.toList).length ≤ 480) := by
    show _ ≤ _
    rw [List.length_append, pline_len]
    have h1 := HL7.out
    have h2 : X7.data.toList.length = X7.size := Array.length_toList
    have h3 : (⟨#[85, 78, 73, 84, 83]⟩ : ByteArray).data.toList.length ≤ 6 := by decide
    omega
  have HS8 : Hid (Sb gp gp (Lib.byteCells (l7 ++ line (⟨#[85, 78, 73, 84, 83]⟩ : ByteArray).data.toList X7.data.toList)) V8) := hs
  generalize hq : l7 ++ line (⟨#[85, 78, 73, 84, 83]⟩ : ByteArray).data.toList X7.data.toList = l8 at HS8 HL8
  have HE8 : Hid (EqL l8 ((((((((([] : List UInt8) ++ line (⟨#[77, 69, 84, 69, 82]⟩ : ByteArray).data.toList X0.data.toList) ++ line (⟨#[78, 85, 77, 66, 69, 82]⟩ : ByteArray).data.toList X1.data.toList) ++ line (⟨#[84, 69, 78, 68, 69, 82]⟩ : ByteArray).data.toList X2.data.toList) ++ line (⟨#[68, 69, 66, 84]⟩ : ByteArray).data.toList X3.data.toList) ++ line (⟨#[70, 69, 69]⟩ : ByteArray).data.toList X4.data.toList) ++ line (⟨#[80, 82, 73, 67, 69]⟩ : ByteArray).data.toList X5.data.toList) ++ line (⟨#[67, 72, 65, 78, 71, 69]⟩ : ByteArray).data.toList X6.data.toList) ++ line (⟨#[85, 78, 73, 84, 83]⟩ : ByteArray).data.toList X7.data.toList)) := by show l8 = _; rw [← hq, ← show l7 = (((((((([] : List UInt8) ++ line (⟨#[77, 69, 84, 69, 82]⟩ : ByteArray).data.toList X0.data.toList) ++ line (⟨#[78, 85, 77, 66, 69, 82]⟩ : ByteArray).data.toList X1.data.toList) ++ line (⟨#[84, 69, 78, 68, 69, 82]⟩ : ByteArray).data.toList X2.data.toList) ++ line (⟨#[68, 69, 66, 84]⟩ : ByteArray).data.toList X3.data.toList) ++ line (⟨#[70, 69, 69]⟩ : ByteArray).data.toList X4.data.toList) ++ line (⟨#[80, 82, 73, 67, 69]⟩ : ByteArray).data.toList X5.data.toList) ++ line (⟨#[67, 72, 65, 78, 71, 69]⟩ : ByteArray).data.toList X6.data.toList) from HE7.out]
  clear hs hb HA7 HXU7 HBU7 hzU7 HSU7 H7 HL7 HE7 hq
  have x8 : V8.cell? ⟨w.heap.size, 8, none⟩ = some (.string S) := HX8.out.cell 8
  have HC8 := H8.out V8 HB8.out
  go_wp2_with fail
  refine HC8.mono ?_
  rintro e U8 ⟨rfl, hb⟩
  have HSU8 : Hid (Sb gp gp (Lib.byteCells l8) U8) := HS8.out.next hb
  have HXU8 : Hid (Blk U8 w.heap.size #[.int .i64 me, .int .i64 id, .int .i64 te, .int .i64 de, .int .i64 fe, .int .i64 pr, .int .i64 ch, .int .i64 un, .string S] 25) := HX8.out.next hb
  have HBU8 : Hid (Below w.heap.size w U8) := bel_step HB8.out hb
  have hzU8 : gp ≤ U8.heap.size := Nat.le_trans hz8 hb.size
  clear hb HC8 HS8 HX8 HB8 hz8 x8
  have HA8 := line_any gp gp l8 (⟨#[84, 79, 75, 69, 78]⟩ : ByteArray) X8 U8 HSU8.out (by have := HL8.out; omega) (by decide) (by omega) hzU8
  go_wp2_with fail
  refine HA8.mono ?_
  rintro e V9 ⟨rfl, hs, hb⟩
  have HX9 : Hid (Blk V9 w.heap.size #[.int .i64 me, .int .i64 id, .int .i64 te, .int .i64 de, .int .i64 fe, .int .i64 pr, .int .i64 ch, .int .i64 un, .string S] 25) := HXU8.out.below hb HGP.out
  have HB9 : Hid (Below w.heap.size w V9) := HBU8.out.trans (hb.mono (Nat.le_of_lt HGP.out))
  have hz9 : gp ≤ V9.heap.size := Nat.le_trans hzU8 hb.size
  have HL9 : Hid ((l8 ++ line (⟨#[84, 79, 75, 69, 78]⟩ : ByteArray).data.toList X8.data.toList).length ≤ 540) := by
    show _ ≤ _
    rw [List.length_append, pline_len]
    have h1 := HL8.out
    have h2 : X8.data.toList.length = X8.size := Array.length_toList
    have h3 : (⟨#[84, 79, 75, 69, 78]⟩ : ByteArray).data.toList.length ≤ 6 := by decide
    omega
  have HS9 : Hid (Sb gp gp (Lib.byteCells (l8 ++ line (⟨#[84, 79, 75, 69, 78]⟩ : ByteArray).data.toList X8.data.toList)) V9) := hs
  generalize hq : l8 ++ line (⟨#[84, 79, 75, 69, 78]⟩ : ByteArray).data.toList X8.data.toList = l9 at HS9 HL9
  have HE9 : Hid (EqL l9 (((((((((([] : List UInt8) ++ line (⟨#[77, 69, 84, 69, 82]⟩ : ByteArray).data.toList X0.data.toList) ++ line (⟨#[78, 85, 77, 66, 69, 82]⟩ : ByteArray).data.toList X1.data.toList) ++ line (⟨#[84, 69, 78, 68, 69, 82]⟩ : ByteArray).data.toList X2.data.toList) ++ line (⟨#[68, 69, 66, 84]⟩ : ByteArray).data.toList X3.data.toList) ++ line (⟨#[70, 69, 69]⟩ : ByteArray).data.toList X4.data.toList) ++ line (⟨#[80, 82, 73, 67, 69]⟩ : ByteArray).data.toList X5.data.toList) ++ line (⟨#[67, 72, 65, 78, 71, 69]⟩ : ByteArray).data.toList X6.data.toList) ++ line (⟨#[85, 78, 73, 84, 83]⟩ : ByteArray).data.toList X7.data.toList) ++ line (⟨#[84, 79, 75, 69, 78]⟩ : ByteArray).data.toList X8.data.toList)) := by show l9 = _; rw [← hq, ← show l8 = ((((((((([] : List UInt8) ++ line (⟨#[77, 69, 84, 69, 82]⟩ : ByteArray).data.toList X0.data.toList) ++ line (⟨#[78, 85, 77, 66, 69, 82]⟩ : ByteArray).data.toList X1.data.toList) ++ line (⟨#[84, 69, 78, 68, 69, 82]⟩ : ByteArray).data.toList X2.data.toList) ++ line (⟨#[68, 69, 66, 84]⟩ : ByteArray).data.toList X3.data.toList) ++ line (⟨#[70, 69, 69]⟩ : ByteArray).data.toList X4.data.toList) ++ line (⟨#[80, 82, 73, 67, 69]⟩ : ByteArray).data.toList X5.data.toList) ++ line (⟨#[67, 72, 65, 78, 71, 69]⟩ : ByteArray).data.toList X6.data.toList) ++ line (⟨#[85, 78, 73, 84, 83]⟩ : ByteArray).data.toList X7.data.toList) from HE8.out]
  clear hs hb HA8 HXU8 HBU8 hzU8 HSU8 H8 HL8 HE8 hq
  have hne : l9 ≠ [] := by
    rw [show l9 = _ from HE9.out]
    intro h
    have := congrArg List.length h
    rw [List.length_append, pline_len] at this
    simp at this
  have HT := text_any gp gp l9 V9 HS9.out hne
  clear HS9 HX9
  go_wp2_with fail
  refine HT.mono ?_
  rintro e V10 ⟨rfl, hb⟩
  have HB10 : Hid (Below w.heap.size w V10) := HB9.out.trans (hb.mono (Nat.le_of_lt HGP.out))
  clear hb HT HB9
  go_wp2_with fail
  go_ret
  exact ⟨l9, rfl, HE9.out, HB10.out⟩

theorem big_itoa (n : Int) (w : World) (h0 : 0 ≤ n) (h1 : n ≤ 1000000000000) (ht : cents.Tab w) :
    Calls Tryz.prog 33 #[.int .i64 n] w fun e w' => e = .returned (.string ⟨(Lib.decDigits n.toNat).toArray⟩) ∧ Below w.heap.size w w' := cents.itoa_big n w h0 h1 ht
theorem dec_len40 (n : Nat) (h : n ≤ 100000000) : (Lib.decDigits n).length ≤ 20 := by
  have step : ∀ k : Nat, ∀ v : Nat, v < 10 ^ (k + 1) → (Lib.decDigits v).length ≤ k + 1 := fun k => by
    induction k with
    | zero =>
      intro v hv
      have : ∀ x, x < 10 → (Lib.decDigits x).length ≤ 0 + 1 := by decide +kernel
      exact this v (by omega)
    | succ k ih =>
      intro v hv
      by_cases h10 : v < 10
      · have : ∀ x, x < 10 → (Lib.decDigits x).length ≤ 1 := by decide +kernel
        have := this v h10
        omega
      · rw [cents.dec_step h10, List.length_append]
        have := ih (v / 10) (by rw [Nat.pow_succ] at hv; omega)
        simp
        omega
  have := step 8 n (by omega)
  omega
theorem show_len40 {n : Int} (h0 : 0 ≤ n) (h1 : n ≤ 100000000) : (cents.showT n).length ≤ 40 := by
  unfold cents.showT
  rw [if_neg (by omega)]
  unfold cents.showP
  have a := dec_len40 (n / 100).toNat (by omega)
  have b : ∀ x, x < 10 → (Lib.decDigits x).length = 1 := by decide +kernel
  have b1 := b (n / 10 % 10).toNat (by omega)
  have b2 := b (n % 10).toNat (by omega)
  simp only [List.length_append, List.length_cons, List.length_nil]
  omega
theorem write_any (r : Rc) (w : World) (hr : Right r) (hm : check.MTab w) (hc : cents.Tab w) : Calls Tryz.prog 12 #[r.v] w fun e w' => e = .returned (.string ⟨(paper r).toArray⟩) ∧ Below w.heap.size w w' := by
  obtain ⟨hme, ⟨⟨⟨t0, t1⟩, ⟨d0, d1⟩, ⟨f0, f1⟩, p0, p1⟩, ⟨c0, c1⟩, ⟨i0, i1⟩, u0, u1⟩, _, hp, _⟩ := hr
  have hl20 := (parse_len hp).1
  have sh : ∀ (n : Int) (w' : World), Below w.heap.size w w' → 0 ≤ n → n ≤ 100000000 → Calls Tryz.prog 30 #[.int .i64 n] w' fun e w'' => e = .returned (.tuple #[.string ⟨(cents.showT n).toArray⟩, .int .i64 0]) ∧ Below w'.heap.size w' w'' := fun n w' hb a b => cents.show_any n w' (by omega) (by omega) (cents.tab_below hc hb)
  refine (write_abs r.me r.id r.te r.de r.fe r.pr r.ch r.un ⟨r.tk.toArray⟩ ⟨(numL r.me.toNat).toArray⟩ ⟨(Lib.decDigits r.id.toNat).toArray⟩ ⟨(cents.showT r.te).toArray⟩ ⟨(cents.showT r.de).toArray⟩ ⟨(cents.showT r.fe).toArray⟩ ⟨(cents.showT r.pr).toArray⟩ ⟨(cents.showT r.ch).toArray⟩ ⟨(Lib.decDigits r.un.toNat).toArray⟩ ⟨(four r.tk).toArray⟩ w
    ?_ ?_ (show_len40 t0 t1) (show_len40 d0 d1) (show_len40 f0 f1) (show_len40 p0 p1) (show_len40 c0 c1) ?_ ?_ ?_ ?_ (fun w' hb => sh _ w' hb t0 t1) (fun w' hb => sh _ w' hb d0 d1) (fun w' hb => sh _ w' hb f0 f1) (fun w' hb => sh _ w' hb p0 p1) (fun w' hb => sh _ w' hb c0 c1) ?_ ?_).mono ?_
  · show (numL r.me.toNat).length ≤ 40
    have := (num_all r.me.toNat (by have := hme.2; have := hme.1; omega)).1
    omega
  · have := dec_len40 r.id.toNat (by omega); show (Lib.decDigits r.id.toNat).length ≤ 40; omega
  · have := dec_len40 r.un.toNat (by omega); show (Lib.decDigits r.un.toNat).length ≤ 40; omega
  · show (four r.tk).length ≤ 40; rw [four_len hl20]; decide
  · intro w' hb
    refine (pnumber_any r.me w' (hm.below hb)).mono ?_
    rintro e w'' ⟨l, f, rfl, hi, hb2⟩
    rcases hi with ⟨_, rfl, rfl⟩ | ⟨h, _⟩
    · exact ⟨rfl, hb2⟩
    · exact absurd hme h
  · intro w' hb; exact big_itoa _ w' (by omega) (by omega) (cents.tab_below hc hb)
  · intro w' hb; exact big_itoa _ w' (by omega) (by omega) (cents.tab_below hc hb)
  · intro w' hb; exact rcf.fours_any ⟨r.tk.toArray⟩ w' hl20
  · rintro e w' ⟨L, rfl, hL, hb⟩
    refine ⟨?_, hb⟩
    have e : L = paper r := by
      rw [hL]
      unfold paper
      simp only [List.nil_append, List.append_assoc]
      rfl
    rw [e]

end Go.Proofs.YtlicdeppfhmfjaaGreatDoor.rcp

/- A receipt is shown. -/
namespace Go.Proofs.YtlicdeppfhmfjaaGreatDoor.rcp
open Go.RowKit
set_option maxRecDepth 100000
set_option linter.unusedVariables false
set_option linter.unusedSimpArgs false

/-- The tables that showing a receipt reads. -/
structure STab (w : World) : Prop where
  m : check.MTab w
  c : cents.Tab w
  t : token.TTab w
theorem STab.below {w w' : World} (h : STab w) (hb : Below w.heap.size w w') : STab w' := ⟨h.m.below hb, cents.tab_below h.c hb, h.t.below hb⟩
set_option maxHeartbeats 2000000 in
theorem show_abs (me id te de fe pr ch un f : Int) (S T R : ByteArray) (w : World) (hf : -1000 ≤ f ∧ f ≤ 1000) (hR0 : f = 0 → R = T) (hR1 : f ≠ 0 → R = ⟨#[]⟩)
    (hC : ∀ w', Below w.heap.size w w' → Calls Tryz.prog 11 #[.agg #[.int .i64 me, .int .i64 id, .int .i64 te, .int .i64 de, .int .i64 fe, .int .i64 pr, .int .i64 ch, .int .i64 un, .string S]] w' fun e w'' => e = .returned (.int .i64 f) ∧ Below w'.heap.size w' w'')
    (hW : f = 0 → ∀ w', Below w.heap.size w w' → Calls Tryz.prog 12 #[.agg #[.int .i64 me, .int .i64 id, .int .i64 te, .int .i64 de, .int .i64 fe, .int .i64 pr, .int .i64 ch, .int .i64 un, .string S]] w' fun e w'' => e = .returned (.string T) ∧ Below w'.heap.size w' w'') :
    Calls Tryz.prog 6 #[.agg #[.int .i64 me, .int .i64 id, .int .i64 te, .int .i64 de, .int .i64 fe, .int .i64 pr, .int .i64 ch, .int .i64 un, .string S]] w fun e w' => e = .returned (.tuple #[.string R, .int .i64 f]) ∧ Below w.heap.size w w' := by
  have HX0 : Hid (Blk (w.alloc (.cells #[.int .i64 me, .int .i64 id, .int .i64 te, .int .i64 de, .int .i64 fe, .int .i64 pr, .int .i64 ch, .int .i64 un, .string S] 25)) w.heap.size #[.int .i64 me, .int .i64 id, .int .i64 te, .int .i64 de, .int .i64 fe, .int .i64 pr, .int .i64 ch, .int .i64 un, .string S] 25) := Blk.new _ _ _
  have HB0 : Hid (Below w.heap.size w (w.alloc (.cells #[.int .i64 me, .int .i64 id, .int .i64 te, .int .i64 de, .int .i64 fe, .int .i64 pr, .int .i64 ch, .int .i64 un, .string S] 25))) := (Below.refl _ _).alloc (Nat.le_refl _) _
  go_enter Tryz.func6, Tryz.ntmps6
  go_upto_region 1 with fail
  generalize w.alloc (.cells #[.int .i64 me, .int .i64 id, .int .i64 te, .int .i64 de, .int .i64 fe, .int .i64 pr, .int .i64 ch, .int .i64 un, .string S] 25) = W0 at *
  have HC := hC W0 HB0.out
  have HW : Hid (f = 0 → ∀ w', Below w.heap.size w w' → Calls Tryz.prog 12 #[.agg #[.int .i64 me, .int .i64 id, .int .i64 te, .int .i64 de, .int .i64 fe, .int .i64 pr, .int .i64 ch, .int .i64 un, .string S]] w' fun e w'' => e = .returned (.string T) ∧ Below w'.heap.size w' w'') := hW
  clear hC hW
  have c0 : W0.cell? ⟨w.heap.size, 0, none⟩ = some (.int .i64 me) := HX0.out.cell 0
  have c1 : W0.cell? ⟨w.heap.size, 1, none⟩ = some (.int .i64 id) := HX0.out.cell 1
  have c2 : W0.cell? ⟨w.heap.size, 2, none⟩ = some (.int .i64 te) := HX0.out.cell 2
  have c3 : W0.cell? ⟨w.heap.size, 3, none⟩ = some (.int .i64 de) := HX0.out.cell 3
  have c4 : W0.cell? ⟨w.heap.size, 4, none⟩ = some (.int .i64 fe) := HX0.out.cell 4
  have c5 : W0.cell? ⟨w.heap.size, 5, none⟩ = some (.int .i64 pr) := HX0.out.cell 5
  have c6 : W0.cell? ⟨w.heap.size, 6, none⟩ = some (.int .i64 ch) := HX0.out.cell 6
  have c7 : W0.cell? ⟨w.heap.size, 7, none⟩ = some (.int .i64 un) := HX0.out.cell 7
  have c8 : W0.cell? ⟨w.heap.size, 8, none⟩ = some (.string S) := HX0.out.cell 8
  go_wp2_with fail
  refine HC.mono ?_
  rintro e W1 ⟨rfl, hb⟩
  have HX1 : Hid (Blk W1 w.heap.size #[.int .i64 me, .int .i64 id, .int .i64 te, .int .i64 de, .int .i64 fe, .int .i64 pr, .int .i64 ch, .int .i64 un, .string S] 25) := HX0.out.next hb
  have HB1 : Hid (Below w.heap.size w W1) := bel_step HB0.out hb
  clear hb HC HX0 HB0 c0 c1 c2 c3 c4 c5 c6 c7 c8
  obtain ⟨f0, f1⟩ := hf
  by_cases h : f = 0
  · have hq : (f != 0) = false := by simpa using h
    have HWW := HW.out h W1 HB1.out
    have HF : Hid (f = 0) := h
    have HR : Hid (R = T) := hR0 h
    clear h HW hR0 hR1
    have c0 : W1.cell? ⟨w.heap.size, 0, none⟩ = some (.int .i64 me) := HX1.out.cell 0
    have c1 : W1.cell? ⟨w.heap.size, 1, none⟩ = some (.int .i64 id) := HX1.out.cell 1
    have c2 : W1.cell? ⟨w.heap.size, 2, none⟩ = some (.int .i64 te) := HX1.out.cell 2
    have c3 : W1.cell? ⟨w.heap.size, 3, none⟩ = some (.int .i64 de) := HX1.out.cell 3
    have c4 : W1.cell? ⟨w.heap.size, 4, none⟩ = some (.int .i64 fe) := HX1.out.cell 4
    have c5 : W1.cell? ⟨w.heap.size, 5, none⟩ = some (.int .i64 pr) := HX1.out.cell 5
    have c6 : W1.cell? ⟨w.heap.size, 6, none⟩ = some (.int .i64 ch) := HX1.out.cell 6
    have c7 : W1.cell? ⟨w.heap.size, 7, none⟩ = some (.int .i64 un) := HX1.out.cell 7
    have c8 : W1.cell? ⟨w.heap.size, 8, none⟩ = some (.string S) := HX1.out.cell 8
    go_wp2_with fail
    refine HWW.mono ?_
    rintro e W2 ⟨rfl, hb⟩
    have HB2 : Hid (Below w.heap.size w W2) := bel_step HB1.out hb
    clear hb HWW HX1 HB1 c0 c1 c2 c3 c4 c5 c6 c7 c8
    go_wp2_with fail
    go_ret2
    exact ⟨by rw [HF.out, HR.out]; rfl, HB2.out⟩
  · have hq : (f != 0) = true := by simpa using h
    have HR : Hid (R = ⟨#[]⟩) := hR1 h
    clear h HW hR0 hR1
    go_wp2_with fail
    go_ret2
    exact ⟨by rw [HR.out]; rfl, HB1.out⟩
theorem FaultIs.bd {r : Rc} {f : Int} (h : FaultIs r f) : -1000 ≤ f ∧ f ≤ 1000 := by
  rcases h with ⟨_, rfl⟩ | ⟨_, _, rfl⟩ | ⟨_, _, _, rfl⟩ | ⟨_, _, _, _, rfl⟩ | ⟨_, _, _, _, _, rfl⟩ | ⟨_, _, _, _, _, rfl⟩ <;> first | exact ⟨by decide, by decide⟩ | (unfold token.parseE; repeat' split) <;> exact ⟨by decide, by decide⟩
theorem fault_ex (r : Rc) : ∃ f, FaultIs r f := by
  by_cases h1 : 0 ≤ r.me ∧ r.me ≤ 49
  case neg => exact ⟨_, .inl ⟨h1, rfl⟩⟩
  have d : ∀ p : Prop, p ∨ ¬ p := Classical.em
  rcases d (RRange r) with h2 | h2
  case inr => exact ⟨_, .inr (.inl ⟨h1, h2, rfl⟩)⟩
  rcases d (RSum r) with h3 | h3
  case inr => exact ⟨_, .inr (.inr (.inl ⟨h1, h2, h3, rfl⟩))⟩
  rcases d (token.parseE r.tk = 0) with h4 | h4
  case inr => exact ⟨_, .inr (.inr (.inr (.inl ⟨h1, h2, h3, h4, rfl⟩)))⟩
  rcases d (RTok r) with h5 | h5
  case inr => exact ⟨_, .inr (.inr (.inr (.inr (.inl ⟨h1, h2, h3, h4, h5, rfl⟩))))⟩
  exact ⟨_, .inr (.inr (.inr (.inr (.inr ⟨h1, h2, h3, h4, h5, rfl⟩))))⟩
theorem show_any (r : Rc) (w : World) (ht : STab w) : Calls Tryz.prog 6 #[r.v] w fun e w' => ShowPost w r e w' := by
  obtain ⟨f, hf⟩ := fault_ex r
  refine (show_abs r.me r.id r.te r.de r.fe r.pr r.ch r.un f ⟨r.tk.toArray⟩ ⟨(paper r).toArray⟩ (if f = 0 then ⟨(paper r).toArray⟩ else ⟨#[]⟩) w hf.bd (fun h => if_pos h) (fun h => if_neg h) (fun w' hb => ?_) (fun h0 w' hb => ?_)).mono ?_
  · refine (check_any r w' (ht.below hb).t).mono ?_
    rintro e w'' ⟨g, rfl, hg, hb2⟩
    rw [hg.one hf]
    exact ⟨rfl, hb2⟩
  · exact write_any r w' (hf.ok.1 h0) (ht.below hb).m (ht.below hb).c
  · rintro e w' ⟨rfl, hb⟩
    by_cases h : f = 0
    · rw [if_pos h]; exact ⟨paper r, f, rfl, ⟨hf, .inl ⟨h, rfl⟩⟩, hb⟩
    · rw [if_neg h]; exact ⟨[], f, rfl, ⟨hf, .inr ⟨h, rfl⟩⟩, hb⟩
theorem kshow {w : World} (ht : STab w) : KrShow w := fun W r hb _ => show_any r W (ht.below hb)

end Go.Proofs.YtlicdeppfhmfjaaGreatDoor.rcp

/- A receipt is read. -/
namespace Go.Proofs.YtlicdeppfhmfjaaGreatDoor.rcp
open Go.Proofs.YtlicdeppfhmfjaaGreatDoor.rcg (XL Errs found_small named_any guess_abs g1_any g2_any)
open Go.Proofs.YtlicdeppfhmfjaaGreatDoor.cents (readR)
open Go.RowKit
set_option maxRecDepth 100000
set_option linter.unusedVariables false
set_option linter.unusedSimpArgs false

/-- What reading a receipt asks of the library's and the program's variables. -/
structure RTab (w : World) : Prop where
  s : STab w
  x : XL w
  e : Errs w
theorem RTab.below {w w' : World} (h : RTab w) (hb : Below w.heap.size w w') : RTab w' := ⟨h.s.below hb, h.x.below hb, h.e.below hb⟩
theorem meter_ex (l : List UInt8) : ∃ m e, MeterIs l m e := by
  by_cases h1 : l.length = 11
  case neg => exact ⟨_, _, .inl ⟨h1, rfl, rfl⟩⟩
  by_cases h2 : check.flawR l = 0
  case neg => exact ⟨_, _, .inr (.inl ⟨h1, h2, rfl, rfl⟩)⟩
  cases h3 : check.goodR l with
  | false => exact ⟨_, _, .inr (.inr (.inl ⟨h1, h2, h3, rfl, rfl⟩))⟩
  | true =>
    rcases Classical.em (∃ k, Named l k) with ⟨k, hk⟩ | hn
    · exact ⟨_, _, .inr (.inr (.inr (.inr ⟨h1, h2, h3, k, hk, rfl, rfl⟩)))⟩
    · exact ⟨_, _, .inr (.inr (.inr (.inl ⟨h1, h2, h3, fun k hk => hn ⟨k, hk⟩, rfl, rfl⟩)))⟩
theorem guess_any (s : ByteArray) (me e : Int) (w : World) (hs : s.size ≤ 400) (ht : RTab w) (hm : MeterIs (found s.data.toList nMETER) me e) :
    Calls Tryz.prog 17 #[.string s] w fun e w' => e = .returned (gs s.data.toList me).v ∧ Below w.heap.size w w' := by
  have hl : ∀ k, (found s.data.toList k).length ≤ 400 := fun k => Nat.le_trans (found_small s k) hs
  refine guess_abs s (found s.data.toList) me w ⟨(found s.data.toList nTOKEN).toArray⟩ ⟨(Lib.replaceAll (found s.data.toList nTOKEN) [32] []).toArray⟩ ⟨(found s.data.toList nMETER).toArray⟩
    (atoiV (found s.data.toList nNUMBER)) (readR (found s.data.toList nTENDER)).1 (readR (found s.data.toList nDEBT)).1 (readR (found s.data.toList nFEE)).1 (readR (found s.data.toList nPRICE)).1 (readR (found s.data.toList nCHANGE)).1 (atoiV (found s.data.toList nUNITS))
    (fun w' hb => named_any s w' hs (ht.below hb).x) rfl rfl (fun w' hb => ?_) (fun gb b c nm V w' hb hx hf hin => ?_) (fun gb b c nm V w' hb hx hf hin => ?_) (fun w' hb => ?_)
  · refine (pmeter_any ⟨(found s.data.toList nMETER).toArray⟩ w' (ht.below hb).s.m).mono ?_
    rintro e2 w'' ⟨m, f, rfl, hi, hb2⟩
    obtain ⟨rfl, rfl⟩ := hi.one hm
    exact ⟨_, rfl, hb2⟩
  · simp only [List.mem_cons, List.mem_nil_iff, or_false, Prod.mk.injEq] at hin
    rcases hin with ⟨rfl, rfl⟩ | ⟨rfl, rfl⟩ | ⟨rfl, rfl⟩ | ⟨rfl, rfl⟩ | ⟨rfl, rfl⟩ <;> exact g1_any gb b c _ _ w' hx hf (by decide) (hl _)
  · simp only [List.mem_cons, List.mem_nil_iff, or_false, Prod.mk.injEq] at hin
    rcases hin with ⟨rfl, rfl⟩ | ⟨rfl, rfl⟩ <;> exact g2_any gb b c _ _ w' hx hf (by decide) (hl _) (ht.below hb).e
  · obtain ⟨m, hm⟩ := (ht.below hb).x
    have h4 := hl nTOKEN
    have hz : (⟨(found s.data.toList nTOKEN).toArray⟩ : ByteArray).size = (found s.data.toList nTOKEN).length := rfl
    exact Tryz.strings_ReplaceAll ⟨(found s.data.toList nTOKEN).toArray⟩ ⟨#[32]⟩ ⟨#[]⟩ m w' (by omega) hm (by decide) (by show _ + _ * 0 ≤ _; omega)
set_option maxHeartbeats 1000000 in
theorem read_big (s : ByteArray) (w : World) (h : 400 < s.size) : Calls Tryz.prog 8 #[.string s] w fun e w' => e = .returned (.tuple #[Rc.v rc0, .int .i64 1]) ∧ Below w.heap.size w w' := by
  have hq : (400 : Int) < (s.size : Int) := by omega
  have HZ0 : Hid (Blk (w.alloc (.cells #[.int .i64 0, .int .i64 0, .int .i64 0, .int .i64 0, .int .i64 0, .int .i64 0, .int .i64 0, .int .i64 0, .string ⟨#[]⟩] 25)) w.heap.size #[.int .i64 0, .int .i64 0, .int .i64 0, .int .i64 0, .int .i64 0, .int .i64 0, .int .i64 0, .int .i64 0, .string ⟨#[]⟩] 25) := Blk.new _ _ _
  have HB0 : Hid (Below w.heap.size w (w.alloc (.cells #[.int .i64 0, .int .i64 0, .int .i64 0, .int .i64 0, .int .i64 0, .int .i64 0, .int .i64 0, .int .i64 0, .string ⟨#[]⟩] 25))) := (Below.refl _ _).alloc (Nat.le_refl _) _
  clear h
  go_enter Tryz.func8, Tryz.ntmps8
  go_upto_region 1 with fail
  generalize w.alloc (.cells #[.int .i64 0, .int .i64 0, .int .i64 0, .int .i64 0, .int .i64 0, .int .i64 0, .int .i64 0, .int .i64 0, .string ⟨#[]⟩] 25) = W0 at *
  go_wp2_with (first | (refine wp_letAll rfl 25 _ _ rfl w.heap.size rfl #[.int .i64 0, .int .i64 0, .int .i64 0, .int .i64 0, .int .i64 0, .int .i64 0, .int .i64 0, .int .i64 0, .string ⟨#[]⟩] rfl (by kernel_rfl) (by simp [Value.oneCell']) #[.int .i64 0, .int .i64 0, .int .i64 0, .int .i64 0, .int .i64 0, .int .i64 0, .int .i64 0, .int .i64 0, .string ⟨#[]⟩] 25 HZ0.out rfl ?_) | fail)
  intro WF hUF
  have HBF : Hid (Below w.heap.size w WF) := hUF.bel _ _ (Nat.le_refl _) HB0.out
  have R0 : Hid (WF.cell? ⟨w.heap.size, 0, none⟩ = some (.int .i64 0)) := hUF.blk.cell 0
  have R1 : Hid (WF.cell? ⟨w.heap.size, 1, none⟩ = some (.int .i64 0)) := hUF.blk.cell 1
  have R2 : Hid (WF.cell? ⟨w.heap.size, 2, none⟩ = some (.int .i64 0)) := hUF.blk.cell 2
  have R3 : Hid (WF.cell? ⟨w.heap.size, 3, none⟩ = some (.int .i64 0)) := hUF.blk.cell 3
  have R4 : Hid (WF.cell? ⟨w.heap.size, 4, none⟩ = some (.int .i64 0)) := hUF.blk.cell 4
  have R5 : Hid (WF.cell? ⟨w.heap.size, 5, none⟩ = some (.int .i64 0)) := hUF.blk.cell 5
  have R6 : Hid (WF.cell? ⟨w.heap.size, 6, none⟩ = some (.int .i64 0)) := hUF.blk.cell 6
  have R7 : Hid (WF.cell? ⟨w.heap.size, 7, none⟩ = some (.int .i64 0)) := hUF.blk.cell 7
  have R8 : Hid (WF.cell? ⟨w.heap.size, 8, none⟩ = some (.string ⟨#[]⟩)) := hUF.blk.cell 8
  clear hUF
  go_wp2_with fail
  exact bodyPost_ret (v := .tuple #[.agg #[.int .i64 0, .int .i64 0, .int .i64 0, .int .i64 0, .int .i64 0, .int .i64 0, .int .i64 0, .int .i64 0, .string ⟨#[]⟩], .int .i64 1]) (by simp [results, Tryz.results8, R0.out, R1.out, R2.out, R3.out, R4.out, R5.out, R6.out, R7.out, R8.out, go_sem]) rfl ⟨rfl, HBF.out⟩
set_option maxHeartbeats 4000000 in
theorem read_abs (s T S : ByteArray) (me id te de fe pr ch un f : Int) (w : World) (PO : Value) (h : s.size ≤ 400) (hf : -1000 ≤ f ∧ f ≤ 1000)
    (hp1 : f = 0 → T = s → PO = .tuple #[.agg #[.int .i64 me, .int .i64 id, .int .i64 te, .int .i64 de, .int .i64 fe, .int .i64 pr, .int .i64 ch, .int .i64 un, .string S], .int .i64 0]) (hp2 : (f = 0 → T ≠ s) → PO = .tuple #[.agg #[.int .i64 0, .int .i64 0, .int .i64 0, .int .i64 0, .int .i64 0, .int .i64 0, .int .i64 0, .int .i64 0, .string ⟨#[]⟩], .int .i64 3])
    (hG : ∀ w', Below w.heap.size w w' → Calls Tryz.prog 17 #[.string s] w' fun e w'' => e = .returned (.agg #[.int .i64 me, .int .i64 id, .int .i64 te, .int .i64 de, .int .i64 fe, .int .i64 pr, .int .i64 ch, .int .i64 un, .string S]) ∧ Below w'.heap.size w' w'')
    (hS : ∀ w', Below w.heap.size w w' → Calls Tryz.prog 6 #[.agg #[.int .i64 me, .int .i64 id, .int .i64 te, .int .i64 de, .int .i64 fe, .int .i64 pr, .int .i64 ch, .int .i64 un, .string S]] w' fun e w'' => e = .returned (.tuple #[.string T, .int .i64 f]) ∧ Below w'.heap.size w' w'') :
    Calls Tryz.prog 8 #[.string s] w fun e w' => e = .returned PO ∧ Below w.heap.size w w' := by
  have hq : ¬ (400 : Int) < (s.size : Int) := by omega
  have HZ0 : Hid (Blk (w.alloc (.cells #[.int .i64 0, .int .i64 0, .int .i64 0, .int .i64 0, .int .i64 0, .int .i64 0, .int .i64 0, .int .i64 0, .string ⟨#[]⟩] 25)) w.heap.size #[.int .i64 0, .int .i64 0, .int .i64 0, .int .i64 0, .int .i64 0, .int .i64 0, .int .i64 0, .int .i64 0, .string ⟨#[]⟩] 25) := Blk.new _ _ _
  have HB0 : Hid (Below w.heap.size w (w.alloc (.cells #[.int .i64 0, .int .i64 0, .int .i64 0, .int .i64 0, .int .i64 0, .int .i64 0, .int .i64 0, .int .i64 0, .string ⟨#[]⟩] 25))) := (Below.refl _ _).alloc (Nat.le_refl _) _
  have HS : Hid (∀ w', Below w.heap.size w w' → Calls Tryz.prog 6 #[.agg #[.int .i64 me, .int .i64 id, .int .i64 te, .int .i64 de, .int .i64 fe, .int .i64 pr, .int .i64 ch, .int .i64 un, .string S]] w' fun e w'' => e = .returned (.tuple #[.string T, .int .i64 f]) ∧ Below w'.heap.size w' w'') := hS
  have HP1 : Hid (f = 0 → T = s → PO = .tuple #[.agg #[.int .i64 me, .int .i64 id, .int .i64 te, .int .i64 de, .int .i64 fe, .int .i64 pr, .int .i64 ch, .int .i64 un, .string S], .int .i64 0]) := hp1
  have HP2 : Hid ((f = 0 → T ≠ s) → PO = .tuple #[.agg #[.int .i64 0, .int .i64 0, .int .i64 0, .int .i64 0, .int .i64 0, .int .i64 0, .int .i64 0, .int .i64 0, .string ⟨#[]⟩], .int .i64 3]) := hp2
  have HG := hG _ HB0.out
  clear h hG hS hp1 hp2
  go_enter Tryz.func8, Tryz.ntmps8
  go_upto_region 1 with fail
  generalize w.alloc (.cells #[.int .i64 0, .int .i64 0, .int .i64 0, .int .i64 0, .int .i64 0, .int .i64 0, .int .i64 0, .int .i64 0, .string ⟨#[]⟩] 25) = W0 at *
  go_wp2_with fail
  refine HG.mono ?_
  rintro e W1 ⟨rfl, hb⟩
  have HB1 : Hid (Below w.heap.size w W1) := bel_step HB0.out hb
  have HZ1 : Hid (Blk W1 w.heap.size #[.int .i64 0, .int .i64 0, .int .i64 0, .int .i64 0, .int .i64 0, .int .i64 0, .int .i64 0, .int .i64 0, .string ⟨#[]⟩] 25) := HZ0.out.next hb
  clear HG hb HZ0 HB0
  have HX2 : Hid (Blk (W1.alloc (.cells #[.int .i64 me, .int .i64 id, .int .i64 te, .int .i64 de, .int .i64 fe, .int .i64 pr, .int .i64 ch, .int .i64 un, .string S] 25)) W1.heap.size #[.int .i64 me, .int .i64 id, .int .i64 te, .int .i64 de, .int .i64 fe, .int .i64 pr, .int .i64 ch, .int .i64 un, .string S] 25) := Blk.new _ _ _
  have HB2 : Hid (Below w.heap.size w (W1.alloc (.cells #[.int .i64 me, .int .i64 id, .int .i64 te, .int .i64 de, .int .i64 fe, .int .i64 pr, .int .i64 ch, .int .i64 un, .string S] 25))) := HB1.out.alloc HB1.out.size _
  have HZ2 : Hid (Blk (W1.alloc (.cells #[.int .i64 me, .int .i64 id, .int .i64 te, .int .i64 de, .int .i64 fe, .int .i64 pr, .int .i64 ch, .int .i64 un, .string S] 25)) w.heap.size #[.int .i64 0, .int .i64 0, .int .i64 0, .int .i64 0, .int .i64 0, .int .i64 0, .int .i64 0, .int .i64 0, .string ⟨#[]⟩] 25) := HZ1.out.alloc _
  clear HB1 HZ1
  go_upto_region 4 with fail
  generalize W1.alloc (.cells #[.int .i64 me, .int .i64 id, .int .i64 te, .int .i64 de, .int .i64 fe, .int .i64 pr, .int .i64 ch, .int .i64 un, .string S] 25) = W2 at *
  generalize W1.heap.size = g1 at *
  have HSC := HS.out W2 HB2.out
  clear HS
  have c0 : W2.cell? ⟨g1, 0, none⟩ = some (.int .i64 me) := HX2.out.cell 0
  have c1 : W2.cell? ⟨g1, 1, none⟩ = some (.int .i64 id) := HX2.out.cell 1
  have c2 : W2.cell? ⟨g1, 2, none⟩ = some (.int .i64 te) := HX2.out.cell 2
  have c3 : W2.cell? ⟨g1, 3, none⟩ = some (.int .i64 de) := HX2.out.cell 3
  have c4 : W2.cell? ⟨g1, 4, none⟩ = some (.int .i64 fe) := HX2.out.cell 4
  have c5 : W2.cell? ⟨g1, 5, none⟩ = some (.int .i64 pr) := HX2.out.cell 5
  have c6 : W2.cell? ⟨g1, 6, none⟩ = some (.int .i64 ch) := HX2.out.cell 6
  have c7 : W2.cell? ⟨g1, 7, none⟩ = some (.int .i64 un) := HX2.out.cell 7
  have c8 : W2.cell? ⟨g1, 8, none⟩ = some (.string S) := HX2.out.cell 8
  go_wp2_with fail
  refine HSC.mono ?_
  rintro e W5 ⟨rfl, hb⟩
  have HB5 : Hid (Below w.heap.size w W5) := bel_step HB2.out hb
  have HZ5 : Hid (Blk W5 w.heap.size #[.int .i64 0, .int .i64 0, .int .i64 0, .int .i64 0, .int .i64 0, .int .i64 0, .int .i64 0, .int .i64 0, .string ⟨#[]⟩] 25) := HZ2.out.next hb
  have HX5 : Hid (Blk W5 g1 #[.int .i64 me, .int .i64 id, .int .i64 te, .int .i64 de, .int .i64 fe, .int .i64 pr, .int .i64 ch, .int .i64 un, .string S] 25) := HX2.out.next hb
  clear hb HSC HX2 HB2 HZ2 c0 c1 c2 c3 c4 c5 c6 c7 c8
  obtain ⟨f0, f1⟩ := hf
  by_cases h0 : f = 0
  case neg =>
    have hq2 : (f != 0) = true := by simpa using h0
    have HPO : Hid (PO = .tuple #[.agg #[.int .i64 0, .int .i64 0, .int .i64 0, .int .i64 0, .int .i64 0, .int .i64 0, .int .i64 0, .int .i64 0, .string ⟨#[]⟩], .int .i64 3]) := HP2.out fun h => absurd h h0
    clear h0 HP1 HP2 HX5
    go_wp2_with (first | (refine wp_letAll rfl 25 _ _ rfl w.heap.size rfl #[.int .i64 0, .int .i64 0, .int .i64 0, .int .i64 0, .int .i64 0, .int .i64 0, .int .i64 0, .int .i64 0, .string ⟨#[]⟩] rfl (by kernel_rfl) (by simp [Value.oneCell']) #[.int .i64 0, .int .i64 0, .int .i64 0, .int .i64 0, .int .i64 0, .int .i64 0, .int .i64 0, .int .i64 0, .string ⟨#[]⟩] 25 HZ5.out rfl ?_) | fail)
    intro WF hUF
    have HBF : Hid (Below w.heap.size w WF) := hUF.bel _ _ (Nat.le_refl _) HB5.out
    have R0 : Hid (WF.cell? ⟨w.heap.size, 0, none⟩ = some (.int .i64 0)) := hUF.blk.cell 0
    have R1 : Hid (WF.cell? ⟨w.heap.size, 1, none⟩ = some (.int .i64 0)) := hUF.blk.cell 1
    have R2 : Hid (WF.cell? ⟨w.heap.size, 2, none⟩ = some (.int .i64 0)) := hUF.blk.cell 2
    have R3 : Hid (WF.cell? ⟨w.heap.size, 3, none⟩ = some (.int .i64 0)) := hUF.blk.cell 3
    have R4 : Hid (WF.cell? ⟨w.heap.size, 4, none⟩ = some (.int .i64 0)) := hUF.blk.cell 4
    have R5 : Hid (WF.cell? ⟨w.heap.size, 5, none⟩ = some (.int .i64 0)) := hUF.blk.cell 5
    have R6 : Hid (WF.cell? ⟨w.heap.size, 6, none⟩ = some (.int .i64 0)) := hUF.blk.cell 6
    have R7 : Hid (WF.cell? ⟨w.heap.size, 7, none⟩ = some (.int .i64 0)) := hUF.blk.cell 7
    have R8 : Hid (WF.cell? ⟨w.heap.size, 8, none⟩ = some (.string ⟨#[]⟩)) := hUF.blk.cell 8
    clear hUF HZ5
    go_wp2_with fail
    exact bodyPost_ret (v := .tuple #[.agg #[.int .i64 0, .int .i64 0, .int .i64 0, .int .i64 0, .int .i64 0, .int .i64 0, .int .i64 0, .int .i64 0, .string ⟨#[]⟩], .int .i64 3]) (by simp [results, Tryz.results8, R0.out, R1.out, R2.out, R3.out, R4.out, R5.out, R6.out, R7.out, R8.out, go_sem]) rfl ⟨by rw [HPO.out], HBF.out⟩
  have hq2 : (f != 0) = false := by simpa using h0
  by_cases hts : T = s
  · have HPO : Hid (PO = .tuple #[.agg #[.int .i64 me, .int .i64 id, .int .i64 te, .int .i64 de, .int .i64 fe, .int .i64 pr, .int .i64 ch, .int .i64 un, .string S], .int .i64 0]) := HP1.out h0 hts
    have hq3 : (T.toList == s.toList) = true := by rw [hts]; simp
    clear HP1 HP2 h0 hts
    have c0 : W5.cell? ⟨g1, 0, none⟩ = some (.int .i64 me) := HX5.out.cell 0
    have c1 : W5.cell? ⟨g1, 1, none⟩ = some (.int .i64 id) := HX5.out.cell 1
    have c2 : W5.cell? ⟨g1, 2, none⟩ = some (.int .i64 te) := HX5.out.cell 2
    have c3 : W5.cell? ⟨g1, 3, none⟩ = some (.int .i64 de) := HX5.out.cell 3
    have c4 : W5.cell? ⟨g1, 4, none⟩ = some (.int .i64 fe) := HX5.out.cell 4
    have c5 : W5.cell? ⟨g1, 5, none⟩ = some (.int .i64 pr) := HX5.out.cell 5
    have c6 : W5.cell? ⟨g1, 6, none⟩ = some (.int .i64 ch) := HX5.out.cell 6
    have c7 : W5.cell? ⟨g1, 7, none⟩ = some (.int .i64 un) := HX5.out.cell 7
    have c8 : W5.cell? ⟨g1, 8, none⟩ = some (.string S) := HX5.out.cell 8
    go_wp2_with (first | (refine wp_letAll rfl 25 _ _ rfl w.heap.size rfl #[.int .i64 me, .int .i64 id, .int .i64 te, .int .i64 de, .int .i64 fe, .int .i64 pr, .int .i64 ch, .int .i64 un, .string S] rfl (by kernel_rfl) (by simp [Value.oneCell']) #[.int .i64 0, .int .i64 0, .int .i64 0, .int .i64 0, .int .i64 0, .int .i64 0, .int .i64 0, .int .i64 0, .string ⟨#[]⟩] 25 HZ5.out rfl ?_) | fail)
    intro WF hUF
    have HBF : Hid (Below w.heap.size w WF) := hUF.bel _ _ (Nat.le_refl _) HB5.out
    have R0 : Hid (WF.cell? ⟨w.heap.size, 0, none⟩ = some (.int .i64 me)) := hUF.blk.cell 0
    have R1 : Hid (WF.cell? ⟨w.heap.size, 1, none⟩ = some (.int .i64 id)) := hUF.blk.cell 1
    have R2 : Hid (WF.cell? ⟨w.heap.size, 2, none⟩ = some (.int .i64 te)) := hUF.blk.cell 2
    have R3 : Hid (WF.cell? ⟨w.heap.size, 3, none⟩ = some (.int .i64 de)) := hUF.blk.cell 3
    have R4 : Hid (WF.cell? ⟨w.heap.size, 4, none⟩ = some (.int .i64 fe)) := hUF.blk.cell 4
    have R5 : Hid (WF.cell? ⟨w.heap.size, 5, none⟩ = some (.int .i64 pr)) := hUF.blk.cell 5
    have R6 : Hid (WF.cell? ⟨w.heap.size, 6, none⟩ = some (.int .i64 ch)) := hUF.blk.cell 6
    have R7 : Hid (WF.cell? ⟨w.heap.size, 7, none⟩ = some (.int .i64 un)) := hUF.blk.cell 7
    have R8 : Hid (WF.cell? ⟨w.heap.size, 8, none⟩ = some (.string S)) := hUF.blk.cell 8
    clear hUF HZ5
    go_wp2_with fail
    exact bodyPost_ret (v := .tuple #[.agg #[.int .i64 me, .int .i64 id, .int .i64 te, .int .i64 de, .int .i64 fe, .int .i64 pr, .int .i64 ch, .int .i64 un, .string S], .int .i64 0]) (by simp [results, Tryz.results8, R0.out, R1.out, R2.out, R3.out, R4.out, R5.out, R6.out, R7.out, R8.out, go_sem]) rfl ⟨by rw [HPO.out], HBF.out⟩
  · have HPO : Hid (PO = .tuple #[.agg #[.int .i64 0, .int .i64 0, .int .i64 0, .int .i64 0, .int .i64 0, .int .i64 0, .int .i64 0, .int .i64 0, .string ⟨#[]⟩], .int .i64 3]) := HP2.out fun _ => hts
    have hq3 : (T.toList == s.toList) = false := by
      cases hx : (T.toList == s.toList) with
      | false => rfl
      | true =>
        exfalso
        apply hts
        have := eq_of_beq hx
        rw [ByteArray.toList_eq, ByteArray.toList_eq] at this
        exact ByteArray.ext (Array.ext' this)
    clear HP1 HP2 h0 hts HX5
    go_wp2_with (first | (refine wp_letAll rfl 25 _ _ rfl w.heap.size rfl #[.int .i64 0, .int .i64 0, .int .i64 0, .int .i64 0, .int .i64 0, .int .i64 0, .int .i64 0, .int .i64 0, .string ⟨#[]⟩] rfl (by kernel_rfl) (by simp [Value.oneCell']) #[.int .i64 0, .int .i64 0, .int .i64 0, .int .i64 0, .int .i64 0, .int .i64 0, .int .i64 0, .int .i64 0, .string ⟨#[]⟩] 25 HZ5.out rfl ?_) | fail)
    intro WF hUF
    have HBF : Hid (Below w.heap.size w WF) := hUF.bel _ _ (Nat.le_refl _) HB5.out
    have R0 : Hid (WF.cell? ⟨w.heap.size, 0, none⟩ = some (.int .i64 0)) := hUF.blk.cell 0
    have R1 : Hid (WF.cell? ⟨w.heap.size, 1, none⟩ = some (.int .i64 0)) := hUF.blk.cell 1
    have R2 : Hid (WF.cell? ⟨w.heap.size, 2, none⟩ = some (.int .i64 0)) := hUF.blk.cell 2
    have R3 : Hid (WF.cell? ⟨w.heap.size, 3, none⟩ = some (.int .i64 0)) := hUF.blk.cell 3
    have R4 : Hid (WF.cell? ⟨w.heap.size, 4, none⟩ = some (.int .i64 0)) := hUF.blk.cell 4
    have R5 : Hid (WF.cell? ⟨w.heap.size, 5, none⟩ = some (.int .i64 0)) := hUF.blk.cell 5
    have R6 : Hid (WF.cell? ⟨w.heap.size, 6, none⟩ = some (.int .i64 0)) := hUF.blk.cell 6
    have R7 : Hid (WF.cell? ⟨w.heap.size, 7, none⟩ = some (.int .i64 0)) := hUF.blk.cell 7
    have R8 : Hid (WF.cell? ⟨w.heap.size, 8, none⟩ = some (.string ⟨#[]⟩)) := hUF.blk.cell 8
    clear hUF HZ5
    go_wp2_with fail
    exact bodyPost_ret (v := .tuple #[.agg #[.int .i64 0, .int .i64 0, .int .i64 0, .int .i64 0, .int .i64 0, .int .i64 0, .int .i64 0, .int .i64 0, .string ⟨#[]⟩], .int .i64 3]) (by simp [results, Tryz.results8, R0.out, R1.out, R2.out, R3.out, R4.out, R5.out, R6.out, R7.out, R8.out, go_sem]) rfl ⟨by rw [HPO.out], HBF.out⟩

theorem read_any (s : ByteArray) (w : World) (ht : RTab w) : Calls Tryz.prog 8 #[.string s] w fun e w' => ReadPost w s.data.toList e w' := by
  have hl : s.data.toList.length = s.size := Array.length_toList
  by_cases h : 400 < s.size
  · refine (read_big s w h).mono ?_
    rintro e w' ⟨rfl, hb⟩
    exact ⟨rc0, 1, rfl, .inl ⟨by omega, rfl, rfl⟩, hb⟩
  · obtain ⟨me, em, hm⟩ := meter_ex (found s.data.toList nMETER)
    obtain ⟨f, hf⟩ := fault_ex (gs s.data.toList me)
    have hgs : ∀ x, Right x → paper x = s.data.toList → gs s.data.toList me = x := fun x hx hp => by
      rw [← hp] at hm ⊢
      exact gs_right hx hm
    have hT : ∀ l : List UInt8, (⟨l.toArray⟩ : ByteArray) = s → l = s.data.toList := fun l e => by rw [← e]
    refine (read_abs s (if f = 0 then ⟨(paper (gs s.data.toList me)).toArray⟩ else ⟨#[]⟩) ⟨(gs s.data.toList me).tk.toArray⟩ (gs s.data.toList me).me (gs s.data.toList me).id (gs s.data.toList me).te (gs s.data.toList me).de (gs s.data.toList me).fe (gs s.data.toList me).pr (gs s.data.toList me).ch (gs s.data.toList me).un f w
      (if f = 0 ∧ paper (gs s.data.toList me) = s.data.toList then .tuple #[(gs s.data.toList me).v, .int .i64 0] else .tuple #[Rc.v rc0, .int .i64 3]) (by omega) hf.bd (fun h0 e => ?_) (fun hn => ?_) (fun w' hb => guess_any s me em w' (by omega) (ht.below hb) hm) (fun w' hb => ?_)).mono ?_
    · rw [if_pos h0] at e
      rw [if_pos ⟨h0, hT _ e⟩]
      rfl
    · rw [if_neg ?_]
      · rfl
      · rintro ⟨h0, e⟩
        refine hn h0 ?_
        rw [if_pos h0, e]
    · refine (show_any (gs s.data.toList me) w' (ht.below hb).s).mono ?_
      rintro e w'' ⟨l, g, rfl, ⟨hg, hx⟩, hb2⟩
      obtain rfl := hg.one hf
      refine ⟨?_, hb2⟩
      rcases hx with ⟨h0, rfl⟩ | ⟨h0, rfl⟩
      · rw [if_pos h0]
      · rw [if_neg h0]
    · rintro e w' ⟨rfl, hb⟩
      by_cases hc : f = 0 ∧ paper (gs s.data.toList me) = s.data.toList
      · rw [if_pos hc]
        exact ⟨gs s.data.toList me, 0, rfl, .inr (.inr ⟨by omega, hf.ok.1 hc.1, hc.2, rfl⟩), hb⟩
      · rw [if_neg hc]
        refine ⟨rc0, 3, rfl, .inr (.inl ⟨by omega, fun x hx hp => hc ?_, rfl, rfl⟩), hb⟩
        have e := hgs x hx hp
        rw [e] at hf ⊢
        exact ⟨hf.ok.2 hx, hp⟩
theorem kread {w : World} (ht : RTab w) : KrRead w := fun W s hb => read_any s W (ht.below hb)

end Go.Proofs.YtlicdeppfhmfjaaGreatDoor.rcp

/- What Words gives back. -/
namespace Go.Proofs.YtlicdeppfhmfjaaGreatDoor.token
open Go.Proofs.YtlicdeppfhmfjaaGreatDoor.words
open Go.RowKit
set_option linter.unusedSimpArgs false

set_option maxHeartbeats 400000 in
theorem words_no (c i a t : Int) (w : World) (ht : TTab w) (h : flawT c i a t ≠ 0) :
    Calls Tryz.prog 50 #[.agg #[.int .i64 c, .int .i64 i, .int .i64 a, .int .i64 t]] w fun e w' => e = .returned (.tuple #[.agg #[.int .u32 0, .int .u32 0, .int .u32 0], .int .i64 (flawT c i a t)]) ∧ Below w.heap.size w w' := by
  have HF : Hid (∀ W, TTab W → Calls Tryz.prog 57 #[.agg #[.int .i64 c, .int .i64 i, .int .i64 a, .int .i64 t]] W fun e w' => e = .returned (.int .i64 (flawT c i a t)) ∧ Below W.heap.size W w') := fun W hW => flaw_any c i a t W hW
  have hd : (flawT c i a t != 0) = true := by simpa using h
  have hb0 : Below w.heap.size w ((w.alloc (.cells #[.int .i64 c, .int .i64 i, .int .i64 a, .int .i64 t] 51)).alloc (.cells #[.int .u32 0, .int .u32 0, .int .u32 0] 85)) := (bel_box _ _).alloc (by simp) _
  have HB : Hid (Below w.heap.size w ((w.alloc (.cells #[.int .i64 c, .int .i64 i, .int .i64 a, .int .i64 t] 51)).alloc (.cells #[.int .u32 0, .int .u32 0, .int .u32 0] 85))) := hb0
  have HT : Hid (TTab ((w.alloc (.cells #[.int .i64 c, .int .i64 i, .int .i64 a, .int .i64 t] 51)).alloc (.cells #[.int .u32 0, .int .u32 0, .int .u32 0] 85))) := ht.below hb0
  have HX : Hid (Blk ((w.alloc (.cells #[.int .i64 c, .int .i64 i, .int .i64 a, .int .i64 t] 51)).alloc (.cells #[.int .u32 0, .int .u32 0, .int .u32 0] 85)) (w.heap.size + 1) #[.int .u32 0, .int .u32 0, .int .u32 0] 85) := Blk.new1 _ _ _ _
  clear ht h hb0
  generalize flawT c i a t = f at *
  go_enter Tryz.func50, Tryz.ntmps50
  go_wp2_with fail
  refine (HF.out _ HT.out).mono ?_
  rintro e w1 ⟨rfl, hb1⟩
  have hX := HX.out.next hb1
  have hB1 := bel_step HB.out hb1
  have HB1 : Hid (Below w.heap.size w (((w1.setCell ⟨w.heap.size + 1, 0, none⟩ (.int .u32 0)).setCell ⟨w.heap.size + 1, 1, none⟩ (.int .u32 0)).setCell ⟨w.heap.size + 1, 2, none⟩ (.int .u32 0))) := bel_set (bel_set (bel_set hB1 _ _ _ (by omega)) _ _ _ (by omega)) _ _ _ (by omega)
  have RR : Blk (((w1.setCell ⟨w.heap.size + 1, 0, none⟩ (.int .u32 0)).setCell ⟨w.heap.size + 1, 1, none⟩ (.int .u32 0)).setCell ⟨w.heap.size + 1, 2, none⟩ (.int .u32 0)) (w.heap.size + 1) #[.int .u32 0, .int .u32 0, .int .u32 0] 85 := ((hX.set 0 _).set 1 _).set 2 _
  have R0 : Hid (_ = _) := RR.cell 0
  have R1 : Hid (_ = _) := RR.cell 1
  have R2 : Hid (_ = _) := RR.cell 2
  have x0 := hX.cell 0
  have x1 := hX.cell 1
  have x2 := hX.cell 2
  have f0 := hX.free 0
  have f1 := hX.free 1
  have f2 := hX.free 2
  clear hb1 HF HB HT HX hX RR hB1
  go_wp2_with fail
  refine bodyPost_ret (v := .tuple #[.agg #[.int .u32 0, .int .u32 0, .int .u32 0], .int .i64 f]) (by simp [results, Tryz.results50, R0.out, R1.out, R2.out, go_sem]) rfl ⟨rfl, HB1.out⟩

/-- What Words gives back. -/
def WordsPost (w : World) (k : Tok) (e : Ending) (w' : World) : Prop := ∃ a b c : Nat, e = .returned (.tuple #[.agg #[.int .u32 (a : Int), .int .u32 (b : Int), .int .u32 (c : Int)], .int .i64 0]) ∧ WN a b c (k.num * 97) ∧ Below w.heap.size w w'

set_option maxHeartbeats 400000 in
theorem words_ok (k : Tok) (w : World) (ht : TTab w) (hk : k.ok) :
    Calls Tryz.prog 50 #[k.v] w fun e w' => WordsPost w k e w' := by
  have HF : Hid (∀ W, TTab W → Calls Tryz.prog 57 #[.agg #[.int .i64 (k.c : Int), .int .i64 (k.i : Int), .int .i64 (k.a : Int), .int .i64 (k.t : Int)]] W fun e w' => e = .returned (.int .i64 0) ∧ Below W.heap.size W w') := fun W hW => by
    have := flaw_any k.c k.i k.a k.t W hW
    rwa [flaw_tok.2 hk] at this
  have HP : Hid (∀ W, TTab W → Calls Tryz.prog 85 #[.agg #[.int .i64 (k.c : Int), .int .i64 (k.i : Int), .int .i64 (k.a : Int), .int .i64 (k.t : Int)]] W fun e w' => PackPost W k e w') := fun W hW => pack_any k W hk hW
  have HQ : Hid (∀ (x y z : Nat) W, WN x y z k.num → Calls Tryz.prog 84 #[.agg #[.int .u32 (x : Int), .int .u32 (y : Int), .int .u32 (z : Int)], .int .u32 97] W fun e w' => ∃ (a' b' c' : Nat) (o : Int), e = .returned (.tuple #[.agg #[.int .u32 (a' : Int), .int .u32 (b' : Int), .int .u32 (c' : Int)], .int .u32 o]) ∧ WN a' b' c' (k.num * 97) ∧ Below W.heap.size W w') := fun x y z W hW =>
    times_wn x y z k.num 97 W hW (by omega) (by have := num_bd hk; omega)
  have hb0 : Below w.heap.size w ((w.alloc (.cells #[.int .i64 (k.c : Int), .int .i64 (k.i : Int), .int .i64 (k.a : Int), .int .i64 (k.t : Int)] 51)).alloc (.cells #[.int .u32 0, .int .u32 0, .int .u32 0] 85)) := (bel_box _ _).alloc (by simp) _
  have HB : Hid (Below w.heap.size w ((w.alloc (.cells #[.int .i64 (k.c : Int), .int .i64 (k.i : Int), .int .i64 (k.a : Int), .int .i64 (k.t : Int)] 51)).alloc (.cells #[.int .u32 0, .int .u32 0, .int .u32 0] 85))) := hb0
  have HT : Hid (TTab ((w.alloc (.cells #[.int .i64 (k.c : Int), .int .i64 (k.i : Int), .int .i64 (k.a : Int), .int .i64 (k.t : Int)] 51)).alloc (.cells #[.int .u32 0, .int .u32 0, .int .u32 0] 85))) := ht.below hb0
  have HR : Hid (Blk ((w.alloc (.cells #[.int .i64 (k.c : Int), .int .i64 (k.i : Int), .int .i64 (k.a : Int), .int .i64 (k.t : Int)] 51)).alloc (.cells #[.int .u32 0, .int .u32 0, .int .u32 0] 85)) (w.heap.size + 1) #[.int .u32 0, .int .u32 0, .int .u32 0] 85) := Blk.new1 _ _ _ _
  have HX : Hid (Blk ((w.alloc (.cells #[.int .i64 (k.c : Int), .int .i64 (k.i : Int), .int .i64 (k.a : Int), .int .i64 (k.t : Int)] 51)).alloc (.cells #[.int .u32 0, .int .u32 0, .int .u32 0] 85)) w.heap.size #[.int .i64 (k.c : Int), .int .i64 (k.i : Int), .int .i64 (k.a : Int), .int .i64 (k.t : Int)] 51) := (Blk.new _ _ _).alloc _
  clear ht hk hb0
  unfold Tok.v
  go_enter Tryz.func50, Tryz.ntmps50
  go_wp2_with fail
  refine (HF.out _ HT.out).mono ?_
  rintro e w1 ⟨rfl, hb1⟩
  have HB1 : Hid (Below w.heap.size w w1) := bel_step HB.out hb1
  have HT1 : Hid (TTab w1) := HT.out.below hb1
  have HR1 : Hid (Blk w1 (w.heap.size + 1) #[.int .u32 0, .int .u32 0, .int .u32 0] 85) := HR.out.next hb1
  have hX := HX.out.next hb1
  have x0 := hX.cell 0
  have x1 := hX.cell 1
  have x2 := hX.cell 2
  have x3 := hX.cell 3
  clear hb1 HF HB HT HX hX HR
  go_wp2_with fail
  refine (HP.out _ HT1.out).mono ?_
  rintro e w2 ⟨x, y, z, rfl, hwn, hb2⟩
  have HB2 : Hid (Below w.heap.size w w2) := bel_step HB1.out hb2
  have HR2 : Hid (Blk w2 (w.heap.size + 1) #[.int .u32 0, .int .u32 0, .int .u32 0] 85) := HR1.out.next hb2
  have HN : Hid (WN x y z k.num) := hwn
  clear hb2 hwn HB1 HT1 HP x0 x1 x2 x3 HR1
  go_wp2_with fail
  refine (HQ.out _ _ _ _ HN.out).mono ?_
  rintro e w3 ⟨a', b', c', o, rfl, hwn, hb3⟩
  have hB3 := (bel_step HB2.out hb3).alloc (bel_step HB2.out hb3).size (.cells #[.int .u32 (a' : Int), .int .u32 (b' : Int), .int .u32 (c' : Int)] 85)
  have hR3 := (HR2.out.next hb3).alloc (.cells #[.int .u32 (a' : Int), .int .u32 (b' : Int), .int .u32 (c' : Int)] 85)
  have HN3 : Hid (WN a' b' c' (k.num * 97)) := hwn
  clear hb3 HB2 HQ HR2 HN hwn
  have HB4 : Hid (Below w.heap.size w ((((w3.alloc (.cells #[.int .u32 (a' : Int), .int .u32 (b' : Int), .int .u32 (c' : Int)] 85)).setCell ⟨w.heap.size + 1, 0, none⟩ (.int .u32 (a' : Int))).setCell ⟨w.heap.size + 1, 1, none⟩ (.int .u32 (b' : Int))).setCell ⟨w.heap.size + 1, 2, none⟩ (.int .u32 (c' : Int)))) := bel_set (bel_set (bel_set hB3 _ _ _ (by omega)) _ _ _ (by omega)) _ _ _ (by omega)
  have RR : Blk ((((w3.alloc (.cells #[.int .u32 (a' : Int), .int .u32 (b' : Int), .int .u32 (c' : Int)] 85)).setCell ⟨w.heap.size + 1, 0, none⟩ (.int .u32 (a' : Int))).setCell ⟨w.heap.size + 1, 1, none⟩ (.int .u32 (b' : Int))).setCell ⟨w.heap.size + 1, 2, none⟩ (.int .u32 (c' : Int))) (w.heap.size + 1) #[.int .u32 (a' : Int), .int .u32 (b' : Int), .int .u32 (c' : Int)] 85 := ((hR3.set 0 _).set 1 _).set 2 _
  have R0 : Hid (_ = _) := RR.cell 0
  have R1 : Hid (_ = _) := RR.cell 1
  have R2 : Hid (_ = _) := RR.cell 2
  have x0 := hR3.cell 0
  have x1 := hR3.cell 1
  have x2 := hR3.cell 2
  have f0 := hR3.free 0
  have f1 := hR3.free 1
  have f2 := hR3.free 2
  clear RR hR3 hB3
  go_wp2_with fail
  refine bodyPost_ret (v := .tuple #[.agg #[.int .u32 (a' : Int), .int .u32 (b' : Int), .int .u32 (c' : Int)], .int .i64 0]) (by simp [results, Tryz.results50, R0.out, R1.out, R2.out, go_sem]) rfl ⟨a', b', c', rfl, HN3.out, HB4.out⟩

end Go.Proofs.YtlicdeppfhmfjaaGreatDoor.token

/- What words.Show gives back. -/
namespace Go.Proofs.YtlicdeppfhmfjaaGreatDoor.words
open Go.RowKit

/-- Twenty-nine bytes lie in block D. -/
def Dg (w : World) (D : Nat) (d : Nat → Int) : Prop := w.heap[D]? = some (.cells ((List.range 29).map fun i => Value.int .u8 (d i)).toArray 123 (0, 0))

variable {w w' : World} {D : Nat} {d : Nat → Int}
theorem Dg.cell (h : Dg w D d) {i : Nat} (hi : i < 29) : w.cell? ⟨D, i, none⟩ = some (.int .u8 (d i)) := by unfold Dg at h; simp [World.cell?, h, hi]
theorem Dg.free (h : Dg w D d) (i : Nat) : w.frozen? ⟨D, i, none⟩ = false := by unfold Dg at h; simp [World.frozen?, h]
theorem Dg.lt (h : Dg w D d) : D < w.heap.size := by
  by_cases hh : D < w.heap.size
  · exact hh
  · unfold Dg at h; rw [Array.getElem?_eq_none (by omega)] at h; cases h
theorem Dg.below (h : Dg w D d) (hb : Below w.heap.size w w') : Dg w' D d := by
  have hlt := h.lt
  unfold Dg at *
  rw [hb.block D hlt]; exact h
theorem Dg.other (h : Dg w D d) {G : Nat} (i : Nat) (u : Value) (hne : G ≠ D) : Dg (w.setCell ⟨G, i, none⟩ u) D d := by
  unfold Dg at *; simp only [World.setCell, Array.getElem?_modify]; rw [if_neg hne]; exact h
def updd (d : Nat → Int) (i : Nat) (v : Int) : Nat → Int := fun k => if k = i then v else d k
theorem Dg.set (h : Dg w D d) (i : Nat) (v : Int) : Dg (w.setCell ⟨D, i, none⟩ (.int .u8 v)) D (updd d i v) := by
  unfold Dg at *
  simp only [World.setCell, Array.getElem?_modify, h, if_true, Option.map_some]
  congr 2
  simp only [Option.isSome_none, Bool.false_eq_true, if_false]
  apply Array.ext'
  simp only [Array.toList_setIfInBounds]
  apply List.ext_getElem?
  intro k
  by_cases hk : k < 29
  · by_cases e : k = i
    · subst e; simp [updd, hk]
    · rw [List.getElem?_set_ne (by omega)]; simp [updd, hk, e]
  · rw [List.getElem?_eq_none (by simp; omega), List.getElem?_eq_none (by simp; omega)]

/-- The last t of them. -/
def dsOf (d : Nat → Int) (t : Nat) : List Int := (List.range t).map fun i => d (29 - t + i)
theorem dsOf_len (d : Nat → Int) (t : Nat) : (dsOf d t).length = t := by simp [dsOf]
theorem dsOf_upd (d : Nat → Int) (t : Nat) (v : Int) (ht : t < 29) : dsOf (updd d (28 - t) v) (t + 1) = v :: dsOf d t := by
  unfold dsOf
  rw [List.range_succ_eq_map, List.map_cons, List.map_map]
  congr 1
  · simp [updd]
  · apply List.map_congr_left
    intro i hi
    simp [updd]
    congr 1
    omega

theorem dg_new (w : World) (o : Obj) : Dg ((w.alloc o).alloc (.cells ((List.range 29).map fun _ => Value.int .u8 0).toArray 123)) (w.heap.size + 1) (fun _ => 0) := by
  show ((w.heap.push o).push _)[w.heap.size + 1]? = _
  have : w.heap.size + 1 = (w.heap.push o).size := by simp
  rw [this, Array.getElem?_push_size]

/-- What the digits so far, and the rest of the number, make. -/
def ShowInv (V : Nat) (X : W3) (d : Nat → Int) (t : Nat) : Prop :=
  (t = 0 ∧ X.val = V) ∨ (0 < t ∧ X.val = 0 ∧ decL V = dsOf d t) ∨ (0 < t ∧ 0 < X.val ∧ decL V = decL X.val.toNat ++ dsOf d t)

theorem show_more {V : Nat} {X : W3} {d : Nat → Int} {t : Nat} (hV : (V : Int) < top) (h : ShowInv V X d t) (hgo : t = 0 ∨ 0 < X.val) (hX : X.ok) :
    t < 29 ∧ ShowInv V (overW X 10) (updd d (28 - t) (48 + overR X 10)) (t + 1) := by
  have hv := over_val X 10
  have hr := over_left (w := X) 10 (by omega)
  have hq := (W3.bd (over_ok hX (d := 10) (by omega))).1
  have hlen := decL_len29 V hV
  have ht : t < 29 := by
    rcases h with ⟨h1, _⟩ | ⟨h1, h2, h3⟩ | ⟨h1, h2, h3⟩
    · omega
    · omega
    · rw [h3, List.length_append, dsOf_len] at hlen
      have h5 : 1 ≤ (decL X.val.toNat).length := (decL_len29 _ (by have := (W3.bd hX).2; omega)).1
      omega
  refine ⟨ht, ?_⟩
  have hn : decL V = decL X.val.toNat ++ dsOf d t := by
    rcases h with ⟨h1, h2⟩ | ⟨h1, h2, h3⟩ | ⟨_, _, h3⟩
    · subst h1; rw [h2]; simp [dsOf]
    · omega
    · exact h3
  have hds := dsOf_upd d t (48 + overR X 10) ht
  by_cases h10 : X.val < 10
  · right; left
    have e0 : (overW X 10).val = 0 := by omega
    have e1 : overR X 10 = X.val := by omega
    refine ⟨by omega, e0, ?_⟩
    rw [hn, hds, decL_one (by omega), e1]
    have hx0 := (W3.bd hX).1
    rw [show ((X.val.toNat : Nat) : Int) = X.val by omega]
    rfl
  · right; right
    refine ⟨by omega, by omega, ?_⟩
    rw [hn, hds, decL_more (by omega)]
    have e1 : X.val.toNat / 10 = (overW X 10).val.toNat := by omega
    have e2 : ((X.val.toNat % 10 : Nat) : Int) = overR X 10 := by omega
    rw [e1, e2, List.append_assoc]
    rfl

theorem zero_iff {X : W3} (hX : X.ok) : X.val = 0 ↔ X = ⟨0, 0, 0⟩ := by
  obtain ⟨⟨h1, _⟩, ⟨h2, _⟩, h3, _⟩ := hX
  constructor
  · intro h
    unfold W3.val at h
    obtain ⟨a, b, c⟩ := X
    simp only at *
    have : a = 0 := by omega
    have : b = 0 := by omega
    have : c = 0 := by omega
    subst_vars; rfl
  · intro h; rw [h]; rfl

/-- A text of these bytes. -/
def strOf (ns : List Int) : ByteArray := ns.foldl (fun r n => r.push (UInt8.ofNat n.toNat)) ByteArray.empty

theorem conv_ds (w : World) (D : Nat) (d : Nat → Int) (t : Nat) (ht : t ≤ 29) (h : Dg w D d) :
    (convert 61 9 (.slice (some ⟨D, 29 - t, none⟩) t t)).run Tryz.prog w = .ok (.string (strOf (dsOf d t))) w := by
  rw [run_convert_bytes_string _ _ _ _ _ _ _ Tryz.underlying61 Tryz.underlying5 Tryz.underlying9, run_bytesToString _ _ _ _ (dsOf d t)]
  · rfl
  · have := run_loadCells (P := Tryz.prog) w ⟨D, 29 - t, none⟩ t (fun i => .int .u8 (d (29 - t + i))) (fun j hj => by rw [Addr.add_lit]; exact h.cell (by omega))
    rw [this]
    congr 2
    simp [dsOf]

theorem slice_ds (D t : Nat) (w : World) (h0 : 0 < t) (h1 : t ≤ 29) :
    (Instr.sliceAt 123 (.pointer (some ⟨D, 0, none⟩)) (some (.int .i64 ((29 - t : Nat) : Int))) none none).run Tryz.prog w = .ok (.slice (some ⟨D, 29 - t, none⟩) t t) w := by
  have e2 : 29 - (29 - t) = t := by omega
  simp [Instr.sliceAt, Instr.sliceBounds, Instr.sliceBound, asIntOf, run_underlying Tryz.underlying123, go_sem, e2]
  omega

set_option maxHeartbeats 1000000 in
theorem show_any (x : W3) (w : World) (hx : x.ok) :
    Calls Tryz.prog 51 #[wv x] w fun e w' => e = .returned (.string (strOf (decL x.val.toNat))) ∧ Below w.heap.size w w' := by
  have hxb := W3.bd hx
  have HX : Hid (x.ok) := hx
  have HB0 : Hid (∀ o1 o2 : Obj, Below w.heap.size w ((w.alloc o1).alloc o2)) := fun o1 o2 => bel2 w o1 o2
  clear hx
  go_enter Tryz.func51, Tryz.ntmps51
  go_wp2_with fail
  go_loopw [4] (fun v wr => ∃ (t : Nat) (X : W3) (d : Nat → Int), t ≤ 29 ∧ v = .int .i64 ((29 - t : Nat) : Int) ∧ X.ok ∧ Wat wr w.heap.size X ∧ Dg wr (w.heap.size + 1) d ∧ Below w.heap.size w wr ∧ ShowInv x.val.toNat X d t) (fun v _ => (intOf v).toNat)
  case atStart => exact ⟨0, x, fun _ => 0, by omega, rfl, HX.out, trio_a _ _ _ _ _, dg_new _ _, bel2 _ _ _, .inl ⟨rfl, by omega⟩⟩
  case round =>
    obtain ⟨t, X, d, ht, rfl, hX, hT, hD, hb, hi⟩ := hrel
    by_cases hgo : t = 0 ∨ 0 < X.val
    · obtain ⟨ht29, hm⟩ := show_more (by omega) hi hgo hX
      have HM : Hid (ShowInv x.val.toNat (overW X 10) (updd d (28 - t) (48 + overR X 10)) (t + 1)) := hm
      have hz := (zero_iff hX)
      have HT : Hid (Wat wr w.heap.size X) := hT
      have HD : Hid (Dg wr (w.heap.size + 1) d) := hD
      have HB : Hid (Below w.heap.size w wr) := hb
      have c0 := hT.c0
      have c1 := hT.c1
      have c2 := hT.c2
      clear hT hD hb hi hm
      have e28 : ((29 - t : Nat) : Int) - 1 = ((28 - t : Nat) : Int) := by omega
      have g29 : 28 - t < 29 := by omega
      have HG : Hid (29 - (t + 1) = 28 - t) := (by omega : 29 - (t + 1) = 28 - t)
      by_cases h0 : t = 0
      · have e29 : (((29 - t : Nat) : Int) == 29) = true := by simp; omega
        have f29 : ((29 - t : Nat) : Int) ≤ 29 := by omega
        clear hgo hz ht
        generalize 29 - t = f at *
        generalize 28 - t = g at *
        go_wp2_with fail
        refine (over_any X 10 _ hX (by omega) (by omega)).mono ?_
        rintro e w2 ⟨rfl, hb2⟩
        have hQ := over_ok hX (d := 10) (by omega)
        have hr := over_left (w := X) 10 (by omega)
        have T2 := HT.out.below hb2
        have D2 := HD.out.below hb2
        have B2 := HB.out.trans (hb2.mono HB.out.size)
        clear hb2 HT HD HB c0 c1 c2
        generalize overW X 10 = Q at *
        generalize overR X 10 = r at *
        have c0 := T2.c0
        have c1 := T2.c1
        have c2 := T2.c2
        have f0 := T2.free 0
        have f1 := T2.free 1
        have f2 := T2.free 2
        have T3 := T2.put (.int .u32 Q.a) (.int .u32 Q.b) (.int .u32 Q.c)
        have D3 := ((D2.other (G := w.heap.size) 0 (.int .u32 Q.a) (by omega)).other (G := w.heap.size) 1 (.int .u32 Q.b) (by omega)).other (G := w.heap.size) 2 (.int .u32 Q.c) (by omega)
        have B3 := below_put3 B2 w.heap.size (.int .u32 Q.a) (.int .u32 Q.b) (.int .u32 Q.c) (Nat.le_refl _)
        have d1 := D3.cell (i := g) (by omega)
        have d2 := D3.free g
        have HT : Hid (Wat ((put3 w2 w.heap.size (.int .u32 Q.a) (.int .u32 Q.b) (.int .u32 Q.c)).setCell ⟨w.heap.size + 1, g, none⟩ (.int .u8 (48 + r))) w.heap.size Q) := T3.other _ _ (by omega)
        have HD : Hid (Dg ((put3 w2 w.heap.size (.int .u32 Q.a) (.int .u32 Q.b) (.int .u32 Q.c)).setCell ⟨w.heap.size + 1, g, none⟩ (.int .u8 (48 + r))) (w.heap.size + 1) (updd d g (48 + r))) := D3.set _ _
        have HB : Hid (Below w.heap.size w ((put3 w2 w.heap.size (.int .u32 Q.a) (.int .u32 Q.b) (.int .u32 Q.c)).setCell ⟨w.heap.size + 1, g, none⟩ (.int .u8 (48 + r)))) := below_set B3 _ _ _ (by omega)
        clear T2 D2 B2 T3 D3 B3
        obtain ⟨r0, r1⟩ := hr
        generalize d g = dd at *
        go_wp2_with fail
        go_roundw
        case rel => exact ⟨t + 1, Q, _, by omega, by rw [HG.out], hQ, HT.out, HD.out, HB.out, HM.out⟩
        case measure => simp [intOf]; omega
      · have hne : X ≠ ⟨0, 0, 0⟩ := fun e => by have := hz.2 e; omega
        have q := eq3_other hne
        have e29 : (((29 - t : Nat) : Int) == 29) = false := by simp; omega
        have f29 : ((29 - t : Nat) : Int) ≤ 29 := by omega
        clear hgo hz
        generalize 29 - t = f at *
        generalize 28 - t = g at *
        go_wp2_with fail
        refine (over_any X 10 _ hX (by omega) (by omega)).mono ?_
        rintro e w2 ⟨rfl, hb2⟩
        have hQ := over_ok hX (d := 10) (by omega)
        have hr := over_left (w := X) 10 (by omega)
        have T2 := HT.out.below hb2
        have D2 := HD.out.below hb2
        have B2 := HB.out.trans (hb2.mono HB.out.size)
        clear hb2 HT HD HB c0 c1 c2
        generalize overW X 10 = Q at *
        generalize overR X 10 = r at *
        have c0 := T2.c0
        have c1 := T2.c1
        have c2 := T2.c2
        have f0 := T2.free 0
        have f1 := T2.free 1
        have f2 := T2.free 2
        have T3 := T2.put (.int .u32 Q.a) (.int .u32 Q.b) (.int .u32 Q.c)
        have D3 := ((D2.other (G := w.heap.size) 0 (.int .u32 Q.a) (by omega)).other (G := w.heap.size) 1 (.int .u32 Q.b) (by omega)).other (G := w.heap.size) 2 (.int .u32 Q.c) (by omega)
        have B3 := below_put3 B2 w.heap.size (.int .u32 Q.a) (.int .u32 Q.b) (.int .u32 Q.c) (Nat.le_refl _)
        have d1 := D3.cell (i := g) (by omega)
        have d2 := D3.free g
        have HT : Hid (Wat ((put3 w2 w.heap.size (.int .u32 Q.a) (.int .u32 Q.b) (.int .u32 Q.c)).setCell ⟨w.heap.size + 1, g, none⟩ (.int .u8 (48 + r))) w.heap.size Q) := T3.other _ _ (by omega)
        have HD : Hid (Dg ((put3 w2 w.heap.size (.int .u32 Q.a) (.int .u32 Q.b) (.int .u32 Q.c)).setCell ⟨w.heap.size + 1, g, none⟩ (.int .u8 (48 + r))) (w.heap.size + 1) (updd d g (48 + r))) := D3.set _ _
        have HB : Hid (Below w.heap.size w ((put3 w2 w.heap.size (.int .u32 Q.a) (.int .u32 Q.b) (.int .u32 Q.c)).setCell ⟨w.heap.size + 1, g, none⟩ (.int .u8 (48 + r)))) := below_set B3 _ _ _ (by omega)
        clear T2 D2 B2 T3 D3 B3
        obtain ⟨r0, r1⟩ := hr
        generalize d g = dd at *
        go_wp2_with fail
        go_roundw
        case rel => exact ⟨t + 1, Q, _, by omega, by rw [HG.out], hQ, HT.out, HD.out, HB.out, HM.out⟩
        case measure => simp [intOf]; omega
    · have ht0 : 0 < t := by omega
      have hX0 : X.val = 0 := by have := (W3.bd hX).1; omega
      have hXz := (zero_iff hX).1 hX0
      have hfin : decL x.val.toNat = dsOf d t := by
        rcases hi with h | ⟨_, _, h⟩ | h
        · omega
        · exact h
        · omega
      subst hXz
      have c0 := hT.c0
      have c1 := hT.c1
      have c2 := hT.c2
      have q := eq3_same ⟨0, 0, 0⟩
      have e29 : (((29 - t : Nat) : Int) == 29) = false := by simp; omega
      have hsl := slice_ds (w.heap.size + 1) t wr ht0 ht
      have hcv := conv_ds wr (w.heap.size + 1) d t ht hD
      rw [← hfin] at hcv
      have HB : Hid (Below w.heap.size w wr) := hb
      clear hi hgo hX0 hfin hT hD hb hX
      go_wp2_with fail
      go_ret
      exact ⟨rfl, HB.out⟩

end Go.Proofs.YtlicdeppfhmfjaaGreatDoor.words

/- What Format gives back. -/
namespace Go.Proofs.YtlicdeppfhmfjaaGreatDoor.token
open Go.Proofs.YtlicdeppfhmfjaaGreatDoor.words
open Go.RowKit
set_option linter.unusedSimpArgs false

theorem str_list (ns : List Int) : (strOf ns).data.toList = ns.map byt := by
  have h : ∀ (ns : List Int) (r : ByteArray), (ns.foldl (fun r n => r.push (UInt8.ofNat n.toNat)) r).data.toList = r.data.toList ++ ns.map byt := by
    intro ns
    induction ns with
    | nil => intro r; simp
    | cons x l ih => intro r; rw [List.foldl_cons, ih]; simp [ByteArray.push, byt]
  have := h ns ByteArray.empty
  simpa [strOf] using this
theorem str_size (ns : List Int) : (strOf ns).size = ns.length := by
  rw [← check.len_eq, str_list]; simp
theorem rep_list (n : Nat) : Lib.repeatL [48] n = List.replicate n 48 := by
  induction n with
  | zero => rfl
  | succ n ih => rw [Lib.repeatL, ih]; rfl
theorem bytes_ext {a b : ByteArray} (h : a.data.toList = b.data.toList) : a = b := by
  cases a; cases b; congr 1; exact Array.toList_inj.1 h
/-- Noughts ahead of a number's digits. -/
theorem pad_fmt (V n : Nat) (h : n + (decL V).length = 20) : (⟨(Lib.repeatL [48] n).toArray⟩ : ByteArray) ++ strOf (decL V) = fmtB V := by
  apply bytes_ext
  rw [fmtB_list, show ((⟨(Lib.repeatL [48] n).toArray⟩ : ByteArray) ++ strOf (decL V)).data.toList = Lib.repeatL [48] n ++ (strOf (decL V)).data.toList by simp, str_list, rep_list]
  unfold fmtL
  rw [show 20 - (decL V).length = n by omega]

theorem show_wn (a b c V : Nat) (w : World) (h : WN a b c V) :
    Calls Tryz.prog 51 #[.agg #[.int .u32 (a : Int), .int .u32 (b : Int), .int .u32 (c : Int)]] w fun e w' => e = .returned (.string (strOf (decL V))) ∧ Below w.heap.size w w' := by
  have hk := wn_ok h
  have := show_any ⟨a, b, c⟩ w hk.1
  rwa [hk.2, Int.toNat_natCast] at this

set_option maxHeartbeats 400000 in
theorem format_no (c i a t : Int) (w : World) (ht : TTab w) (h : flawT c i a t ≠ 0) :
    Calls Tryz.prog 23 #[.agg #[.int .i64 c, .int .i64 i, .int .i64 a, .int .i64 t]] w fun e w' => e = .returned (.tuple #[.string ByteArray.empty, .int .i64 (flawT c i a t)]) ∧ Below w.heap.size w w' := by
  have HF : Hid (∀ W, TTab W → Calls Tryz.prog 50 #[.agg #[.int .i64 c, .int .i64 i, .int .i64 a, .int .i64 t]] W fun e w' => e = .returned (.tuple #[.agg #[.int .u32 0, .int .u32 0, .int .u32 0], .int .i64 (flawT c i a t)]) ∧ Below W.heap.size W w') := fun W hW => words_no c i a t W hW h
  have hd : (flawT c i a t != 0) = true := by simpa using h
  have HB : Hid (Below w.heap.size w (w.alloc (.cells #[.int .i64 c, .int .i64 i, .int .i64 a, .int .i64 t] 51))) := bel_box _ _
  have HT : Hid (TTab (w.alloc (.cells #[.int .i64 c, .int .i64 i, .int .i64 a, .int .i64 t] 51))) := ht.below (bel_box _ _)
  clear ht h
  generalize flawT c i a t = f at *
  go_enter Tryz.func23, Tryz.ntmps23
  go_wp2_with fail
  refine (HF.out _ HT.out).mono ?_
  rintro e w1 ⟨rfl, hb1⟩
  have HB1 : Hid (Below w.heap.size w (w1.alloc (.cells #[.int .u32 0, .int .u32 0, .int .u32 0] 85))) := (bel_step HB.out hb1).alloc (bel_step HB.out hb1).size _
  clear hb1 HF HB HT
  go_wp2_with fail
  refine bodyPost_ret (v := .tuple #[.string ByteArray.empty, .int .i64 f]) (by simp [results, Tryz.results23, go_sem]; rfl) rfl ⟨rfl, HB1.out⟩

set_option maxHeartbeats 400000 in
theorem format_ok (k : Tok) (w : World) (ht : TTab w) (hk : k.ok) :
    Calls Tryz.prog 23 #[k.v] w fun e w' => e = .returned (.tuple #[.string (fmtB (97 * k.num)), .int .i64 0]) ∧ Below w.heap.size w w' := by
  have HF : Hid (∀ W, TTab W → Calls Tryz.prog 50 #[.agg #[.int .i64 (k.c : Int), .int .i64 (k.i : Int), .int .i64 (k.a : Int), .int .i64 (k.t : Int)]] W fun e w' => WordsPost W k e w') := fun W hW => words_ok k W hW hk
  have hnb := num_bd hk
  have hln := dec_len20 (V := k.num * 97) (by omega)
  have hsz := str_size (decL (k.num * 97))
  have HSh : Hid (∀ (a b c : Nat) W, WN a b c (k.num * 97) → Calls Tryz.prog 51 #[.agg #[.int .u32 (a : Int), .int .u32 (b : Int), .int .u32 (c : Int)]] W fun e w' => e = .returned (.string (strOf (decL (k.num * 97)))) ∧ Below W.heap.size W w') := fun a b c W hW => show_wn a b c _ W hW
  obtain ⟨n, hn⟩ : ∃ n : Nat, n + (decL (k.num * 97)).length = 20 := ⟨20 - (decL (k.num * 97)).length, by omega⟩
  have HRp : Hid (∀ W, Calls Tryz.prog 52 #[.string ⟨#[48]⟩, .int .i64 (n : Int)] W fun e w' => e = .returned (.string ⟨(Lib.repeatL [48] n).toArray⟩) ∧ Below W.heap.size W w') := fun W => Tryz.strings_Repeat ⟨#[48]⟩ n W (by omega) (by show 1 * n ≤ _; omega)
  have HX : Hid ((⟨(Lib.repeatL [48] n).toArray⟩ : ByteArray) ++ strOf (decL (k.num * 97)) = fmtB (97 * k.num)) := by
    show _ = _
    rw [pad_fmt _ _ hn, Nat.mul_comm]
  have hzz : (⟨(Lib.repeatL [48] n).toArray⟩ : ByteArray).size = n := by
    show (Lib.repeatL [48] n).toArray.size = n
    rw [rep_list]; simp
  have HT : Hid (TTab (w.alloc (.cells #[.int .i64 (k.c : Int), .int .i64 (k.i : Int), .int .i64 (k.a : Int), .int .i64 (k.t : Int)] 51))) := ht.below (bel_box _ _)
  have HB : Hid (Below w.heap.size w (w.alloc (.cells #[.int .i64 (k.c : Int), .int .i64 (k.i : Int), .int .i64 (k.a : Int), .int .i64 (k.t : Int)] 51))) := bel_box _ _
  rw [← hsz] at hn hln
  clear ht hk hnb hsz
  generalize strOf (decL (k.num * 97)) = D at *
  generalize (⟨(Lib.repeatL [48] n).toArray⟩ : ByteArray) = Z at *
  have hds : (20 : Int) - (D.size : Int) = (n : Int) := by omega
  unfold Tok.v
  go_enter Tryz.func23, Tryz.ntmps23
  go_wp2_with fail
  refine (HF.out _ HT.out).mono ?_
  rintro e w1 ⟨a, b, c, rfl, hwn, hb1⟩
  have hN := Blk.new w1 #[.int .u32 (a : Int), .int .u32 (b : Int), .int .u32 (c : Int)] 85
  have HB1 : Hid (Below w.heap.size w (w1.alloc (.cells #[.int .u32 (a : Int), .int .u32 (b : Int), .int .u32 (c : Int)] 85))) := (bel_step HB.out hb1).alloc (bel_step HB.out hb1).size _
  have HW : Hid (WN a b c (k.num * 97)) := hwn
  have c0 := hN.cell 0
  have c1 := hN.cell 1
  have c2 := hN.cell 2
  clear hb1 HF HB HT hwn hN
  go_wp2_with fail
  refine (HSh.out _ _ _ _ HW.out).mono ?_
  rintro e w2 ⟨rfl, hb2⟩
  have HB2 : Hid (Below w.heap.size w w2) := bel_step HB1.out hb2
  clear hb2 HSh HB1 HW c0 c1 c2
  go_wp2_with fail
  refine (HRp.out _).mono ?_
  rintro e w3 ⟨rfl, hb3⟩
  have HB3 : Hid (Below w.heap.size w w3) := bel_step HB2.out hb3
  clear hb3 HRp HB2
  go_wp2_with fail
  refine bodyPost_ret (v := .tuple #[.string (Z ++ D), .int .i64 0]) (by simp [results, Tryz.results23, go_sem]) rfl ⟨by rw [HX.out], HB3.out⟩

end Go.Proofs.YtlicdeppfhmfjaaGreatDoor.token

/- A slip that came in. -/
namespace Go.Proofs.YtlicdeppfhmfjaaGreatDoor.rcp
open Go.ChangeShapes Go.WideShapes Go.ChangeAt Go.RowKit Go.Deep
set_option maxRecDepth 100000
set_option linter.unusedVariables false

theorem open_slip {H : Type} {enc : TypeId × Value → H} {W : World} {r : Reach} {b0 b1 : Nat} {spare : Nat → Bool} {held : Bool} {v : Value} {d : DataW H} {ps : List MemPlace}
    (hval : Value.okWide Tryz.prog W r b0 36 v) (h : DataW.Trod enc Tryz.prog W b1 spare held 36 v d ps) :
    ∃ xm x1 x2 x3 x4 xd xf xp xc : Int, v = .agg #[.int .i64 xm, .int .i64 x1, .int .i64 x2, .int .i64 x3, .int .i64 x4, .int .i64 xd, .int .i64 xf, .int .i64 xp, .int .i64 xc] ∧ wf9 xm x1 x2 x3 x4 xd xf xp xc := by
  have hu := Tryz.underlying36
  have hc : Tryz.prog.cellsOf 36 = 9 := by kernel_rfl
  have ci : Tryz.prog.cellsOf 3 = 1 := by kernel_rfl
  have cb : Tryz.prog.cellsOf 34 = 4 := by kernel_rfl
  obtain ⟨cs, rfl, hsz⟩ := okWide_struct hu hval
  rw [hc] at hsz
  obtain ⟨c0, c1, c2, c3, c4, c5, c6, c7, c8, rfl⟩ : ∃ c0 c1 c2 c3 c4 c5 c6 c7 c8, cs = #[c0, c1, c2, c3, c4, c5, c6, c7, c8] := by
    cases cs with
    | mk l => match l, hsz with
      | [c0, c1, c2, c3, c4, c5, c6, c7, c8], _ => exact ⟨c0, c1, c2, c3, c4, c5, c6, c7, c8, rfl⟩
  obtain ⟨fuel, hf⟩ := h
  obtain ⟨xs, n, _, _, _, hlen, hg⟩ := DataW.trod_struct hu hf
  match xs, hlen with
  | [y0, y1, y2, y3, y4, y5], _ =>
    have g0 := hg 0 _ rfl
    have g1 := hg 1 _ rfl
    have g2 := hg 2 _ rfl
    have g3 := hg 3 _ rfl
    have g4 := hg 4 _ rfl
    have g5 := hg 5 _ rfl
    simp [Value.cells, ci, cb] at g0 g1 g2 g3 g4 g5
    obtain ⟨x0, e0, -, w0⟩ := DataW.trod_int Tryz.underlying3 g0
    obtain ⟨x5, e5, -, w5⟩ := DataW.trod_int Tryz.underlying3 g2
    obtain ⟨x6, e6, -, w6⟩ := DataW.trod_int Tryz.underlying3 g3
    obtain ⟨x7, e7, -, w7⟩ := DataW.trod_int Tryz.underlying3 g4
    obtain ⟨x8, e8, -, w8⟩ := DataW.trod_int Tryz.underlying3 g5
    obtain ⟨ys, k, _, _, _, hlen2, hq⟩ := DataW.trod_struct Tryz.underlying34 g1
    match ys, hlen2 with
    | [z0, z1, z2, z3], _ =>
      have q0 := hq 0 _ rfl
      have q1 := hq 1 _ rfl
      have q2 := hq 2 _ rfl
      have q3 := hq 3 _ rfl
      simp [ci] at q0 q1 q2 q3
      obtain ⟨x1, e1, -, w1⟩ := DataW.trod_int Tryz.underlying3 q0
      obtain ⟨x2, e2, -, w2⟩ := DataW.trod_int Tryz.underlying3 q1
      obtain ⟨x3, e3, -, w3⟩ := DataW.trod_int Tryz.underlying3 q2
      obtain ⟨x4, e4, -, w4⟩ := DataW.trod_int Tryz.underlying3 q3
      simp at e0 e1 e2 e3 e4 e5 e6 e7 e8
      subst e0 e1 e2 e3 e4 e5 e6 e7 e8
      exact ⟨x0, x1, x2, x3, x4, x5, x6, x7, x8, rfl, ⟨w0, w1, w2, w3, w4⟩, w5, w6, w7, w8⟩

end Go.Proofs.YtlicdeppfhmfjaaGreatDoor.rcp

/- What a list of laid variables gives: the tail of the list; an error that is there; a number that is there. -/
namespace Go.Proofs.YtlicdeppfhmfjaaGreatDoor.rct
open Go.RowKit

theorem met_tail {P : Program} {x : String × DataW Unit} {rest : List (String × DataW Unit)} {W : World} (h : laidMet P (x :: rest) W) : laidMet P rest W := by
  obtain ⟨ps, hv, hn, hc⟩ := h
  obtain ⟨g', t', cs, fuel, p, q, hg', ht', hvar, hd, hr, rfl⟩ := hv
  exact ⟨q, hr, (List.nodup_append.1 hn).2.1, fun b off hm => hc b off (List.mem_append_right _ hm)⟩
theorem err_of {P : Program} {n nm : String} {d : DataW Unit} {rest : List (String × DataW Unit)} {W : World} {g : Nat} {ti : TypeId} {ms : Array (String × TypeId)} (h : laidMet P ((n, .iface nm d) :: rest) W)
    (hg : P.globalNamed n = some g) (ht : (P.globals[g]?).map (·.type) = some ti) (hi : P.underlying ti = some (.interface ms)) :
    ∃ tp p, W.var? P n = some #[.iface tp p] := by
  obtain ⟨ps, ⟨g0, t0, cs0, f0, p0, q0, hg0, ht0, hv0, hd0, _, e0⟩, _, _⟩ := h
  obtain rfl := Option.some.inj (hg.symm.trans hg0)
  obtain rfl := Option.some.inj (ht.symm.trans ht0)
  obtain ⟨f1, u, v, hcs, _, _⟩ := iface_of_trod hi hd0
  refine ⟨u, v, ?_⟩
  rw [hv0]
  obtain ⟨l0⟩ := cs0
  simp only at hcs
  rw [hcs]

end Go.Proofs.YtlicdeppfhmfjaaGreatDoor.rct
