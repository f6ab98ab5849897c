/- A token is sold. -/
import Derived.Test.YtmpapnblpjnlmabDoorMjI
import Derived.Test.YtmpapnblpjnlmabDoorMjY
import Derived.Test.YtmpapnblpjnlmabDoorMjO
import Derived.Test.YtmpapnblpjnlmabDoorMtD
import Derived.Test.YtmpapnblpjnlmabDoorLet
import Derived.Test.YtmpapnblpjnlmabDoorTkMade
namespace Go.Proofs.YtmpapnblpjnlmabDoor.met
open Go.RowKit Go.Proofs.YtmpapnblpjnlmabDoor.ora Go.Proofs.YtmpapnblpjnlmabDoor.token
set_option maxRecDepth 100000
set_option linter.unusedVariables false
set_option linter.unusedSimpArgs false

/-- The boxes. -/
structure B5 (w wr : World) (m : Mt) (a : Option Addr) (n cap : Nat) (l : List Pr) (x y z u : Int) : Prop where
  ora : Blk wr w.heap.size #[.slice a n cap] 34
  met : Blk wr (w.heap.size + 1) m.cells 30
  raw : Blk wr (w.heap.size + 2) #[.int .i64 x, .int .i64 y, .int .i64 z, .int .i64 u] 25
  oo : Blk wr (w.heap.size + 3) #[.slice none 0 0] 34
  ot : Blk wr (w.heap.size + 4) #[.int .i64 0, .int .i64 0, .int .i64 0, .int .i64 0] 35
  came : Came wr a n cap l
  bel : Below w.heap.size w wr
  size : w.heap.size + 5 ≤ wr.heap.size
theorem B5.next {w wr w' : World} {m : Mt} {a : Option Addr} {n cap : Nat} {l : List Pr} {x y z u : Int} (h : B5 w wr m a n cap l x y z u) (hb : Below wr.heap.size wr w') : B5 w w' m a n cap l x y z u := ⟨h.ora.next hb, h.met.next hb, h.raw.next hb, h.oo.next hb, h.ot.next hb, h.came.below hb, bel_step h.bel hb, Nat.le_trans h.size hb.size⟩
theorem B5.alloc {w wr : World} {m : Mt} {a : Option Addr} {n cap : Nat} {l : List Pr} {x y z u : Int} (h : B5 w wr m a n cap l x y z u) (o : Obj) : B5 w (wr.alloc o) m a n cap l x y z u := h.next ((Below.refl _ _).alloc (Nat.le_refl _) _)
theorem Blk.new4 (w : World) (o p q r : Obj) (cs : Array Value) (t : TypeId) : Blk (((((w.alloc o).alloc p).alloc q).alloc r).alloc (.cells cs t)) (w.heap.size + 4) cs t := by
  have h := Blk.new ((((w.alloc o).alloc p).alloc q).alloc r) cs t
  rwa [show ((((w.alloc o).alloc p).alloc q).alloc r).heap.size = w.heap.size + 4 by simp] at h
theorem B5.new {w : World} (m : Mt) {a : Option Addr} {n cap : Nat} {l : List Pr} (x y z u : Int) (h : Came w a n cap l) : B5 w (((((w.alloc (.cells #[.slice a n cap] 34)).alloc (.cells m.cells 30)).alloc (.cells #[.int .i64 x, .int .i64 y, .int .i64 z, .int .i64 u] 25)).alloc (.cells #[.slice none 0 0] 34)).alloc (.cells #[.int .i64 0, .int .i64 0, .int .i64 0, .int .i64 0] 35)) m a n cap l x y z u := by
  have hb := (((((Below.refl w.heap.size w).alloc (Nat.le_refl _) (.cells #[.slice a n cap] 34)).alloc (by simp) (.cells m.cells 30)).alloc (by simp; omega) (.cells #[.int .i64 x, .int .i64 y, .int .i64 z, .int .i64 u] 25)).alloc (by simp; omega) (.cells #[.slice none 0 0] 34)).alloc (by simp; omega) (.cells #[.int .i64 0, .int .i64 0, .int .i64 0, .int .i64 0] 35)
  exact ⟨((((Blk.new w _ _).alloc _).alloc _).alloc _).alloc _, (((Blk.new1 w _ _ _).alloc _).alloc _).alloc _, ((Blk.new2 w _ _ _ _).alloc _).alloc _, (Blk.new3 w _ _ _ _ _).alloc _, Blk.new4 w _ _ _ _ _ _, h.below hb, hb, by simp⟩
/-- An oracle, a token and 'it went well' were given back. -/
def SoldPost (w : World) (a : Option Addr) (l : List Pr) (me rev kc ki ka kt bo : Int) (e : Ending) (w' : World) : Prop :=
  ∃ a' n' cap' ls tg f, e = .returned (.tuple #[.agg #[.slice a' n' cap'], .agg #[.int .i64 kc, .int .i64 ki, .int .i64 ka, .int .i64 tg], .bool (f == 0)]) ∧ Came w' a' n' cap' ls ∧ Alive w' a' ∧ Near w a a' ∧ IssueIs l me rev bo kt ls tg f ∧ Below w.heap.size w w'
set_option maxHeartbeats 4000000 in
theorem sold_abs {I : World → Prop} (hI : Inv I) (KO : KIssue I) (m : Mt) (a : Option Addr) (n cap : Nat) (l : List Pr) (x y z u kc ki ka kt bo : Int) (w : World) (h0 : I w) (hc : Came w a n cap l) (hal : Alive w a)
    (hM : ∀ W, Calls Tryd.prog 12 #[.agg #[.int .i64 x, .int .i64 y, .int .i64 z, .int .i64 u]] W fun e w' => e = .returned (.agg #[.int .i64 kc, .int .i64 ki, .int .i64 ka, .int .i64 kt]) ∧ Below W.heap.size W w')
    (hB : ∀ W, Below w.heap.size w W → Calls Tryd.prog 14 #[.agg #[.int .i64 kc, .int .i64 ki, .int .i64 ka, .int .i64 kt]] W fun e w' => e = .returned (.tuple #[.int .i64 bo, .int .i64 0]) ∧ Below W.heap.size W w') :
    Calls Tryd.prog 8 #[.agg #[.slice a n cap], m.v, .agg #[.int .i64 x, .int .i64 y, .int .i64 z, .int .i64 u]] w fun e w' => SoldPost w a l m.me m.rev kc ki ka kt bo e w' := by
  have HI := B5.new m x y z u hc
  have HM : Hid (∀ W, Calls Tryd.prog 12 #[.agg #[.int .i64 x, .int .i64 y, .int .i64 z, .int .i64 u]] W fun e w' => e = .returned (.agg #[.int .i64 kc, .int .i64 ki, .int .i64 ka, .int .i64 kt]) ∧ Below W.heap.size W w') := hM
  have HBD : Hid (∀ W, Below w.heap.size w W → Calls Tryd.prog 14 #[.agg #[.int .i64 kc, .int .i64 ki, .int .i64 ka, .int .i64 kt]] W fun e w' => e = .returned (.tuple #[.int .i64 bo, .int .i64 0]) ∧ Below W.heap.size W w') := hB
  have HIS : Hid (∀ W, Below w.heap.size w W → Came W a n cap l → Calls Tryd.prog 15 #[.agg #[.slice a n cap], .int .i64 m.me, .int .i64 m.rev, .int .i64 bo, .int .i64 kt] W fun e w' => IssueP W a l m.me m.rev bo kt e w') := fun W hb h => KO W a n cap l m.me m.rev bo kt (hI.from h0 hb) h (hal.below hb)
  have HAL : Hid (Alive w a) := hal
  clear KO hI h0 hc hM hB hal
  obtain ⟨me, rev, cr, h, b, bad, lock⟩ := m
  unfold Mt.v at *
  have HI0 : Hid (B5 w (((((w.alloc (.cells #[.slice a n cap] 34)).alloc (.cells #[.int .i64 me, .int .i64 rev, .int .i64 cr, .int .i64 h, .int .u64 (b : Int), .int .i64 bad, .int .i64 lock] 30)).alloc (.cells #[.int .i64 x, .int .i64 y, .int .i64 z, .int .i64 u] 25)).alloc (.cells #[.slice none 0 0] 34)).alloc (.cells #[.int .i64 0, .int .i64 0, .int .i64 0, .int .i64 0] 35)) ⟨me, rev, cr, h, b, bad, lock⟩ a n cap l x y z u) := HI
  clear HI
  unfold Mt.cells at *
  simp only [] at HIS ⊢
  have HX0 : Hid (Blk (((((w.alloc (.cells #[.slice a n cap] 34)).alloc (.cells #[.int .i64 me, .int .i64 rev, .int .i64 cr, .int .i64 h, .int .u64 (b : Int), .int .i64 bad, .int .i64 lock] 30)).alloc (.cells #[.int .i64 x, .int .i64 y, .int .i64 z, .int .i64 u] 25)).alloc (.cells #[.slice none 0 0] 34)).alloc (.cells #[.int .i64 0, .int .i64 0, .int .i64 0, .int .i64 0] 35)) (w.heap.size + 2) #[.int .i64 x, .int .i64 y, .int .i64 z, .int .i64 u] 25) := HI0.out.raw
  go_enter Tryd.func8, Tryd.ntmps8
  go_wp2_with (first
    | (refine wp_whole rfl 25 _ rfl (w.heap.size + 2) rfl 25 #[.int .i64 x, .int .i64 y, .int .i64 z, .int .i64 u] _ HX0.out Tryd.underlying25 rfl (by kernel_rfl) ?_)
    | fail)
  refine (HM.out _).mono ?_
  rintro e w1 ⟨rfl, hb1⟩
  have HI1 : Hid (B5 w (w1.alloc (.cells #[.int .i64 kc, .int .i64 ki, .int .i64 ka, .int .i64 kt] 35)) ⟨me, rev, cr, h, b, bad, lock⟩ a n cap l x y z u) := (HI0.out.next hb1).alloc _
  have HK1 : Hid (Blk (w1.alloc (.cells #[.int .i64 kc, .int .i64 ki, .int .i64 ka, .int .i64 kt] 35)) w1.heap.size #[.int .i64 kc, .int .i64 ki, .int .i64 ka, .int .i64 kt] 35) := Blk.new _ _ _
  have HSZ : Hid (w.heap.size + 5 ≤ w1.heap.size) := (HI0.out.next hb1).size
  clear hb1 HX0 HM HI0
  go_wp2_with (first
    | (refine wp_whole rfl 35 _ rfl (w1.heap.size) rfl 35 #[.int .i64 kc, .int .i64 ki, .int .i64 ka, .int .i64 kt] _ HK1.out Tryd.underlying35 rfl (by kernel_rfl) ?_)
    | fail)
  refine (HBD.out _ HI1.out.bel).mono ?_
  rintro e w2 ⟨rfl, hb2⟩
  have HI2 : Hid (B5 w w2 ⟨me, rev, cr, h, b, bad, lock⟩ a n cap l x y z u) := HI1.out.next hb2
  have HK2 : Hid (Blk w2 w1.heap.size #[.int .i64 kc, .int .i64 ki, .int .i64 ka, .int .i64 kt] 35) := HK1.out.next hb2
  clear hb2 HBD HI1 HK1
  have o0 := HI2.out.ora.cell 0
  have m0 : w2.cell? ⟨w.heap.size + 1, 0, none⟩ = some (.int .i64 me) := HI2.out.met.cell 0
  have m1 : w2.cell? ⟨w.heap.size + 1, 1, none⟩ = some (.int .i64 rev) := HI2.out.met.cell 1
  have k3 := HK2.out.cell 3
  go_wp2_with fail
  refine (HIS.out _ HI2.out.bel HI2.out.came).mono ?_
  rintro e w3 ⟨a', n', cap', ls, tg, f, rfl, hc3, hl3, hn3, hi3, hb3⟩
  have HI3 : Hid (B5 w (w3.alloc (.cells #[.slice a' n' cap'] 34)) ⟨me, rev, cr, h, b, bad, lock⟩ a n cap l x y z u) := (HI2.out.next hb3).alloc _
  have HK3 : Hid (Blk (w3.alloc (.cells #[.slice a' n' cap'] 34)) w1.heap.size #[.int .i64 kc, .int .i64 ki, .int .i64 ka, .int .i64 kt] 35) := (HK2.out.next hb3).alloc _
  have HN3 : Hid (Blk (w3.alloc (.cells #[.slice a' n' cap'] 34)) w3.heap.size #[.slice a' n' cap'] 34) := Blk.new _ _ _
  have HC3 : Hid (Came (w3.alloc (.cells #[.slice a' n' cap'] 34)) a' n' cap' ls) := hc3.below ((Below.refl _ _).alloc (Nat.le_refl _) _)
  have HAN : Hid (Alive w3 a' ∧ Near w2 a a' ∧ w1.heap.size < w2.heap.size ∧ w2.heap.size ≤ w3.heap.size) := ⟨hl3, hn3, HK2.out.lt, hb3.size⟩
  have HIX : Hid (IssueIs l me rev bo kt ls tg f) := hi3
  clear hc3 hl3 hn3 hi3 hb3 HIS HI2 HK2 o0 m0 m1 k3
  go_wp2_with (first
    | (refine wp_let1 rfl 3 _ _ rfl w1.heap.size 3 rfl .i64 tg rfl (by kernel_rfl) #[.int .i64 kc, .int .i64 ki, .int .i64 ka, .int .i64 kt] 35 HK3.out (by simp) ?_)
    | fail)
  intro W4 hU4
  have hsz := HSZ.out
  obtain ⟨hl3, hn3, h12, h23⟩ := HAN.out
  have hne : ∀ yy, a' = some yy → yy.block ≠ w1.heap.size := fun yy hy e => by
    rcases hn3 yy hy with h | ⟨zz, hz, hzy⟩
    · omega
    · have := HAL.out zz hz; omega
  have HF : Hid (Came W4 a' n' cap' ls ∧ Below w.heap.size w W4 ∧ Blk W4 (w.heap.size + 3) #[.slice none 0 0] 34 ∧ Blk W4 (w.heap.size + 4) #[.int .i64 0, .int .i64 0, .int .i64 0, .int .i64 0] 35) := ⟨upd_came hU4 HC3.out hne, hU4.bel _ _ (by omega) HI3.out.bel, hU4.keep HI3.out.oo (by omega), hU4.keep HI3.out.ot (by omega)⟩
  have HK4 : Hid (Blk W4 w1.heap.size #[.int .i64 kc, .int .i64 ki, .int .i64 ka, .int .i64 tg] 35) := hU4.blk
  have HN4 : Hid (Blk W4 w3.heap.size #[.slice a' n' cap'] 34) := hU4.keep HN3.out (by omega)
  have HAV : Hid (Alive W4 a') := fun yy hy => by rw [hU4.size]; have := hl3 yy hy; simp; omega
  have HNX : Hid (Near w2 a a') := hn3
  have HNW : Hid (Near w a a') := fun yy hy => by
    rcases hn3 yy hy with h | h
    · left; omega
    · exact .inr h
  clear hU4 HI3 HK3 HN3 HC3 hne hl3 hn3 HAN
  go_wp2_with fail
  refine wp_region_held_drew (S := fun v => Blk v w1.heap.size #[.int .i64 kc, .int .i64 ki, .int .i64 ka, .int .i64 tg] 35 ∧ Blk v w3.heap.size #[.slice a' n' cap'] 34) (by kernel_rfl) ⟨HK4.out, HN4.out⟩ (fun hHeld => ?_)
  refine take_at 0 37 _ _ rfl rfl (by kernel_rfl) (by kernel_rfl) (by kernel_rfl) (fun _ _ _ h => h) (yieldsIf_whole (by rfl) 34 _ rfl w3.heap.size rfl 34 #[.slice a' n' cap'] _ (fun v hv => hv.2) Tryd.underlying34 rfl (by kernel_rfl)) hHeld ?_
  simp only [Act.put, List.setIfInBounds_toArray, List.set_cons_zero, List.set_cons_succ]
  refine take_at 1 38 _ _ rfl rfl (by kernel_rfl) (by kernel_rfl) (by kernel_rfl) (fun _ _ _ h => h) (yieldsIf_whole (by rfl) 35 _ rfl w1.heap.size rfl 35 #[.int .i64 kc, .int .i64 ki, .int .i64 ka, .int .i64 tg] _ (fun v hv => hv.1) Tryd.underlying35 rfl (by kernel_rfl)) hHeld ?_
  simp only [Act.put, List.setIfInBounds_toArray, List.set_cons_zero, List.set_cons_succ]
  refine take_at 2 39 (.int .i64 0) _ rfl rfl (by kernel_rfl) (by kernel_rfl) (by kernel_rfl) (fun _ _ _ h => h) (Or.inl ⟨by rfl, fun v hv => by go_simp⟩) hHeld ?_
  simp only [Act.put, List.setIfInBounds_toArray, List.set_cons_zero, List.set_cons_succ]
  refine take_at 3 40 (.bool true) _ rfl rfl (by kernel_rfl) (by kernel_rfl) (by kernel_rfl) (fun _ _ _ h => h) (Or.inl ⟨by rfl, fun v hv => by go_simp⟩) hHeld ?_
  simp only [Act.put, List.setIfInBounds_toArray, List.set_cons_zero, List.set_cons_succ]
  refine take_at 4 41 (.bool true) _ rfl rfl (by kernel_rfl) (by kernel_rfl) (by kernel_rfl) (fun _ _ _ h => h) (Or.inl ⟨by rfl, fun v hv => by go_simp⟩) hHeld ?_
  simp only [Act.put, List.setIfInBounds_toArray, List.set_cons_zero, List.set_cons_succ]
  refine take_at 5 42 (.int .i64 f) _ rfl rfl (by kernel_rfl) (by kernel_rfl) (by kernel_rfl) (fun _ _ _ h => h) (Or.inl ⟨by rfl, fun v hv => by go_simp⟩) hHeld ?_
  simp only [Act.put, List.setIfInBounds_toArray, List.set_cons_zero, List.set_cons_succ]
  refine take_at 6 43 (.bool (f == 0)) _ rfl rfl (by kernel_rfl) (by kernel_rfl) (by kernel_rfl) (fun _ _ _ h => h) (Or.inl ⟨by rfl, fun v hv => by go_simp⟩) hHeld ?_
  simp only [Act.put, List.setIfInBounds_toArray, List.set_cons_zero, List.set_cons_succ]
  refine take_at 7 44 (.bool (f == 0)) _ rfl rfl (by kernel_rfl) (by kernel_rfl) (by kernel_rfl) (fun _ _ _ h => h) (Or.inl ⟨by rfl, fun v hv => by go_simp⟩) hHeld ?_
  simp only [Act.put, List.setIfInBounds_toArray, List.set_cons_zero, List.set_cons_succ]
  refine wpAnyH_ready (rs := [8]) (by kernel_rfl) (by simp) (AllReadyH.cons rfl (fun K hK => ?_) AllReadyH.nil)
  rw [if_pos (by rfl)]
  refine wp_letOp 34 _ _ rfl (w.heap.size + 3) rfl #[.slice a' n' cap'] rfl (by kernel_rfl) (by simp [Value.oneCell']) #[.slice none 0 0] 34 (Blk.drew HF.out.2.2.1 1) rfl rfl ?_
  intro W5 hU5
  refine hK.out _ _ ⟨hU5.keep (Blk.drew HK4.out 1) (by omega), hU5.keep (Blk.drew HN4.out 1) (by omega)⟩ (fun hHeld => ?_)
  have hA3 : ∀ yy, a' = some yy → yy.block ≠ w.heap.size + 3 := fun yy hy e => by
    rcases HNX.out yy hy with h | ⟨zz, hz, hzy⟩
    · omega
    · have := HAL.out zz hz; omega
  have hA4 : ∀ yy, a' = some yy → yy.block ≠ w.heap.size + 4 := fun yy hy e => by
    rcases HNX.out yy hy with h | ⟨zz, hz, hzy⟩
    · omega
    · have := HAL.out zz hz; omega
  have HF5 : Hid (Came W5 a' n' cap' ls ∧ Below w.heap.size w W5 ∧ Blk W5 (w.heap.size + 3) #[.slice a' n' cap'] 34 ∧ Blk W5 (w.heap.size + 4) #[.int .i64 0, .int .i64 0, .int .i64 0, .int .i64 0] 35 ∧ Alive W5 a') := ⟨upd_came hU5 (HF.out.1.drew 1) hA3, hU5.bel _ _ (by omega) (bel_drew HF.out.2.1 1), hU5.blk, hU5.keep (Blk.drew HF.out.2.2.2 1) (by omega), fun yy hy => by rw [hU5.size]; exact HAV.out yy hy⟩
  clear hU5 hK
  refine wpAnyH_ready (rs := [9]) (by kernel_rfl) (by simp) (AllReadyH.cons rfl (fun K hK => ?_) AllReadyH.nil)
  rw [if_pos (by rfl)]
  refine wp_letOp 35 _ _ rfl (w.heap.size + 4) rfl #[.int .i64 kc, .int .i64 ki, .int .i64 ka, .int .i64 tg] rfl (by kernel_rfl) (by simp [Value.oneCell']) #[.int .i64 0, .int .i64 0, .int .i64 0, .int .i64 0] 35 HF5.out.2.2.2.1 rfl rfl ?_
  intro W6 hU6
  refine hK.out _ _ ⟨hU6.keep hHeld.1 (by omega), hU6.keep hHeld.2 (by omega)⟩ (fun hHeld => ?_)
  refine take_at 10 8 (.bool (f == 0)) _ rfl rfl (by kernel_rfl) (by kernel_rfl) (by kernel_rfl) (fun _ _ _ h => h) (Or.inl ⟨by rfl, fun v hv => by go_simp⟩) hHeld ?_
  simp only [Act.put, List.setIfInBounds_toArray, List.set_cons_zero, List.set_cons_succ]
  refine wpAnyH_done (by kernel_rfl) ?_ _
  have hO6 : Blk W6 (w.heap.size + 3) #[.slice a' n' cap'] 34 := hU6.keep HF5.out.2.2.1 (by omega)
  have R0 : Hid (W6.cell? ⟨w.heap.size + 3, 0, none⟩ = some (.slice a' n' cap')) := hO6.cell 0
  have T0 : Hid (W6.cell? ⟨w.heap.size + 4, 0, none⟩ = some (.int .i64 kc)) := hU6.blk.cell 0
  have T1 : Hid (W6.cell? ⟨w.heap.size + 4, 1, none⟩ = some (.int .i64 ki)) := hU6.blk.cell 1
  have T2 : Hid (W6.cell? ⟨w.heap.size + 4, 2, none⟩ = some (.int .i64 ka)) := hU6.blk.cell 2
  have T3 : Hid (W6.cell? ⟨w.heap.size + 4, 3, none⟩ = some (.int .i64 tg)) := hU6.blk.cell 3
  have HF6 : Hid (Came W6 a' n' cap' ls ∧ Alive W6 a' ∧ Near w a a' ∧ IssueIs l me rev bo kt ls tg f ∧ Below w.heap.size w W6) := ⟨upd_came hU6 HF5.out.1 hA4, (fun yy hy => by rw [hU6.size]; exact HF5.out.2.2.2.2 yy hy), HNW.out, HIX.out, hU6.bel _ _ (by omega) HF5.out.2.1⟩
  clear hU6 hK hHeld HF5 HF HK4 HN4 HAV HNW HIX hA3 hA4 hO6 HAL HNX
  go_wp2_with fail
  exact bodyPost_ret (v := .tuple #[.agg #[.slice a' n' cap'], .agg #[.int .i64 kc, .int .i64 ki, .int .i64 ka, .int .i64 tg], .bool (f == 0)]) (by simp [results, Tryd.results8, R0.out, T0.out, T1.out, T2.out, T3.out, go_sem]) rfl ⟨a', n', cap', ls, tg, f, rfl, HF6.out⟩
theorem sold_any {I : World → Prop} (hI : Inv I) (KB : KBody I) (KO : KIssue I) (m : Mt) (a : Option Addr) (n cap : Nat) (l : List Pr) (x y z u : Int) (w : World) (h0 : I w) (hc : Came w a n cap l) (hal : Alive w a) (hw : wf4 x y z u) :
    Calls Tryd.prog 8 #[.agg #[.slice a n cap], m.v, .agg #[.int .i64 x, .int .i64 y, .int .i64 z, .int .i64 u]] w fun e w' => SoldPost w a l m.me m.rev (madeT x y z u).c (madeT x y z u).i (madeT x y z u).a (madeT x y z u).t (madeT x y z u).body e w' :=
  sold_abs hI KO m a n cap l x y z u _ _ _ _ _ w h0 hc hal (fun W => made_any x y z u W hw) (fun W hB => KB W (madeT x y z u) (hI.from h0 hB) (made_ok x y z u))

end Go.Proofs.YtmpapnblpjnlmabDoor.met
