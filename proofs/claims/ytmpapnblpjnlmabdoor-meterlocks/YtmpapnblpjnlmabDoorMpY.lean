/- A meter at work keys a token in. -/
import Derived.Test.YtmpapnblpjnlmabDoorMpA
import Derived.Test.YtmpapnblpjnlmabDoorMpN
import Derived.Test.YtmpapnblpjnlmabDoorTkBodyP
namespace Go.Proofs.YtmpapnblpjnlmabDoor.met
open Go.RowKit Go.Proofs.YtmpapnblpjnlmabDoor.ora Go.Proofs.YtmpapnblpjnlmabDoor.token
set_option maxRecDepth 100000
set_option linter.unusedVariables false
set_option linter.unusedSimpArgs false

/-- What taking gives, of keying. -/
def TakeK (w : World) (g : Nat) (m : Mt) (c i am : Int) (e : Ending) (w' : World) : Prop :=
  Chg w w' g ∧ ∃ m' x f, e = .returned (.tuple #[.int .i64 x, .int .i64 f]) ∧ Wk w' g m' ∧ ∀ (l : List Pr) (t bo : Int), (m.may ∧ May l) → flawT c i am t = 0 → m.lock ≤ 0 → Here l m.me m.rev bo t → KeyIs m l c i am t bo m' x f
theorem run_fill (args : Array Value) (w : World) : (callFunc 43 args).run Tryd.prog w = .ok (.enter 43 args) w := by kernel_rfl
theorem run_empty (args : Array Value) (w : World) : (callFunc 44 args).run Tryd.prog w = .ok (.enter 44 args) w := by kernel_rfl
theorem run_rekey (args : Array Value) (w : World) : (callFunc 45 args).run Tryd.prog w = .ok (.enter 45 args) w := by kernel_rfl
theorem fill_bd {i am t : Int} (h : flawT 0 i am t = 0) : 0 ≤ am ∧ am ≤ 2097151 := by
  obtain ⟨k, hk, h1, h2, h3, h4⟩ := flaw_ok h
  rw [flawT_in (by omega)] at h
  split at h
  · rename_i h5
    simp only [Bool.and_eq_true, hasI_yes] at h5
    have h6 := h5.2.1
    unfold amLo amHi at h6
    simp at h6
    omega
  · cases h
theorem ptakes (g : Nat) (m : Mt) (c i am t : Int) (w : World) (hw : Wk w g m) (hb : m.b < 18446744073709551616) (hm : m.may) (hf : flawT c i am t = 0) (h3 : c ≠ 3) :
    Calls Tryd.prog 28 #[.pointer (some ⟨g, 0, none⟩), .agg #[.int .i64 c, .int .i64 i, .int .i64 am, .int .i64 t]] w fun e w' => TakeK w g m c i am e w' := by
  have hc : 0 ≤ c ∧ c ≤ 3 := by
    by_cases hx : c < 0 ∨ 3 < c
    · rw [flawT_class hx] at hf; cases hf
    · omega
  rcases (by omega : c = 0 ∨ c = 1 ∨ c = 2) with rfl | rfl | rfl
  · refine (take_abs 43 g m 0 i am t (99999999 - m.cr < am) 15 am { m with cr := m.cr + am } w hw hb (by decide) run_fill (fun W => pdeed0 g W) (fun W h => pfill g m am W h hm.cr (fill_bd hf))).mono ?_
    rintro e w' ⟨hch, ⟨j, hj, hj0, rfl, hw'⟩ | ⟨hj, hno, rfl, hw'⟩ | ⟨hj, hno, rfl, hw'⟩⟩
    · exact ⟨hch, m, 0, j, rfl, hw', fun l t bo h1 h2 h4 h5 => .judge j h1 h2 h4 (by decide) h5 hj hj0⟩
    · exact ⟨hch, m, 0, 15, rfl, hw', fun l t bo h1 h2 h4 h5 => .full h1 h2 h4 (by decide) h5 hj (fun hn => hn ⟨rfl, hno⟩)⟩
    · exact ⟨hch, _, am, 0, rfl, hw', fun l t bo h1 h2 h4 h5 => .take h1 h2 h4 (by decide) h5 hj (fun hn => hno hn.2) (fun hn => by have := hn.1; omega)⟩
  · refine (take_abs 44 g m 1 i am t False 1 0 { m with cr := 0 } w hw hb (by decide) run_empty (fun W => pdeed1 g W) (fun W h => pempty g m am W h)).mono ?_
    rintro e w' ⟨hch, ⟨j, hj, hj0, rfl, hw'⟩ | ⟨hj, hno, rfl, hw'⟩ | ⟨hj, hno, rfl, hw'⟩⟩
    · exact ⟨hch, m, 0, j, rfl, hw', fun l t bo h1 h2 h4 h5 => .judge j h1 h2 h4 (by decide) h5 hj hj0⟩
    · exact hno.elim
    · exact ⟨hch, _, 0, 0, rfl, hw', fun l t bo h1 h2 h4 h5 => .take h1 h2 h4 (by decide) h5 hj (fun hn => by have := hn.1; omega) (fun hn => by have := hn.1; omega)⟩
  · refine (take_abs 45 g m 2 i am t (am ≤ m.rev) 24 0 { m with rev := am } w hw hb (by decide) run_rekey (fun W => pdeed2 g W) (fun W h => prekey g m am W h)).mono ?_
    rintro e w' ⟨hch, ⟨j, hj, hj0, rfl, hw'⟩ | ⟨hj, hno, rfl, hw'⟩ | ⟨hj, hno, rfl, hw'⟩⟩
    · exact ⟨hch, m, 0, j, rfl, hw', fun l t bo h1 h2 h4 h5 => .judge j h1 h2 h4 (by decide) h5 hj hj0⟩
    · exact ⟨hch, m, 0, 24, rfl, hw', fun l t bo h1 h2 h4 h5 => .key h1 h2 h4 (by decide) h5 hj (fun hn => by have := hn.1; omega) (fun hn => hn ⟨rfl, hno⟩)⟩
    · exact ⟨hch, _, 0, 0, rfl, hw', fun l t bo h1 h2 h4 h5 => .take h1 h2 h4 (by decide) h5 hj (fun hn => by have := hn.1; omega) (fun hn => hno hn.2)⟩
/-- A token's body, or why it has none. -/
def BodyK (w : World) (c i am t : Int) (e : Ending) (w' : World) : Prop := ∃ bo, e = .returned (.tuple #[.int .i64 bo, .int .i64 (flawT c i am t)]) ∧ (flawT c i am t = 0 → bo = bodyI c i am) ∧ Below w.heap.size w w'
theorem pbodyk (c i am t : Int) (w : World) (ht : TTab w) : Calls Tryd.prog 14 #[.agg #[.int .i64 c, .int .i64 i, .int .i64 am, .int .i64 t]] w fun e w' => BodyK w c i am t e w' := by
  by_cases hf : flawT c i am t = 0
  · obtain ⟨k, hk, h1, h2, h3, h4⟩ := flaw_ok hf
    unfold BodyK
    rw [hf, h1, h2, h3, h4]
    refine (body_ok k w ht hk).mono ?_
    rintro e w' ⟨rfl, hb⟩
    exact ⟨_, rfl, fun _ => (body_tok k).symm, hb⟩
  · refine (body_no c i am t w ht hf).mono ?_
    rintro e w' ⟨rfl, hb⟩
    exact ⟨0, rfl, fun h => absurd h hf, hb⟩
/-- What a meter at work gives. -/
def KeyW (w : World) (g : Nat) (m : Mt) (l : List Pr) (c i am t : Int) (e : Ending) (w' : World) : Prop :=
  Chg w w' g ∧ ∃ m' x f, e = .returned (.tuple #[.int .i64 x, .int .i64 f]) ∧ Wk w' g m' ∧ KeyIs m l c i am t (bodyI c i am) m' x f
set_option maxHeartbeats 2000000 in
theorem pkeyw (g : Nat) (m : Mt) (a : Option Addr) (n cap : Nat) (l : List Pr) (c i am t : Int) (w : World) (ht : TTab w) (hw : Wk w g m) (hr : RowP w a n l) (hb : m.b < 18446744073709551616) (hm : m.may) (hl : May l) :
    Calls Tryd.prog 18 #[.pointer (some ⟨g, 0, none⟩), .agg #[.slice a n cap], .agg #[.int .i64 c, .int .i64 i, .int .i64 am, .int .i64 t]] w fun e w' => KeyW w g m l c i am t e w' := by
  have HMA : Hid (m.may ∧ May l) := ⟨hm, hl⟩
  have HBO : Hid (∀ W, TTab W → Calls Tryd.prog 14 #[.agg #[.int .i64 c, .int .i64 i, .int .i64 am, .int .i64 t]] W fun e w' => BodyK W c i am t e w') := fun W h => pbodyk c i am t W h
  have HKN : Hid (∀ W bo, Wk W g m → RowP W a n l → Calls Tryd.prog 27 #[.pointer (some ⟨g, 0, none⟩), .agg #[.slice a n cap], .int .i64 bo, .int .i64 t] W fun e w' => Know W g m l bo t e w') := fun W bo h1 h2 => pknow g m a n cap l bo t W h1 h2 hl hm
  have HTK : Hid (∀ W, flawT c i am t = 0 → c ≠ 3 → Wk W g m → Calls Tryd.prog 28 #[.pointer (some ⟨g, 0, none⟩), .agg #[.int .i64 c, .int .i64 i, .int .i64 am, .int .i64 t]] W fun e w' => TakeK W g m c i am e w') := fun W h1 h2 h3 => ptakes g m c i am t W h3 hb hm h1 h2
  have hb0 : Below w.heap.size w ((w.alloc (.cells #[.slice a n cap] 34)).alloc (.cells #[.int .i64 c, .int .i64 i, .int .i64 am, .int .i64 t] 35)) := ((Below.refl _ _).alloc (Nat.le_refl _) _).alloc (by simp) _
  have HT0 : Hid (TTab ((w.alloc (.cells #[.slice a n cap] 34)).alloc (.cells #[.int .i64 c, .int .i64 i, .int .i64 am, .int .i64 t] 35))) := ht.below hb0
  have HW0 : Hid (Wk ((w.alloc (.cells #[.slice a n cap] 34)).alloc (.cells #[.int .i64 c, .int .i64 i, .int .i64 am, .int .i64 t] 35)) g m) := hw.next hb0
  have HO0 : Hid (Blk ((w.alloc (.cells #[.slice a n cap] 34)).alloc (.cells #[.int .i64 c, .int .i64 i, .int .i64 am, .int .i64 t] 35)) (w.heap.size) #[.slice a n cap] 34) := (Blk.new _ _ _).alloc _
  have HK0 : Hid (Blk ((w.alloc (.cells #[.slice a n cap] 34)).alloc (.cells #[.int .i64 c, .int .i64 i, .int .i64 am, .int .i64 t] 35)) (w.heap.size + 1) #[.int .i64 c, .int .i64 i, .int .i64 am, .int .i64 t] 35) := Blk.new1 w _ _ _
  have HR0 : Hid (RowP ((w.alloc (.cells #[.slice a n cap] 34)).alloc (.cells #[.int .i64 c, .int .i64 i, .int .i64 am, .int .i64 t] 35)) a n l) := hr.below hb0
  have HB0 : Hid (Below w.heap.size w ((w.alloc (.cells #[.slice a n cap] 34)).alloc (.cells #[.int .i64 c, .int .i64 i, .int .i64 am, .int .i64 t] 35))) := hb0
  have HGL : Hid (g < w.heap.size) := Blk.lt hw
  clear ht hw hr hb hm hl hb0
  obtain ⟨me, rev, cr, h, b, bad, lock⟩ := m
  go_enter Tryd.func18, Tryd.ntmps18
  go_wp2_with (first | (refine wp_whole rfl 35 _ rfl (w.heap.size + 1) rfl 35 #[.int .i64 c, .int .i64 i, .int .i64 am, .int .i64 t] _ HK0.out Tryd.underlying35 rfl (by kernel_rfl) ?_) | fail)
  refine (HBO.out _ HT0.out).mono ?_
  rintro e w1 ⟨bo, rfl, hbo, hb1⟩
  have HW1 : Hid (Blk w1 g #[.int .i64 me, .int .i64 rev, .int .i64 cr, .int .i64 h, .int .u64 (b : Int), .int .i64 bad, .int .i64 lock] 57) := HW0.out.next hb1
  have HO1 : Hid (Blk w1 (w.heap.size) #[.slice a n cap] 34) := HO0.out.next hb1
  have HK1 : Hid (Blk w1 (w.heap.size + 1) #[.int .i64 c, .int .i64 i, .int .i64 am, .int .i64 t] 35) := HK0.out.next hb1
  have HR1 : Hid (RowP w1 a n l) := HR0.out.below hb1
  have HB1 : Hid (Below w.heap.size w w1) := bel_step HB0.out hb1
  have HBE : Hid (flawT c i am t = 0 → bo = bodyI c i am) := hbo
  clear hbo hb1 HBO HT0 HW0 HO0 HK0 HR0 HB0
  by_cases hf : flawT c i am t = 0
  · have HF : Hid (flawT c i am t = 0) := hf
    have HBI : Hid (bo = bodyI c i am) := HBE.out hf
    rw [hf]
    clear hf HBE
    have q6 : w1.cell? ⟨g, 6, none⟩ = some (.int .i64 lock) := HW1.out.cell 6
    by_cases hlk : 0 < lock
    · have HL : Hid (¬ lock ≤ 0) := by show ¬ _; omega
      have hd : decide (0 < lock) = true := by simp [hlk]
      have HX : Hid (KeyW w g ⟨me, rev, cr, h, b, bad, lock⟩ l c i am t (.returned (.tuple #[.int .i64 0, .int .i64 10])) w1) := ⟨.of HB1.out, ⟨me, rev, cr, h, b, bad, lock⟩, 0, 10, rfl, HW1.out, .locked HMA.out HF.out HL.out⟩
      clear hlk HL
      go_wp2_with fail
      go_ret2
      exact HX.out
    · have HL : Hid (lock ≤ 0) := by show _ ≤ _; omega
      have hd : decide (0 < lock) = false := by simp; omega
      clear hlk
      have k0 : w1.cell? ⟨w.heap.size + 1, 0, none⟩ = some (.int .i64 c) := HK1.out.cell 0
      by_cases h3 : c = 3
      · have HC : Hid (¬ (c ≠ 3)) := fun h => h h3
        have hq : (c == 3) = true := by simp [h3]
        have HX : Hid (KeyW w g ⟨me, rev, cr, h, b, bad, lock⟩ l c i am t (.returned (.tuple #[.int .i64 0, .int .i64 0])) w1) := ⟨.of HB1.out, ⟨me, rev, cr, h, b, bad, lock⟩, 0, 0, rfl, HW1.out, .test HMA.out HF.out HL.out HC.out⟩
        clear h3 HC
        go_wp2_with fail
        go_ret2
        exact HX.out
      · have HC : Hid (c ≠ 3) := h3
        have hq : (c == 3) = false := by simp [h3]
        have k3 : w1.cell? ⟨w.heap.size + 1, 3, none⟩ = some (.int .i64 t) := HK1.out.cell 3
        have o0 : w1.cell? ⟨w.heap.size, 0, none⟩ = some (.slice a n cap) := HO1.out.cell 0
        clear h3
        go_wp2_with fail
        refine (HKN.out _ _ HW1.out HR1.out).mono ?_
        rintro e w2 ⟨hc2, ⟨hh, rfl, hw2⟩ | ⟨hh, he, rfl, hw2⟩ | ⟨hh, he, rfl, hw2⟩⟩
        · have hgl := HGL.out
          have HH : Hid (Here l me rev bo t) := hh
          have HW2 : Hid (Wk w2 g ⟨me, rev, cr, h, b, bad, lock⟩) := hw2
          have HC2 : Hid (Chg w w2 g) := (Chg.of HB1.out).trans hc2
          have HK2 : Hid (Blk w2 (w.heap.size + 1) #[.int .i64 c, .int .i64 i, .int .i64 am, .int .i64 t] 35) := hc2.keep HK1.out (by omega)
          clear hh hw2 hc2 hgl HKN q6 k0 k3 o0 HW1 HO1 HK1 HR1 HB1
          go_wp2_with (first | (refine wp_whole rfl 35 _ rfl (w.heap.size + 1) rfl 35 #[.int .i64 c, .int .i64 i, .int .i64 am, .int .i64 t] _ HK2.out Tryd.underlying35 rfl (by kernel_rfl) ?_) | fail)
          refine (HTK.out _ HF.out HC.out HW2.out).mono ?_
          rintro e w3 ⟨hc3, m', x, f, rfl, hw3, hk3⟩
          have HK3 : Hid (KeyIs ⟨me, rev, cr, h, b, bad, lock⟩ l c i am t (bodyI c i am) m' x f) := hk3 l t _ HMA.out HF.out HL.out (by rw [← HBI.out]; exact HH.out)
          have HW3 : Hid (Wk w3 g m') := hw3
          have HC3 : Hid (Chg w w3 g) := HC2.out.trans hc3
          clear hc3 hw3 hk3 HTK HW2 HC2 HK2
          go_wp2_with fail
          go_ret2
          exact ⟨HC3.out, m', x, f, rfl, HW3.out, HK3.out⟩
        · have HX : Hid (KeyW w g ⟨me, rev, cr, h, b, bad, lock⟩ l c i am t (.returned (.tuple #[.int .i64 0, .int .i64 11])) w2) := ⟨(Chg.of HB1.out).trans hc2, _, 0, 11, rfl, hw2, .old HMA.out HF.out HL.out HC.out (by rw [← HBI.out]; exact hh) (by rw [← HBI.out]; exact he)⟩
          clear hh he hw2 hc2 q6 k0 k3 o0 HKN
          go_wp2_with fail
          go_ret2
          exact HX.out
        · have HX : Hid (KeyW w g ⟨me, rev, cr, h, b, bad, lock⟩ l c i am t (.returned (.tuple #[.int .i64 0, .int .i64 12])) w2) := ⟨(Chg.of HB1.out).trans hc2, _, 0, 12, rfl, hw2, .tag HMA.out HF.out HL.out HC.out (by rw [← HBI.out]; exact hh) (by rw [← HBI.out]; exact he)⟩
          clear hh he hw2 hc2 q6 k0 k3 o0 HKN
          go_wp2_with fail
          go_ret2
          exact HX.out
  · have HF : Hid (¬ flawT c i am t = 0) := hf
    have HX : Hid (KeyIs ⟨me, rev, cr, h, b, bad, lock⟩ l c i am t (bodyI c i am) ⟨me, rev, cr, h, b, bad, lock⟩ 0 (flawT c i am t)) := .flaw HMA.out hf
    have hd : (flawT c i am t != 0) = true := by simp [hf]
    clear hf HBE HF HKN HTK HMA
    generalize flawT c i am t = fl at *
    go_wp2_with fail
    go_ret2
    exact ⟨.of HB1.out, ⟨me, rev, cr, h, b, bad, lock⟩, 0, fl, rfl, HW1.out, HX.out⟩

end Go.Proofs.YtmpapnblpjnlmabDoor.met
