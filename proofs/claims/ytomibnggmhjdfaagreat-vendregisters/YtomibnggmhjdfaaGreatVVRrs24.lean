import Derived.Test.YtomibnggmhjdfaaGreatVVRrs23
set_option linter.unusedVariables false
set_option linter.unusedSimpArgs false
namespace Go.Proofs.YtomibnggmhjdfaaGreat
namespace vnd
open disk (RepIs AppIs RepPost AppPost Lr Recs Sli sl0)
open book (Ev ev0 EMay evL evOf EncIs DecIs Cm cm0 So so0 BookIs BookPost Sees ECame RowE FirstAt NoneAt Tells EncPost DecPost)
open acc (Ac Tm Bi SellIs GrantIs RekeyIs OweIs)
open cell (Wr RowU RowW Lw Ws)
open token (Tok)
open Go.RowKit
set_option maxRecDepth 100000
set_option maxHeartbeats 2000000 in
theorem rregister (t : Tm) (pt : Option Addr) (lt ct : Nat) (a : Option Addr) (n cap : Nat) (c : List Int) (me : Int) (w : World) (ht : tar.Came w pt lt ct t.ts) (h : RowU w a n c) (hw : ∀ x ∈ c, 0 ≤ x ∧ x < 4294967296) : Calls Tryz.prog 13 #[.agg #[.slice pt lt ct, .int .i64 t.ff, .int .i64 t.fb, .int .i64 t.db, .int .i64 t.al], .slice a n cap, .int .i64 me] w fun e w' => WrPost w (RegIs t c me) e w' := by
 have HC : Hid (∀ W, Below w.heap.size w W → RowU W a n c) := fun W hW => h.below hW
 have HT : Hid (∀ W, Below w.heap.size w W → tar.Came W pt lt ct t.ts) := fun W hW => ht.below hW
 have HW : Hid (∀ x ∈ c, 0 ≤ x ∧ x < 4294967296) := hw
 clear h ht hw
 have HIN : Hid (∀ W, Calls Tryz.prog 25 #[.int .i64 me, .int .i64 0, .int .i64 49] W fun e w' => e = .returned (.bool (decide (0 ≤ me ∧ me ≤ 49))) ∧ w' = W) := fun W => cal.cin me 0 49 W
 obtain ⟨W0, HWW, H0t, H0B, hs0⟩ := sh1 w #[.slice pt lt ct, .int .i64 t.ff, .int .i64 t.fb, .int .i64 t.db, .int .i64 t.al] 24
 go_enter Tryz.func13, Tryz.ntmps13
 go_upto_region 1 with fail
 rw [HWW.out]
 clear HWW
 have HLO : Hid (Calls Tryz.prog 9 #[.agg #[.slice pt lt ct, .int .i64 t.ff, .int .i64 t.fb, .int .i64 t.db, .int .i64 t.al], .slice a n cap] W0 fun e w' => LoadPost W0 t c e w') := rloaded t pt lt ct a n cap c W0 (HT.out _ H0B.out) (HC.out _ H0B.out) HW.out
 go_wp2_with (first
  | (refine zqw rfl rfl rfl H0t zqu24 ?_)
  | fail)
 refine HLO.out.mono ?_
 rintro e w1 ⟨p2, m2, c2, xs, bk, g, rfl, hli, hse, hm2, hb1⟩
 have H1t := shN H0t hb1
 have H1B := shB H0B hb1
 have hsw1 : W0.heap.size ≤ w1.heap.size := hb1.size
 clear hb1 H0t H0B
 have HLI : Hid (LoadIs t c bk g) := hli
 have HSE : Hid (Sees w1 p2 m2 xs bk) := hse
 clear hli hse HLO
 have H2X : Hid (Below w1.heap.size w1 w1) := Below.refl _ _
 obtain ⟨W2, HWW, H3k, H3X, hsW2⟩ := sh1 w1 #[.slice p2 m2 c2] 29
 have H3t := shN H1t H3X.out
 have H3B := shB H1B H3X.out
 go_upto_region 2 with fail
 clear H1t H2X H1B
 rw [HWW.out]
 clear HWW
 by_cases h0 : g = 0
 ·subst h0
  by_cases h1 : 0 ≤ me ∧ me ≤ 49
  ·rw [decide_eq_true h1] at HIN
   go_wp2_with fail
   refine (HIN.out _).mono ?_
   rintro e wz ⟨rfl, hwz⟩
   subst wz
   clear HIN
   have HSW : Hid (Sees W2 p2 m2 xs bk) := HSE.out.below H3X.out
   have HFO : Hid (Calls Tryz.prog 26 #[.agg #[.slice p2 m2 c2], .int .i64 me] W2 fun e w' => ∃ x, e = .returned (.int .i64 x) ∧ book.FoundIs xs me x ∧ Below W2.heap.size W2 w') := book.rfound p2 m2 c2 xs me W2 HSW.out.row (by omega)
   go_wp2_with (first
    | (refine zqw rfl rfl rfl H3t zqu24 ?_)
    | (refine zqw rfl rfl rfl H3k zqu29 ?_)
    | fail)
   refine HFO.out.mono ?_
   rintro e w3 ⟨x, rfl, hfo, hb3⟩
   have H4t := shN H3t hb3
   have H4k := shN H3k hb3
   have H4X := shB H3X hb3
   have H4B := shB H3B hb3
   have hsw3 : W2.heap.size ≤ w3.heap.size := hb3.size
   clear hb3 H3t H3k H3X H3B
   have hff := found_first HSW.out.len HSW.out.num hfo
   clear hfo HFO
   rcases hff with ⟨rfl, hnone⟩ | ⟨k, rfl, hfirst, hkx⟩
   ·have HNO : Hid (NoneAt bk me) := hnone
    clear hnone
    have HKE : Hid (Calls Tryz.prog 27 #[.slice a n cap, .agg #[.int .i64 1, .int .i64 me, .int .i64 0, .int .i64 0, .int .i64 0, .int .i64 0, .int .i64 0, .int .i64 0, .int .i64 0, .int .i64 0, .int .i64 0, .int .i64 0, .int .i64 0]] w3 fun e w' => WrPost w3 (KeepIs c (regE me)) e w') := rkeeps a n cap c (regE me) w3 (HC.out _ H4B.out) HW.out
    go_wp2_with (first
     | (refine zqw rfl rfl rfl H4t zqu24 ?_)
     | (refine zqw rfl rfl rfl H4k zqu29 ?_)
     | fail)
    refine HKE.out.mono ?_
    rintro e w4 ⟨V, ls, f, rfl, hke, hlw, hb4⟩
    have H5t := shN H4t hb4
    have H5k := shN H4k hb4
    have H5X := shB H4X hb4
    have H5B := shB H4B hb4
    have hsw4 : w3.heap.size ≤ w4.heap.size := hb4.size
    clear hb4 H4t H4k H4X H4B
    have HV : Hid (RegIs t c me ls f) := ⟨bk, 0, HLI.out, .inr (.inr (.inr ⟨rfl, h1, HNO.out, hke⟩))⟩
    have HL : Hid (Lw w4 w.heap.size V ls) := lw_low hlw (by omega)
    clear hke hlw HKE
    go_wp2_with fail
    go_ret2
    exact ⟨V, ls, f, rfl, HV.out, HL.out, H5B.out⟩
   ·have dk : decide (0 ≤ (k : Int)) = true := decide_eq_true (by omega)
    have HV : Hid (RegIs t c me [] 21) := ⟨bk, 0, HLI.out, .inr (.inr (.inl ⟨rfl, h1, hfirst.some, rfl, rfl⟩))⟩
    clear hfirst
    go_wp2_with fail
    go_ret2
    exact ⟨_, [], 21, rfl, HV.out, cell.Lw.zero _ _, H4B.out⟩
  ·rw [decide_eq_false h1] at HIN
   have HV : Hid (RegIs t c me [] 2) := ⟨bk, 0, HLI.out, .inr (.inl ⟨rfl, h1, rfl, rfl⟩)⟩
   clear h1
   go_wp2_with fail
   refine (HIN.out _).mono ?_
   rintro e wz ⟨rfl, hwz⟩
   subst wz
   go_wp2_with fail
   go_ret2
   exact ⟨_, [], 2, rfl, HV.out, cell.Lw.zero _ _, H3B.out⟩
 ·have d0 : (g != 0) = true := by simpa using h0
  have HV : Hid (RegIs t c me [] g) := ⟨bk, g, HLI.out, .inl ⟨h0, rfl, rfl⟩⟩
  clear h0
  go_wp2_with fail
  go_ret2
  exact ⟨_, [], g, rfl, HV.out, cell.Lw.zero _ _, H3B.out⟩
end vnd
namespace disk
open Go.RowKit cell
set_option maxRecDepth 100000
def ReadsF (w : World) (base : Nat) (a : Option Addr) (n : Nat) (zs : List (List Int)) : Prop :=
 zs.length = n ∧ (n = 0 ∨ ∃ b off, a = some ⟨b, off, none⟩ ∧ base ≤ b ∧ b < w.heap.size ∧ ∀ i, i < n → ∃ s : Sli, w.cell? ⟨b, off + i, none⟩ = some s.v ∧ RowU w s.a s.n (zs.getD i []) ∧ (s.n ≤ 100000 ∧ s.n ≤ s.c ∧ (s.a = none → s.c = 0)) ∧ ∀ x, s.a = some x → base ≤ x.block)
def RepNew (w : World) (c : List Int) (e : Ending) (w' : World) : Prop :=
 ∃ a n cap out x f, e = .returned (.tuple #[.slice a n cap, .int .i64 x, .int .i64 f]) ∧ ReadsF w' w.heap.size a n out ∧ n ≤ 100000 ∧ RepIs c out x f ∧ Below w.heap.size w w'
def AppGot (w : World) (c r : List Int) (e : Ending) (w' : World) : Prop :=
 ∃ a n cap ls f, e = .returned (.tuple #[.slice a n cap, .int .i64 f]) ∧ RowW w' a n ls ∧ (∀ x, a = some x → w.heap.size ≤ x.block) ∧ n ≤ cap ∧ n ≤ 100000 ∧ AppIs c r ls f ∧ Below w.heap.size w w'
end disk
namespace vnd
open disk (RepIs AppIs RepPost AppPost Lr Recs Sli sl0)
open book (Ev ev0 EMay evL evOf EncIs DecIs Cm cm0 So so0 BookIs BookPost Sees ECame RowE FirstAt NoneAt Tells EncPost DecPost)
open acc (Ac Tm Bi SellIs GrantIs RekeyIs OweIs)
open cell (Wr RowU RowW Lw Ws)
open Go.RowKit
set_option maxRecDepth 100000
theorem keep_few {c : List Int} {v : Ev} {ls : List Wr} {f : Int} (h : KeepIs c v ls f) : ls.length ≤ 66 := by
 obtain ⟨l, e, _, ⟨_, rfl, _⟩ | ⟨_, ws, g, _, ⟨_, rfl, _⟩ | ⟨_, q⟩⟩⟩ := h
 ·simp
 ·simp
 ·exact disk.app_few q
theorem reg_few {t : Tm} {c : List Int} {me : Int} {ls : List Wr} {f : Int} (h : RegIs t c me ls f) : ls.length ≤ 66 := by
 obtain ⟨bk, g, _, ⟨_, rfl, _⟩ | ⟨_, _, rfl, _⟩ | ⟨_, _, _, rfl, _⟩ | ⟨_, _, _, q⟩⟩ := h
 ·simp
 ·simp
 ·simp
 ·exact keep_few q
theorem wr_got {w w' : World} {R : List Wr → Int → Prop} {e : Ending} (h : WrPost w R e w') (hf : ∀ ls f, R ls f → ls.length ≤ 66) : WrGot w R e w' := by
 obtain ⟨V, ls, f, rfl, hr, hl, hb⟩ := h
 have hlt := World.ownsRow.lt hl
 have q := hf _ _ hr
 obtain ⟨a, cap, rfl, hrow, _, hle, _⟩ := hl.row
 exact ⟨a, _, cap, ls, f, rfl, hr, hrow, fun x hx => (hlt x.block (by rw [hx]; rfl)).1, hle, by omega, hb⟩
end vnd
namespace cell
open Go.RowKit
set_option maxRecDepth 100000
def GaveU (w : World) (zs : List Int) (e : Ending) (w' : World) : Prop := ∃ v, e = .returned v ∧ Ws w' w.heap.size v zs ∧ Below w.heap.size w w'
theorem GaveU.mk {w w' : World} {zs : List Int} {v : Value} (h1 : Ws w' w.heap.size v zs) (h2 : Below w.heap.size w w') : GaveU w zs (.returned v) w' := ⟨v, rfl, h1, h2⟩
set_option maxHeartbeats 400000 in
theorem words_any (a : Option Addr) (len cap : Nat) (zs : List Int) (w : World) (hr : RowU w a len zs) (hn : a = none → cap = 0) (hl : len * 4 ≤ 140737488351232) :
  Calls Tryz.prog 6 #[.slice a len cap] w fun e w' => GaveU w zs e w' := by
 obtain ⟨i0, hi, hz0, hz1, hz2⟩ := info_parts info_u32
 obtain ⟨hz, hr⟩ := hr
 cases a with
 | none =>
  have hc := hn rfl
  have h0 : len = 0 := by rcases hr with h | ⟨b, off, h, _⟩; exact h; cases h
  subst hc h0
  obtain rfl : zs = [] := List.eq_nil_of_length_eq_zero hz
  have happ : ∀ w : World, (Builtin.append_ #[25, 25] 25 #[.slice none 0 0, .slice none 0 0]).run Tryz.prog w = .ok (.slice none 0 0) w := fun w => by kernel_rfl
  go_enter Tryz.func6, Tryz.ntmps6
  go_wp2
  go_ret
  exact GaveU.mk (Ws.zero _ _) (Below.refl _ _)
 | some x =>
  go_enter Tryz.func6, Tryz.ntmps6
  go_wp2_with (first
   | (at_builtin; refine wpList_append_own _ rfl _ _ 25 rfl w.heap.size 64 i0 (.int .u32 0) 1 4 Tryz.underlying25 hi hz0 hz1 hz2 rfl (by decide) _ _ _ rfl (World.ownsRow_nil _ _ _ _) x len cap (zs.map (.int .u32)) rfl ?c0 ?c1 ?c2 ?c3 ?c4 ?c5 ?_)
   | go_in)
  case c0 => simp [hz]
  case c5 => exact Nat.le_refl _
  case c1 =>
   intro j u hu
   rcases hr with h | ⟨b, off, h, hc⟩
   ·rw [List.getElem?_eq_none (by simp; omega)] at hu; cases hu
   ·obtain rfl := Option.some.inj h
    by_cases hj : j < zs.length
    ·simp [List.getElem?_eq_getElem hj] at hu
     subst hu
     have := hc j (by omega)
     simpa [Addr.add_lit, List.getD, List.getElem?_eq_getElem hj] using this
    ·rw [List.getElem?_eq_none (by simp; omega)] at hu; cases hu
  case c2 => intro u hu; obtain ⟨z, _, rfl⟩ := List.mem_map.1 hu; rfl
  case c3 => unfold maxLen; omega
  case c4 => omega
  intro v' w' hown hg _
  have HW : Hid (Ws w' w.heap.size v' zs) := by show w'.ownsRow _ _ _ _ _ _; rw [hz]; simpa using hown
  have HG : Hid (Below w.heap.size w w') := (Below.refl _ _).grown hg (Nat.le_refl _) (fun k hk => by simp [Value.ownBlock] at hk)
  clear hown hg
  go_wp2
  go_ret
  exact GaveU.mk HW.out HG.out
set_option maxHeartbeats 1000000 in
theorem words_law (a b : Option Addr) (n c1 c2 : Nat) (zs : List Int) (w : World) (h1 : RowU w a n zs) (h2 : RowU w b n zs) (hn : n ≤ maxLen) :
  Calls Tryz.prog 11 #[.slice a n c1, .slice b n c2] w fun e w' => e = .returned (.bool true) ∧ Below w.heap.size w w' := by
 have hne : ((n : Int) != (n : Int)) = false := by simp
 unfold maxLen at hn
 go_enter Tryz.func11, Tryz.ntmps11
 go_wp2_with fail
 go_loopw [5] (fun i wr => ∃ k : Nat, k ≤ n ∧ i = .int .i64 k ∧ Below w.heap.size w wr) (fun i _ => n - (intOf i).toNat)
 case atStart => exact ⟨0, Nat.zero_le _, rfl, Below.refl _ _⟩
 case round =>
  obtain ⟨k, hk, rfl, hb⟩ := hrel
  by_cases hlt : k < n
  ·obtain ⟨b1, o1, rfl, l1, hc1⟩ := h1.at (by omega)
   obtain ⟨b2, o2, rfl, l2, hc2⟩ := h2.at (by omega)
   have f1 : wr.cell? ⟨b1, o1 + k, none⟩ = some (.int .u32 (zs.getD k 0)) := (hb.cell (p := ⟨b1, o1 + k, none⟩) l1).trans (hc1 k hlt)
   have f2 : wr.cell? ⟨b2, o2 + k, none⟩ = some (.int .u32 (zs.getD k 0)) := (hb.cell (p := ⟨b2, o2 + k, none⟩) l2).trans (hc2 k hlt)
   clear hc1 hc2 h1 h2 l1 l2
   generalize zs.getD k 0 = z at f1 f2
   have hz : (z != z) = false := by simp
   go_wp2_with fail
   go_region
   all_goals go_wp2_with fail
   go_roundw
   case rel => exact ⟨k + 1, by omega, by go_num, hb.drew⟩
   case measure => simp [intOf]; omega
  ·go_wp2_with fail
   go_ret
   exact ⟨rfl, hb⟩
theorem eqI (d : Nat) (a b : Int) (w : World) : (Op.equalIn (d + 1) 3 (.int .i64 a) (.int .i64 b)).run Tryz.prog w = .ok (a == b) w := run_equalIn_int w d _ _ _ a b Tryz.underlying3
theorem eqU (d : Nat) (a b : Int) (w : World) : (Op.equalIn (d + 1) 64 (.int .u32 a) (.int .u32 b)).run Tryz.prog w = .ok (a == b) w := run_equalIn_int w d _ _ _ a b Tryz.underlying64
theorem wt0 (s c : Int) (w : World) : (part 3 #[.int .i64 s, .int .u32 c] 0).run Tryz.prog w = .ok (.int .i64 s) w := by kernel_rfl
theorem wt1 (s c : Int) (w : World) : (part 64 #[.int .i64 s, .int .u32 c] 1).run Tryz.prog w = .ok (.int .u32 c) w := by kernel_rfl
theorem eqW (s t b c : Int) (w : World) :
  (Op.equalIn 10000 76 (.agg #[.int .i64 s, .int .u32 b]) (.agg #[.int .i64 t, .int .u32 c])).run Tryz.prog w = .ok (s == t && b == c) w := by
 rw [show (10000 : Nat) = 9999 + 1 from rfl, run_equalIn_agg w 9999 76 _ _ (by kernel_rfl) (by kernel_rfl)]
 simp only [Program.fieldsOf, Tryz.underlying76, Op.eqFields, Sem.run_bind, Sem.run_ite]
 by_cases h1 : (s == t) = true <;> by_cases h2 : (b == c) = true <;> simp [wt0, wt1, show (9999 : Nat) = 9998 + 1 from rfl, eqI, eqU, h1, h2]
set_option maxHeartbeats 1000000 in
theorem writes_law (a b : Option Addr) (n c1 c2 : Nat) (zs : List Wr) (w : World) (h1 : RowW w a n zs) (h2 : RowW w b n zs) (hn : n ≤ maxLen) :
  Calls Tryz.prog 14 #[.slice a n c1, .slice b n c2] w fun e w' => e = .returned (.bool true) ∧ Below w.heap.size w w' := by
 have hne : ((n : Int) != (n : Int)) = false := by simp
 unfold maxLen at hn
 go_enter Tryz.func14, Tryz.ntmps14
 go_wp2_with fail
 go_loopw [5] (fun i wr => ∃ k : Nat, k ≤ n ∧ i = .int .i64 k ∧ Below w.heap.size w wr) (fun i _ => n - (intOf i).toNat)
 case atStart => exact ⟨0, Nat.zero_le _, rfl, Below.refl _ _⟩
 case round =>
  obtain ⟨k, hk, rfl, hb⟩ := hrel
  by_cases hlt : k < n
  ·obtain ⟨b1, o1, rfl, l1, hc1⟩ := h1.at (by omega)
   obtain ⟨b2, o2, rfl, l2, hc2⟩ := h2.at (by omega)
   have f1 : wr.cell? ⟨b1, o1 + k * 2, none⟩ = some (.int .i64 (zs.getD k wr0).p) := (hb.cell (p := ⟨b1, o1 + k * 2, none⟩) l1).trans (hc1 k hlt).1
   have f2 : wr.cell? ⟨b1, o1 + k * 2 + 1, none⟩ = some (.int .u32 (zs.getD k wr0).d) := (hb.cell (p := ⟨b1, o1 + k * 2 + 1, none⟩) l1).trans (hc1 k hlt).2
   have f3 : wr.cell? ⟨b2, o2 + k * 2, none⟩ = some (.int .i64 (zs.getD k wr0).p) := (hb.cell (p := ⟨b2, o2 + k * 2, none⟩) l2).trans (hc2 k hlt).1
   have f4 : wr.cell? ⟨b2, o2 + k * 2 + 1, none⟩ = some (.int .u32 (zs.getD k wr0).d) := (hb.cell (p := ⟨b2, o2 + k * 2 + 1, none⟩) l2).trans (hc2 k hlt).2
   have hq : ∀ wz : World, (Op.equalIn 10000 76 (.agg #[.int .i64 (zs.getD k wr0).p, .int .u32 (zs.getD k wr0).d]) (.agg #[.int .i64 (zs.getD k wr0).p, .int .u32 (zs.getD k wr0).d])).run Tryz.prog wz = .ok true wz := fun wz => by rw [eqW]; simp
   have HB : Hid (Below w.heap.size w wr) := hb
   clear hc1 hc2 h1 h2 l1 l2 hb
   generalize (zs.getD k wr0).p = p at *
   generalize (zs.getD k wr0).d = d at *
   go_wp2_with fail
   go_region
   all_goals go_wp2_with fail
   go_roundw
   case rel => exact ⟨k + 1, by omega, by go_num, HB.out.drew⟩
   case measure => simp [intOf]; omega
  ·go_wp2_with fail
   go_ret
   exact ⟨rfl, hb⟩
end cell
namespace tar
open Go.RowKit
set_option maxRecDepth 100000
theorem stepT : PairT Tryz.prog 136 22 := ⟨by kernel_rfl, Tryz.underlying22⟩
set_option maxHeartbeats 400000 in
theorem steps_any (a : Option Addr) (len cap : Nat) (zs : List Du) (w : World) (h : Came w a len cap zs) :
  Calls Tryz.prog 18 #[.slice a len cap] w fun e w' => GaveD 136 w zs e w' := by
 obtain ⟨hr, hn, -, hl, -⟩ := h
 cases a with
 | none =>
  have hc := hn rfl
  have h0 : len = 0 := by rcases hr.2 with h | ⟨b, off, h, _⟩; exact h; cases h
  subst hc h0
  obtain rfl : zs = [] := List.eq_nil_of_length_eq_zero hr.1
  have happ : ∀ w : World, (Builtin.append_ #[22, 22] 22 #[.slice none 0 0, .slice none 0 0]).run Tryz.prog w = .ok (.slice none 0 0) w := fun w => by kernel_rfl
  go_enter Tryz.func18, Tryz.ntmps18
  go_wp2
  go_ret
  exact GaveD.mk (Ld.zero _ _ _) (Below.refl _ _)
 | some x =>
  go_enter Tryz.func18, Tryz.ntmps18
  go_wp2_with (first
   | (at_builtin; refine wp_pairs stepT rfl _ _ rfl w.heap.size x len cap zs rfl rfl hr hl (Nat.le_refl _) ?_)
   | go_in)
  intro v' w' hown hg
  have HW : Hid (Ld 136 w' w.heap.size v' zs) := hown
  have HG : Hid (Below w.heap.size w w') := (Below.refl _ _).grown hg (Nat.le_refl _) (fun k hk => by cases hk)
  clear hown hg
  go_wp2
  go_ret
  exact GaveD.mk HW.out HG.out
end tar
namespace acc
open tar (Du du0 Came RowD Ld PairT)
open Go.RowKit
set_option maxRecDepth 100000
set_option maxHeartbeats 4000000 in
theorem terms_any (x : Tm) (p : Option Addr) (len cap : Nat) (w : World) (h : TCame w x p len cap) : Calls Tryz.prog 8 #[x.v p len cap] w fun e w' => ∃ p' cap', e = .returned (x.v p' len cap') ∧ deb.Fresh w' w.heap.size p' len cap' x.ts ∧ Below w.heap.size w w' := by
 have hlen := h.ts.row.1
 have HCW : Hid (TCame w x p len cap) := h
 unfold Tm.v
 obtain ⟨W0, HWW, H0d, H0r, H0B, hs0⟩ := sh2 w #[.slice p len cap, .int .i64 x.ff, .int .i64 x.fb, .int .i64 x.db, .int .i64 x.al] 24 #[.slice none 0 0, .int .i64 0, .int .i64 0, .int .i64 0, .int .i64 0] 24
 have H0C : Hid (Came W0 p len cap x.ts) := h.ts.below H0B.out
 go_enter Tryz.func8, Tryz.ntmps8
 go_upto_region 1 with fail
 rw [HWW.out]
 clear HWW
 have HDB : Hid (Calls Tryz.prog 18 #[.slice p len cap] W0 fun e w' => tar.GaveD 136 W0 x.ts e w') := tar.steps_any p len cap x.ts W0 H0C.out
 clear h
 have qd0 : W0.cell? ⟨w.heap.size, 0, none⟩ = some (.slice p len cap) := H0d.out.cell 0
 go_wp2_with fail
 refine HDB.out.mono ?_
 rintro e w2 ⟨v2, rfl, hl2, hb2⟩
 have H1d := shN H0d hb2
 have H1r := shN H0r hb2
 have H1C : Hid (Came w2 p len cap x.ts) := H0C.out.below hb2
 have H1B := shB H0B hb2
 have hsw2 : W0.heap.size ≤ w2.heap.size := hb2.size
 clear hb2 H0d H0r H0C H0B
 have HNW := HCW.out.ts
 obtain ⟨p2, c2, hv2, hc2⟩ := hl2.came (by rw [hlen]; exact HNW.bytes) HNW.wf
 subst hv2
 have hn2 := deb.ld_new hl2
 rw [hlen] at hc2 hn2 ⊢
 have H2F : Hid (deb.Fresh w2 W0.heap.size p2 len c2 x.ts) := ⟨hc2, hn2⟩
 have HUPF : Hid (0 < len → ∀ y, p2 = some y → y.block < w2.heap.size) := came_lt H2F.out.came
 clear hl2 hc2 hn2 HNW HDB qd0
 go_wp2_with (first
  | (refine wp_letS rfl 22 _ _ rfl (w.heap.size) 0 rfl p2 len c2 rfl (by kernel_rfl) #[.slice p len cap, .int .i64 x.ff, .int .i64 x.fb, .int .i64 x.db, .int .i64 x.al] 24 H1d.out (by simp) ?_)
  | (refine zqw rfl rfl rfl H1d zqu24 ?_)
  | (refine zqw rfl rfl rfl H1r zqu24 ?_)
  | fail)
 intro W3 hU
 have H3d : Hid (Blk W3 (w.heap.size) #[.slice p2 len c2, .int .i64 x.ff, .int .i64 x.fb, .int .i64 x.db, .int .i64 x.al] 24) := hU.blk
 have H3r := shK hU H1r (by omega)
 have H3F : Hid (deb.Fresh W3 W0.heap.size p2 len c2 x.ts) := fresh_updN H2F.out hU (fun hn y hy => by have f1 := H2F.out.new hn y hy; have f2 := HUPF.out hn y hy; omega)
 have H3B := shV hU H1B (by omega)
 have hsW3 : W3.heap.size = w2.heap.size := hU.size
 clear hU H1d H1r H2F H1B
 go_wp2_with (first
  | (refine zql rfl rfl rfl rfl zqu24 (by simp [Value.oneCell']) H3r rfl ?_)
  | (refine zqw rfl rfl rfl H3d zqu24 ?_)
  | (refine zqw rfl rfl rfl H3r zqu24 ?_)
  | fail)
 intro W4 hU
 have H4d := shK hU H3d (by omega)
 have H4r : Hid (Blk W4 (w.heap.size + 1) #[.slice p2 len c2, .int .i64 x.ff, .int .i64 x.fb, .int .i64 x.db, .int .i64 x.al] 24) := hU.blk
 have H4F : Hid (deb.Fresh W4 W0.heap.size p2 len c2 x.ts) := fresh_updN H3F.out hU (fun hn y hy => by have f1 := H3F.out.new hn y hy; have f2 := HUPF.out hn y hy; omega)
 have H4B := shV hU H3B (by omega)
 have hsW4 : W4.heap.size = W3.heap.size := hU.size
 clear hU H3d H3r H3F H3B
 obtain ⟨R0, R1, R2, R3, R4⟩ := shc5 H4r
 go_wp2_with fail
 exact bodyPost_ret (v := .agg #[.slice p2 len c2, .int .i64 x.ff, .int .i64 x.fb, .int .i64 x.db, .int .i64 x.al]) (by simp [results, Tryz.results8, R0.out, R1.out, R2.out, R3.out, R4.out, go_sem]) rfl ⟨p2, c2, rfl, H4F.out.low (by omega), H4B.out⟩
end acc
namespace vnd
open disk (RepIs AppIs RepPost AppPost Lr Recs Sli sl0)
open book (Ev ev0 EMay evL evOf EncIs DecIs Cm cm0 So so0 BookIs BookPost Sees ECame RowE FirstAt NoneAt Tells EncPost DecPost)
open acc (Ac Tm Bi SellIs GrantIs RekeyIs OweIs)
open cell (Wr RowU RowW Lw Ws)
open token (Tok)
open Go.RowKit
set_option maxRecDepth 100000
set_option maxHeartbeats 8000000 in
theorem VendRegisters_walk (K : KvReg) (t : Tm) (pt : Option Addr) (lt ct : Nat) (a : Option Addr) (n cap : Nat) (c : List Int) (me : Int) (w : World) (ht : acc.TCame w t pt lt ct) (h : Dk w a n cap c) (hme : (Lit.int .i64 me).wf = true) : Calls Tryz.prog 4 #[t.v pt lt ct, .slice a n cap, .int .i64 me] w fun e w' => e = .returned (.bool true) ∧ Below w.heap.size w w' := by
 have HC : Hid (∀ W, Below w.heap.size w W → Dk W a n cap c) := fun W hW => h.below hW
 have HT : Hid (∀ W, Below w.heap.size w W → acc.TCame W t pt lt ct) := fun W hW => ht.below hW
 have HWF : Hid (acc.wf4 t) := ht.wf
 have HN : Hid (c.length = n) := h.row.1
 have HNM : Hid (n ≤ maxLen) := by show n ≤ maxLen; have := h.bytes; unfold maxLen; omega
 have HKK : Hid KvReg := K
 unfold acc.Tm.v
 clear h ht K
 obtain ⟨W0, HWW, H0t, H0B, hs0⟩ := sh1 w #[.slice pt lt ct, .int .i64 t.ff, .int .i64 t.fb, .int .i64 t.db, .int .i64 t.al] 24
 go_enter Tryz.func4, Tryz.ntmps4
 go_upto_region 1 with fail
 rw [HWW.out]
 clear HWW
 have HWD : Hid (Calls Tryz.prog 6 #[.slice a n cap] W0 fun e w' => cell.GaveU W0 c e w') := cell.words_any a n cap c W0 (HC.out _ H0B.out).row (HC.out _ H0B.out).nil (HC.out _ H0B.out).bytes
 go_wp2_with (first
  | (refine zqw rfl rfl rfl H0t zqu24 ?_)
  | (refine wp_wholeG (by rfl) 24 _ rfl (w.heap.size) rfl 24 #[.slice pt lt ct, .int .i64 t.ff, .int .i64 t.fb, .int .i64 t.db, .int .i64 t.al] _ H0t.out Tryz.underlying24 rfl (by kernel_rfl) ?_)
  | fail)
 refine HWD.out.mono ?_
 rintro e w1 ⟨v1, rfl, hws, hb1⟩
 have H1t := shN H0t hb1
 have H1B := shB H0B hb1
 have hsw1 : W0.heap.size ≤ w1.heap.size := hb1.size
 clear hb1 H0t H0B
 obtain ⟨a1, cap1, rfl, hd, hnn, hle⟩ := hws.row
 rw [HN.out] at hd hle ⊢
 have HD1 : Hid (Dk w1 a1 n cap1 c) := ⟨hd, hnn, hle, (HC.out _ H1B.out).bytes, (HC.out _ H1B.out).wd⟩
 clear hd hnn hle hws HWD
 have H2P : Hid (Below w1.heap.size w1 w1) := Below.refl _ _
 have HTE : Hid (Calls Tryz.prog 8 #[.agg #[.slice pt lt ct, .int .i64 t.ff, .int .i64 t.fb, .int .i64 t.db, .int .i64 t.al]] w1 fun e w' => ∃ p' cap', e = .returned (t.v p' lt cap') ∧ deb.Fresh w' w1.heap.size p' lt cap' t.ts ∧ Below w1.heap.size w1 w') := acc.terms_any t pt lt ct w1 (HT.out _ H1B.out)
 go_wp2_with (first
  | (refine zqw rfl rfl rfl H1t zqu24 ?_)
  | (refine wp_wholeG (by rfl) 24 _ rfl (w.heap.size) rfl 24 #[.slice pt lt ct, .int .i64 t.ff, .int .i64 t.fb, .int .i64 t.db, .int .i64 t.al] _ H1t.out Tryz.underlying24 rfl (by kernel_rfl) ?_)
  | fail)
 refine HTE.out.mono ?_
 rintro e w2 ⟨p2, c2, rfl, hf2, hb2⟩
 have H3t := shN H1t hb2
 have H3P := shB H2P hb2
 have H3B := shB H1B hb2
 have hsw2 : w1.heap.size ≤ w2.heap.size := hb2.size
 clear hb2 H1t H2P H1B
 unfold acc.Tm.v
 have HKL : Hid (Calls Tryz.prog 12 #[.agg #[.slice p2 lt c2, .int .i64 t.ff, .int .i64 t.fb, .int .i64 t.db, .int .i64 t.al], .slice a1 n cap1, .int .i64 me] w2 fun e w' => WrGot w2 (RegIs t c me) e w') := HKK.out w2 t p2 lt c2 a1 n cap1 c me ⟨hf2.came, HWF.out⟩ (HD1.out.below H3P.out) hme
 clear hf2 HTE HKK hme
 go_wp2_with (first
  | (refine zqw rfl rfl rfl H3t zqu24 ?_)
  | (refine wp_wholeG (by rfl) 24 _ rfl (w.heap.size) rfl 24 #[.slice pt lt ct, .int .i64 t.ff, .int .i64 t.fb, .int .i64 t.db, .int .i64 t.al] _ H3t.out Tryz.underlying24 rfl (by kernel_rfl) ?_)
  | fail)
 refine HKL.out.mono ?_
 rintro e w3 ⟨p3, m3, c3, ls, f, rfl, hri, hrw, _, hle3, hm3, hb3⟩
 have H4t := shN H3t hb3
 have H4P := shB H3P hb3
 have H4B := shB H3B hb3
 have hsw3 : w2.heap.size ≤ w3.heap.size := hb3.size
 clear hb3 H3t H3P H3B
 have HRI : Hid (RegIs t c me ls f) := hri
 have HRW : Hid (RowW w3 p3 m3 ls) := hrw
 clear hri hrw HKL
 have H5S : Hid (Below w3.heap.size w3 w3) := Below.refl _ _
 have HRL : Hid (Calls Tryz.prog 13 #[.agg #[.slice pt lt ct, .int .i64 t.ff, .int .i64 t.fb, .int .i64 t.db, .int .i64 t.al], .slice a n cap, .int .i64 me] w3 fun e w' => WrGot w3 (RegIs t c me) e w') := (rregister t pt lt ct a n cap c me w3 (HT.out _ H4B.out).ts (HC.out _ H4B.out).row (HC.out _ H4B.out).wd).mono fun e w' hh => wr_got hh fun ls f => reg_few
 go_wp2_with (first
  | (refine zqw rfl rfl rfl H4t zqu24 ?_)
  | (refine wp_wholeG (by rfl) 24 _ rfl (w.heap.size) rfl 24 #[.slice pt lt ct, .int .i64 t.ff, .int .i64 t.fb, .int .i64 t.db, .int .i64 t.al] _ H4t.out Tryz.underlying24 rfl (by kernel_rfl) ?_)
  | fail)
 refine HRL.out.mono ?_
 rintro e w5 ⟨p5, m5, c5, ls2, f2, rfl, hri, hrw, _, hle5, hm5, hb5⟩
 have H6t := shN H4t hb5
 have H6P := shB H4P hb5
 have H6S := shB H5S hb5
 have H6B := shB H4B hb5
 have hsw5 : w3.heap.size ≤ w5.heap.size := hb5.size
 clear hb5 H4t H4P H5S H4B
 obtain ⟨hls, hff⟩ := HRI.out.one hri
 subst hls hff
 have hmm : m3 = m5 := HRW.out.1.symm.trans hrw.1
 subst hmm
 have HSB : Hid (Calls Tryz.prog 14 #[.slice p3 m3 c3, .slice p5 m3 c5] w5 fun e w' => e = .returned (.bool true) ∧ Below w5.heap.size w5 w') := cell.writes_law p3 p5 m3 c3 c5 ls w5 (HRW.out.below H6S.out) hrw (by unfold maxLen; omega)
 have ef : (f == f) = true := by simp
 clear hri hrw HRL
 go_wp2_with (first
  | (refine zqw rfl rfl rfl H6t zqu24 ?_)
  | (refine wp_wholeG (by rfl) 24 _ rfl (w.heap.size) rfl 24 #[.slice pt lt ct, .int .i64 t.ff, .int .i64 t.fb, .int .i64 t.db, .int .i64 t.al] _ H6t.out Tryz.underlying24 rfl (by kernel_rfl) ?_)
  | fail)
 refine HSB.out.mono ?_
 rintro e w7 ⟨rfl, hb7⟩
 have H7t := shN H6t hb7
 have H7P := shB H6P hb7
 have H7S := shB H6S hb7
 have H7B := shB H6B hb7
 have hsw7 : w5.heap.size ≤ w7.heap.size := hb7.size
 clear hb7 H6t H6P H6S H6B
 clear HSB
 have HSW : Hid (Calls Tryz.prog 11 #[.slice a n cap, .slice a1 n cap1] w7 fun e w' => e = .returned (.bool true) ∧ Below w7.heap.size w7 w') := cell.words_law a a1 n cap cap1 c w7 (HC.out _ H7B.out).row (HD1.out.below H7P.out).row HNM.out
 go_wp2_with (first
  | (refine zqw rfl rfl rfl H7t zqu24 ?_)
  | (refine wp_wholeG (by rfl) 24 _ rfl (w.heap.size) rfl 24 #[.slice pt lt ct, .int .i64 t.ff, .int .i64 t.fb, .int .i64 t.db, .int .i64 t.al] _ H7t.out Tryz.underlying24 rfl (by kernel_rfl) ?_)
  | fail)
 refine HSW.out.mono ?_
 rintro e w8 ⟨rfl, hb8⟩
 have H8t := shN H7t hb8
 have H8P := shB H7P hb8
 have H8S := shB H7S hb8
 have H8B := shB H7B hb8
 have hsw8 : w7.heap.size ≤ w8.heap.size := hb8.size
 clear hb8 H7t H7P H7S H7B
 go_wp2_with fail
 go_ret
 exact ⟨rfl, H8B.out⟩
end vnd
namespace disk
open Go.RowKit cell
set_option maxRecDepth 100000
set_option maxHeartbeats 400000 in
theorem clone_any (x : Addr) (len cap : Nat) (zs : List Int) (w : World) (hr : RowU w (some x) len zs) (hl : len ≤ 100000) :
  Calls Tryz.prog 72 #[.slice (some x) len cap] w fun e w' => GaveU w zs e w' := by
 obtain ⟨i0, hi, hz0, hz1, hz2⟩ := info_parts info_u32
 obtain ⟨hz, hr⟩ := hr
 have hown : (w.alloc (.cells #[] 64)).ownsRow w.heap.size 64 1 (.slice (some ⟨w.heap.size, 0, none⟩) 0 0) 0 [] := World.ownsRow_lit w #[] 0 (Nat.le_refl _) (by unfold maxLen; omega) rfl
 have HO : Hid ((w.alloc (.cells #[] 64)).ownsRow w.heap.size 64 1 (.slice (some ⟨w.heap.size, 0, none⟩) 0 0) 0 []) := hown
 have HSZ : Hid (w.heap.size ≤ (w.alloc (.cells #[] 64)).heap.size) := alloc_le (Nat.le_refl _) _
 clear hown
 have heq : ∀ W : World, (binOp BinOp.eql 25 (.slice (some x) len cap) (.slice none 0 0)).run Tryz.prog W = .ok (.bool false) W := fun W => by kernel_rfl
 go_enter Tryz.func72, Tryz.ntmps72
 go_wp2_with (first
  | (at_builtin; refine wpList_append_own _ rfl _ _ 25 rfl w.heap.size 64 i0 (.int .u32 0) 1 4 Tryz.underlying25 hi hz0 hz1 hz2 rfl (by decide) _ _ _ rfl HO.out x len cap (zs.map (.int .u32)) rfl ?c0 ?c1 ?c2 ?c3 ?c4 HSZ.out ?_)
  | go_in)
 case c0 => simp [hz]
 case c1 =>
  intro j u hu
  rcases hr with h | ⟨b, off, h, hc⟩
  ·rw [List.getElem?_eq_none (by simp; omega)] at hu; cases hu
  ·obtain rfl := Option.some.inj h
   by_cases hj : j < zs.length
   ·simp [List.getElem?_eq_getElem hj] at hu
    subst hu
    have := hc j (by omega)
    rw [Addr.add_lit, World.cell?_alloc_lt w _ _ (World.block_lt_of_cell? w _ this)]
    simpa [List.getD, List.getElem?_eq_getElem hj] using this
   ·rw [List.getElem?_eq_none (by simp; omega)] at hu; cases hu
 case c2 => intro u hu; obtain ⟨z, _, rfl⟩ := List.mem_map.1 hu; rfl
 case c3 => unfold maxLen; omega
 case c4 => omega
 intro v' w' hown hg _
 have HW : Hid (Ws w' w.heap.size v' zs) := by show w'.ownsRow _ _ _ _ _ _; rw [hz]; simpa using hown
 have HG : Hid (Below w.heap.size w w') := own_bel HO.out hg ((Below.refl _ _).alloc (Nat.le_refl _) _) (Nat.le_refl _) HSZ.out
 clear hown hg
 go_wp2
 go_ret
 exact GaveU.mk HW.out HG.out
theorem step_sli {P : Program} {T S : TypeId} (hP : SliT P T S) {w : World} {ops : Array Oper} {o : Oper} {a : Act} {K : Act → World → Prop} {Q : Exit → Act → World → Prop} {E : Prop} (hgd : o.guard = none) (s x : Operand)
  (ho : o.op = .call { callee := .builtin .append, args := #[s, x], argTypes := #[S, S] })
  (base G : Nat) (v : Value) (l : List Sli) (r : Sli) (hs : a.eval s = v) (hx : a.eval x = .slice (some ⟨G, 0, none⟩) 1 1) (hv : Lr T w base v l) (hu : w.cell? ⟨G, 0, none⟩ = some r.v) (hn : l.length ≤ 1000000) (hbase : base ≤ w.heap.size)
  (h : ∀ v' w', Lr T w' base v' (l ++ [r]) → w.grownBy w' v.ownBlock → (v'.ownBlock = v.ownBlock ∨ v'.ownBlock = some w.heap.size) → K (a.put o.dst v') w') : if Region.wanted o (yielded ops a.tmps) = true then Oper.wp P o a w K Q else E := by
 have hw : Region.wanted o (yielded ops a.tmps) = true := by simp [Region.wanted, hgd]
 rw [if_pos hw]
 obtain ⟨i0, hi, hz0, hz1, hz2⟩ := info_parts hP.info
 obtain ⟨v', w', hr, h2, h3, _, h4⟩ := run_append_own_at (P := P) w base S o.type T i0 (sl0.v) 1 24 hP.under hi hz0 hz1 hz2 rfl (by decide) v l.length (cellsR l) hv ⟨G, 0, none⟩ 1 1 (cellsR [r]) rfl (by
  intro j u hj
  match j, hj with
  | 0, hj => simp [cellsR] at hj; subst hj; simpa [Addr.add] using hu
  | j + 1, hj => simp [cellsR] at hj) (oneR [r]) (by unfold maxLen; omega) (by omega) hbase
 unfold Oper.wp execOp
 simp only [ho, resolve, invoke, builtin, Sem.run_bind, Sem.run_pure, Result.andThen_ok, List.map_toArray, List.map_cons, List.map_nil, hs, hx, hr]
 refine h v' w' ?_ h3 h4
 unfold Lr
 rw [List.length_append]
 unfold cellsR at *
 rw [List.map_append]
 exact h2
theorem wp_letOne {P : Program} {o : Oper} {a : Act} {w : World} {K : Act → World → Prop} {Q : Exit → Act → World → Prop} (ty : TypeId) (x y : Operand) (ho : o.op = .store ty x y)
  (g : Nat) (hx : a.eval x = .pointer (some ⟨g, 0, none⟩)) (v : Value) (hy : a.eval y = v) (hv : v.cells = #[v]) (hi : (P.info? ty).map (·.size) = some 1) (h1 : v.oneCell' = true)
  (u : Value) (t : TypeId) (hB : Blk w g #[u] t) (hd : o.dst = none)
  (h : ∀ W, Upd w W g #[v] t → K a W) : o.wp P a w K Q := by
 have hs := run_storeVar_let (P := P) (w := w) (g := g) (off := 0) (ty := ty) (t := t) (v := v) (cells := #[v]) (cs := #[u]) hv (by simpa using hi) (by simpa using h1) hB (by simp)
 have hu := upd_cells g t [v] 0 w #[u] hB
 unfold Oper.wp execOp
 simp only [ho, hx, hy, Instr.storeAt, Instr.sureAddr, Sem.run_bind, Sem.run_pure, Result.andThen_ok, hs]
 have := h _ hu
 have e : a.put o.dst undef = a := by rw [hd]; rfl
 rw [← e] at this
 exact this
structure Box (w : World) (L : Nat) (V : Value) (sl : List Sli) (zs : List (List Int)) (W : World) : Prop where
 blk : Blk W L #[V] 79
 row : Lr 25 W (L + 1) V sl
 recs : Recs W V.ownBlock sl zs
 new : ∀ i, i < sl.length → ((sl.getD i sl0).n ≤ 100000 ∧ (sl.getD i sl0).n ≤ (sl.getD i sl0).c ∧ ((sl.getD i sl0).a = none → (sl.getD i sl0).c = 0)) ∧ ∀ x, (sl.getD i sl0).a = some x → L + 1 ≤ x.block
 bel : Below L w W
theorem Box.next {w : World} {L : Nat} {V : Value} {sl : List Sli} {zs : List (List Int)} {W W' : World} (h : Box w L V sl zs W) (hb : Below W.heap.size W W') : Box w L V sl zs W' :=
 ⟨h.blk.next hb, h.row.next hb, h.recs.below hb, h.new, h.bel.trans (hb.mono (Nat.le_of_lt h.blk.lt))⟩
theorem Box.far {w : World} {L : Nat} {V : Value} {sl : List Sli} {zs : List (List Int)} {W : World} (h : Box w L V sl zs W) : some L ≠ V.ownBlock := own_far h.row (Nat.lt_succ_self _)
theorem Box.kept {w : World} {L : Nat} {V : Value} {sl : List Sli} {zs : List (List Int)} {W W' : World} (h : Box w L V sl zs W) (hg : W.grownBy W' V.ownBlock) : Blk W' L #[V] 79 := by
 have h1 : W.heap[L]? = _ := h.blk
 show W'.heap[L]? = _
 rw [hg.block L h.blk.lt h.far]
 exact h1
theorem lr_upd {T t : TypeId} {w W : World} {L : Nat} {cs : Array Value} {v : Value} {l : List Sli} (h : Lr T w (L + 1) v l) (hU : Upd w W L cs t) : Lr T W (L + 1) v l := by
 refine ⟨h.1, ?_⟩
 rcases h.2 with hn | ⟨g, cap, cur, hv, hg, hc, rest⟩
 ·exact .inl hn
 ·exact .inr ⟨g, cap, cur, hv, hg, hU.keep hc (by omega), rest⟩
theorem snoc_at (sl : List Sli) (r : Sli) (i : Nat) (hi : i < (sl ++ [r]).length) : (i < sl.length ∧ (sl ++ [r]).getD i sl0 = sl.getD i sl0) ∨ (i = sl.length ∧ (sl ++ [r]).getD i sl0 = r) := by
 by_cases h1 : i < sl.length
 ·exact .inl ⟨h1, by simp [List.getD, List.getElem?_append_left h1]⟩
 ·have hi' : i = sl.length := by simp at hi; omega
  exact .inr ⟨hi', by rw [hi']; simp [List.getD]⟩
theorem box_step {w U W3 W4 : World} {L : Nat} {V v : Value} {sl : List Sli} {r : Sli} {zs : List (List Int)} {R : List Int} (hB : Box w L V sl zs U) {g off : Nat} (ha : r.a = some ⟨g, off, none⟩) (hg : g < U.heap.size) (hne : some g ≠ V.ownBlock) (hL : L + 1 ≤ g) (hrow : RowU U r.a r.n R) (hn : r.n ≤ 100000 ∧ r.n ≤ r.c ∧ (r.a = none → r.c = 0))
  (h3 : Lr 25 W3 (L + 1) v (sl ++ [r])) (hgr : U.grownBy W3 V.ownBlock) (ho : v.ownBlock = V.ownBlock ∨ v.ownBlock = some U.heap.size) (hU : Upd W3 W4 L #[v] 79) : Box w L v (sl ++ [r]) (zs ++ [R]) W4 := by
 have hnew : ∀ i, i < (sl ++ [r]).length → (((sl ++ [r]).getD i sl0).n ≤ 100000 ∧ ((sl ++ [r]).getD i sl0).n ≤ ((sl ++ [r]).getD i sl0).c ∧ (((sl ++ [r]).getD i sl0).a = none → ((sl ++ [r]).getD i sl0).c = 0)) ∧ ∀ x, ((sl ++ [r]).getD i sl0).a = some x → L + 1 ≤ x.block := fun i hi => by
  rcases snoc_at sl r i hi with ⟨h1, e⟩ | ⟨_, e⟩
  ·rw [e]; exact hB.new i h1
  ·rw [e]; refine ⟨hn, fun x hx => ?_⟩
   rw [ha] at hx
   cases hx
   exact hL
 have hrc : Recs W3 v.ownBlock (sl ++ [r]) (zs ++ [R]) := (hB.recs.snoc (s := r) (z := R) ⟨⟨g, off, ha, hg, hne⟩, hrow⟩).grown hgr ho
 refine ⟨hU.blk, lr_upd h3 hU, ⟨hrc.1, fun i hi => ?_⟩, hnew, ?_⟩
 ·obtain ⟨⟨b, o, e1, e2, e3⟩, e4⟩ := hrc.2 i hi
  have hLb := (hnew i hi).2 _ e1
  refine ⟨⟨b, o, e1, by rw [hU.size]; exact e2, e3⟩, e4.1, ?_⟩
  rcases e4.2 with h0 | ⟨b', o', e5, hc⟩
  ·exact .inl h0
  ·rw [e1] at e5
   cases e5
   exact .inr ⟨b, o, e1, fun j hj => (hU.cell ⟨b, o + j, none⟩ (by show b ≠ L; simp only at hLb; omega) rfl).trans (hc j hj)⟩
 ·refine hU.bel _ _ (Nat.le_refl _) ?_
  exact own_bel hB.row hgr hB.bel (Nat.le_succ _) (Nat.le_of_lt hB.blk.lt)
theorem Box.reads {w : World} {L : Nat} {V : Value} {sl : List Sli} {zs : List (List Int)} {W : World} (h : Box w L V sl zs W) : ∃ a cap, V = .slice a zs.length cap ∧ ReadsF W L a zs.length zs := by
 obtain ⟨a, cap, hv⟩ := h.row.len
 have hl := h.recs.1
 refine ⟨a, cap, by rw [← hl]; exact hv, rfl, ?_⟩
 by_cases h0 : zs.length = 0
 ·exact .inl h0
 ·obtain ⟨g, cap2, hv2, hge, lg, _, hc⟩ := h.row.row (by rw [hl]; omega)
  rw [hv] at hv2
  injection hv2 with ea _ _
  refine .inr ⟨g, 0, ea, by omega, lg, fun i hi => ?_⟩
  have hi' : i < sl.length := by rw [hl]; exact hi
  refine ⟨sl.getD i sl0, by rw [Nat.zero_add]; exact hc i hi', (h.recs.2 i hi').2, (h.new i hi').1, fun x hx => ?_⟩
  have := (h.new i hi').2 x hx
  omega
end disk
end Go.Proofs.YtomibnggmhjdfaaGreat
