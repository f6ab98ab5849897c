import Derived.Test.YtomibnggmhjdfaaGreatVVRrs8
set_option linter.unusedVariables false
set_option linter.unusedSimpArgs false
namespace Go.Proofs.YtomibnggmhjdfaaGreat
namespace vnd
open disk (RepIs AppIs RepPost Lr Recs Sli sl0)
open book (Ev ev0 EMay evL evOf EncIs DecIs Cm cm0 So so0 BookIs BookPost Sees ECame RowE FirstAt NoneAt Tells DecPost)
open acc (Ac Tm Bi SellIs GrantIs RekeyIs OweIs)
open cell (Wr RowU)
open token (Tok)
open Go.RowKit
set_option maxRecDepth 100000
theorem cell_one {w : World} {g o : Nat} {v u : Value} {T : TypeId} (hB : Blk w g #[v] T) (h : w.cell? ⟨g, o, none⟩ = some u) : o = 0 := by
 rw [hB.cell o] at h
 match o, h with
 | 0, _ => rfl
 | o + 1, h => simp at h
theorem rowC_one {w W : World} {g : Nat} {v v' : Value} {T T' : TypeId} {p : Option Addr} {n : Nat} {xs : List book.Cu} (h : book.RowC w p n xs) (hB : Blk w g #[v] T) (hU : Upd w W g #[v'] T') : book.RowC W p n xs := by
 refine ⟨h.1, ?_⟩
 rcases h.2 with h0 | ⟨b, off, rfl, lb, hc⟩
 ·exact .inl h0
 ·rcases Nat.eq_zero_or_pos n with h0 | h0
  ·exact .inl h0
  ·have hne : b ≠ g := fun e => by
    subst e
    have h1 := hc 0 0 h0 (by decide)
    have h2 := hc 0 1 h0 (by decide)
    have e1 := cell_one hB (u := .int .i64 (xs.getD 0 book.cu0).me) (by rw [h1]; rfl)
    have e2 := cell_one hB (u := .int .i64 (xs.getD 0 book.cu0).rv) (by rw [h2]; rfl)
    omega
   exact .inr ⟨b, off, rfl, by rw [hU.size]; exact lb, fun i j hi hj => by rw [hU.cell _ hne rfl]; exact hc i j hi hj⟩
theorem rowS_one {w W : World} {g : Nat} {v v' : Value} {T T' : TypeId} {p : Option Addr} {n : Nat} {l : List So} (h : book.RowS w p n l) (hB : Blk w g #[v] T) (hU : Upd w W g #[v'] T') : book.RowS W p n l := by
 refine ⟨h.1, ?_⟩
 rcases h.2 with h0 | ⟨b, off, rfl, lb, hc⟩
 ·exact .inl h0
 ·rcases Nat.eq_zero_or_pos n with h0 | h0
  ·exact .inl h0
  ·have hne : b ≠ g := fun e => by
    subst e
    have h1 := hc 0 0 h0 (by decide)
    have h2 := hc 0 1 h0 (by decide)
    have e1 := cell_one hB (u := .int .i64 (l.getD 0 so0).id) (by rw [h1]; rfl)
    have e2 := cell_one hB (u := .int .i64 (l.getD 0 so0).cl) (by rw [h2]; rfl)
    omega
   exact .inr ⟨b, off, rfl, by rw [hU.size]; exact lb, fun i j hi hj => by rw [hU.cell _ hne rfl]; exact hc i j hi hj⟩
theorem came_one {w W : World} {g : Nat} {v v' : Value} {T T' : TypeId} {p : Option Addr} {n cap : Nat} {l : List tar.Du} (h : tar.Came w p n cap l) (hB : Blk w g #[v] T) (hU : Upd w W g #[v'] T') : tar.Came W p n cap l :=
 acc.came_upd h hU fun hn x hx e => by
  obtain ⟨b, off, hp, lb, hc⟩ := h.row.at hn
  rw [hp] at hx
  cases hx
  have e2 : b = g := e
  subst e2
  have e1 := cell_one hB (hc 0 hn).1
  have e2 := cell_one hB (hc 0 hn).2
  omega
theorem sees_one {w W : World} {g : Nat} {v v' : Value} {T T' : TypeId} {p : Option Addr} {n : Nat} {xs : List book.Cu} {bk : List Cm} (h : Sees w p n xs bk) (hB : Blk w g #[v] T) (hU : Upd w W g #[v'] T') : Sees W p n xs bk :=
 ⟨rowC_one h.row hB hU, h.len, h.num, fun i hi => came_one (h.ds i hi) hB hU, fun i hi => rowS_one (h.so i hi) hB hU⟩
end vnd
namespace book
open Go.RowKit
set_option maxRecDepth 100000
theorem cellsE_app (l m : List Ev) : cellsE (l ++ m) = cellsE l ++ cellsE m := by
 induction l with
 | nil => rfl
 | cons e l ih => rw [List.cons_append, cellsE, cellsE, ih, List.append_assoc]
def Le (w : World) (base : Nat) (v : Value) (l : List Ev) : Prop := w.ownsRow base 71 13 v l.length (cellsE l)
theorem Le.zero (w : World) (base : Nat) : Le w base (.slice none 0 0) [] := World.ownsRow_nil _ _ _ _
theorem Le.alloc {w : World} {base : Nat} {v : Value} {l : List Ev} (h : Le w base v l) (o : Obj) : Le (w.alloc o) base v l := World.ownsRow.alloc h o
theorem Le.next {w w' : World} {base : Nat} {v : Value} {l : List Ev} (h : Le w base v l) (hb : Below w.heap.size w w') : Le w' base v l := by
 refine ⟨h.1, ?_⟩
 rcases h.2 with hn | ⟨g, cap, cur, hv, hg, hc, rest⟩
 ·exact .inl hn
 ·exact .inr ⟨g, cap, cur, hv, hg, Blk.next hc hb, rest⟩
theorem Le.came {w : World} {base : Nat} {v : Value} {l : List Ev} (h : Le w base v l) (hl : l.length ≤ 100000) (hw : ∀ x ∈ l, wf13 x) : ∃ a cap, v = .slice a l.length cap ∧ ECame w a l.length cap l := by
 rcases h.2 with ⟨hv, hn⟩ | ⟨g, cap, cur, hv, _, hc, h1, _⟩
 ·exact ⟨none, 0, by rw [hn]; exact hv, ⟨⟨rfl, .inl hn⟩, fun _ => rfl, by omega, by omega, hw⟩⟩
 ·subst hv
  refine ⟨_, cap, rfl, ⟨⟨rfl, .inr ⟨g, 0, rfl, Blk.lt hc, fun i j hi hj => ?_⟩⟩, (fun h => by cases h), h1, by omega, hw⟩⟩
  have e1 := World.ownsRow.cellAt h (i * 13 + j) (by omega)
  rw [Nat.zero_add, e1]
  exact cellsE_at l i j hi hj
theorem wp_ev {w : World} {ops : Array Oper} {rest : List Oper} {o : Oper} {a : Act} {Q : Exit → Act → World → Prop} (hgd : o.guard = none) (s x : Operand)
  (ho : o.op = .call { callee := .builtin .append, args := #[s, x], argTypes := #[51, 51] })
  (base G : Nat) (v : Value) (l : List Ev) (r : Ev) (hs : a.eval s = v) (hx : a.eval x = .slice (some ⟨G, 0, none⟩) 1 1) (hv : Le w base v l) (hu : Blk w G r.cl.toArray 71) (hn : l.length ≤ 1000000) (hbase : base ≤ w.heap.size)
  (h : ∀ v' w', Le w' base v' (l ++ [r]) → w.grownBy w' v.ownBlock → wpList Tryz.prog ops Q rest (a.put o.dst v') w') : wpList Tryz.prog ops Q (o :: rest) a w := by
 obtain ⟨i0, hi, hz0, hz1, hz2⟩ := info_parts evI
 refine wpList_append_own w hgd s x 51 ho base 71 i0 (.agg ev0.cl.toArray) 13 104 Tryz.underlying51 hi hz0 hz1 hz2 rfl (by decide) v l.length (cellsE l) hs hv ⟨G, 0, none⟩ 1 1 (cellsE [r]) hx (by rw [cellsE_len]; rfl) ?_ (oneE [r]) (by unfold maxLen; omega) (by omega) hbase ?_
 ·intro j u hj
  rw [Addr.add_lit, Nat.zero_add, hu.cell j]
  rw [cellsE, cellsE, List.append_nil] at hj
  simpa using hj
 intro v' w' h1 h2 _
 refine h v' w' ?_ h2
 unfold Le
 rw [List.length_append, cellsE_app]
 exact h1
end book
namespace vnd
open disk (RepIs AppIs RepPost Lr Recs Sli sl0)
open book (Ev ev0 EMay evL evOf EncIs DecIs Cm cm0 So so0 BookIs BookPost Sees ECame RowE FirstAt NoneAt Tells DecPost)
open acc (Ac Tm Bi SellIs GrantIs RekeyIs OweIs)
open cell (Wr RowU)
open token (Tok)
open Go.RowKit
set_option maxRecDepth 100000
set_option maxHeartbeats 4000000 in
theorem rkept (a : Option Addr) (n cap : Nat) (c : List Int) (w : World) (h : RowU w a n c) (hw : ∀ x ∈ c, 0 ≤ x ∧ x < 4294967296) : Calls Tryz.prog 19 #[.slice a n cap] w fun e w' => KeptPost w c e w' := by
 have HRE : Hid (Calls Tryz.prog 32 #[.slice a n cap] w fun e w' => RepPost w c e w') := disk.replayed a n cap c w h hw
 have HW : Hid (∀ x ∈ c, 0 ≤ x ∧ x < 4294967296) := hw
 clear h hw
 go_enter Tryz.func19, Tryz.ntmps19
 go_wp2_with fail
 refine HRE.out.mono ?_
 rintro e w1 ⟨V, sl, o, x, f, rfl, hlr, hrc, hri, hb1⟩
 obtain ⟨pa, pc, rfl⟩ := hlr.len
 have HB1 : Hid (Below w.heap.size w w1) := hb1
 have HRI : Hid (RepIs c o x f) := hri
 have HLR : Hid (Lr 25 w1 w.heap.size (.slice pa sl.length pc) sl) := hlr
 have HRC : Hid (Recs w1 (Value.slice pa sl.length pc).ownBlock sl o) := hrc
 have HOL : Hid (sl.length = o.length) := hrc.1
 have hol : sl.length ≤ 2048 := by rw [hrc.1]; exact rep_len hri
 clear hlr hrc hri hb1 HRE
 by_cases h0 : f = 0
 ·subst h0
  generalize hN : sl.length = N at *
  have HN : Hid (sl.length = N) := hN
  clear hN
  go_wp2_with fail
  go_loopw [7, 8] (fun u z wr => ∃ (k : Nat) (U : Value), k ≤ N ∧ z = .int .i64 (k : Int) ∧ U = u ∧ book.Le wr w1.heap.size U ((o.take k).map evOf) ∧ (∀ j, j < k → DecOk (o.getD j [])) ∧ Below w1.heap.size w1 wr) (fun _ z _ => N - (intOf z).toNat)
  case atStart => exact ⟨0, _, Nat.zero_le _, rfl, rfl, book.Le.zero _ _, (fun j hj => absurd hj (Nat.not_lt_zero _)), Below.refl _ _⟩
  case round =>
   obtain ⟨k, U, hk, rfl, hU, hle, hok, hb⟩ := hrel
   subst hU
   have HLE : Hid (book.Le wr w1.heap.size U ((o.take k).map evOf)) := hle
   have HOK : Hid (∀ j, j < k → DecOk (o.getD j [])) := hok
   have HBR : Hid (Below w1.heap.size w1 wr) := hb
   by_cases hlt : k < N
   ·have hdl : decide ((k : Int) < (N : Int)) = true := by simp; omega
    have hks : k < sl.length := by rw [HN.out]; exact hlt
    have hko : k < o.length := by rw [← HOL.out]; exact hlt
    obtain ⟨g, gc, hgv, _, hgl, _, hgc⟩ := HLR.out.row (by rw [HN.out]; omega)
    have hpa : pa = some ⟨g, 0, none⟩ := by injection hgv
    subst hpa
    obtain ⟨⟨rb, ro, hra, hrl, _⟩, hrow⟩ := HRC.out.2 k hks
    have ck : wr.cell? ⟨g, k, none⟩ = some (sl.getD k sl0).v := (hb.cell (p := ⟨g, k, none⟩) hgl).trans (hgc k hks)
    unfold disk.Sli.v at ck
    have HDE : Hid (Calls Tryz.prog 33 #[.slice (sl.getD k sl0).a (sl.getD k sl0).n (sl.getD k sl0).c] wr fun e w' => DecPost wr (o.getD k []) e w') := book.rdecoded _ _ _ _ wr (hrow.below hb) (fun y hy => HW.out y (rep_in HRI.out _ (getD_inR hko) y hy))
    clear hle hok hb hgc hrow hra hrl hgv
    generalize (sl.getD k sl0).a = sa at *
    generalize (sl.getD k sl0).n = sn at *
    generalize (sl.getD k sl0).c = sc at *
    have HTK : Hid ((o.take k).map evOf ++ [evOf (o.getD k [])] = (o.take (k + 1)).map evOf) := take_mapE o k hko
    have hzl : ((o.take k).map evOf).length ≤ 1000000 := by rw [List.length_map, List.length_take]; omega
    generalize (o.take k).map evOf = Z at *
    go_wp2_with fail
    refine HDE.out.mono ?_
    rintro e w2 ⟨v, f2, rfl, hd, hb2⟩
    unfold book.Ev.v
    have HX : Hid (Blk (w2.alloc (.cells #[.int .i64 v.kd, .int .i64 v.me, .int .i64 v.mo, .int .i64 v.id, .int .i64 v.te, .int .i64 v.de, .int .i64 v.fe, .int .i64 v.pr, .int .i64 v.ch, .int .i64 v.un, .int .i64 v.tg, .int .i64 v.ow, .int .i64 v.bp] 71)) w2.heap.size #[.int .i64 v.kd, .int .i64 v.me, .int .i64 v.mo, .int .i64 v.id, .int .i64 v.te, .int .i64 v.de, .int .i64 v.fe, .int .i64 v.pr, .int .i64 v.ch, .int .i64 v.un, .int .i64 v.tg, .int .i64 v.ow, .int .i64 v.bp] 71) := Blk.new w2 _ _
    have HBX : Hid (Below w1.heap.size w1 (w2.alloc (.cells #[.int .i64 v.kd, .int .i64 v.me, .int .i64 v.mo, .int .i64 v.id, .int .i64 v.te, .int .i64 v.de, .int .i64 v.fe, .int .i64 v.pr, .int .i64 v.ch, .int .i64 v.un, .int .i64 v.tg, .int .i64 v.ow, .int .i64 v.bp] 71))) := (HBR.out.trans (hb2.mono HBR.out.size)).alloc (Nat.le_trans HBR.out.size hb2.size) _
    have HLX : Hid (book.Le (w2.alloc (.cells #[.int .i64 v.kd, .int .i64 v.me, .int .i64 v.mo, .int .i64 v.id, .int .i64 v.te, .int .i64 v.de, .int .i64 v.fe, .int .i64 v.pr, .int .i64 v.ch, .int .i64 v.un, .int .i64 v.tg, .int .i64 v.ow, .int .i64 v.bp] 71)) w1.heap.size U Z) := (HLE.out.next hb2).alloc _
    have HD : Hid (DecIs (o.getD k []) v f2) := hd
    have hsx : w2.heap.size < (w2.alloc (.cells #[.int .i64 v.kd, .int .i64 v.me, .int .i64 v.mo, .int .i64 v.id, .int .i64 v.te, .int .i64 v.de, .int .i64 v.fe, .int .i64 v.pr, .int .i64 v.ch, .int .i64 v.un, .int .i64 v.tg, .int .i64 v.ow, .int .i64 v.bp] 71)).heap.size := (Blk.new w2 #[.int .i64 v.kd, .int .i64 v.me, .int .i64 v.mo, .int .i64 v.id, .int .i64 v.te, .int .i64 v.de, .int .i64 v.fe, .int .i64 v.pr, .int .i64 v.ch, .int .i64 v.un, .int .i64 v.tg, .int .i64 v.ow, .int .i64 v.bp] 71).lt
    clear hd hb2 HDE HLE HBR ck
    go_upto_region 9 with fail
    generalize (w2.alloc (.cells #[.int .i64 v.kd, .int .i64 v.me, .int .i64 v.mo, .int .i64 v.id, .int .i64 v.te, .int .i64 v.de, .int .i64 v.fe, .int .i64 v.pr, .int .i64 v.ch, .int .i64 v.un, .int .i64 v.tg, .int .i64 v.ow, .int .i64 v.bp] 71)) = W3 at *
    generalize w2.heap.size = gx at *
    by_cases h2 : f2 = 0
    ·subst h2
     obtain ⟨hdk, hve⟩ := dec_ok HD.out
     have HV : Hid (evOf (o.getD k []) = v) := hve.symm
     have HOK2 : Hid (∀ j, j < k + 1 → DecOk (o.getD j [])) := fun j hj => by
      by_cases e : j = k
      ·subst e; exact hdk
      ·exact HOK.out j (by omega)
     have HBK : Hid (Blk (W3.alloc (.cells #[.int .i64 v.kd, .int .i64 v.me, .int .i64 v.mo, .int .i64 v.id, .int .i64 v.te, .int .i64 v.de, .int .i64 v.fe, .int .i64 v.pr, .int .i64 v.ch, .int .i64 v.un, .int .i64 v.tg, .int .i64 v.ow, .int .i64 v.bp] 71)) W3.heap.size v.cl.toArray 71) := Blk.new W3 _ _
     have HLA : Hid (book.Le (W3.alloc (.cells #[.int .i64 v.kd, .int .i64 v.me, .int .i64 v.mo, .int .i64 v.id, .int .i64 v.te, .int .i64 v.de, .int .i64 v.fe, .int .i64 v.pr, .int .i64 v.ch, .int .i64 v.un, .int .i64 v.tg, .int .i64 v.ow, .int .i64 v.bp] 71)) w1.heap.size U Z) := HLX.out.alloc _
     have HBA : Hid (Below w1.heap.size w1 (W3.alloc (.cells #[.int .i64 v.kd, .int .i64 v.me, .int .i64 v.mo, .int .i64 v.id, .int .i64 v.te, .int .i64 v.de, .int .i64 v.fe, .int .i64 v.pr, .int .i64 v.ch, .int .i64 v.un, .int .i64 v.tg, .int .i64 v.ow, .int .i64 v.bp] 71))) := HBX.out.alloc HBX.out.size _
     clear hdk hve HD HOK
     go_wp2_with (first
      | (refine zqw rfl rfl rfl HX zqu71 ?_)
      | (at_builtin; refine book.wp_ev rfl _ _ rfl w1.heap.size W3.heap.size U Z v rfl rfl HLA.out HBK.out hzl HBA.out.size ?_)
      | fail)
     intro v3 w3 h3 hg3
     have HB3 : Hid (Below w1.heap.size w1 w3) := tar.own_bel HLA.out hg3 HBA.out (Nat.le_refl _) HBA.out.size
     have H3 : Hid (book.Le w3 w1.heap.size v3 (Z ++ [v])) := h3
     clear h3 hg3 HLA HBA HBK HX HLX HBX
     go_wp2_with fail
     go_roundw
     case rel => exact ⟨k + 1, v3, by omega, by go_num, by first | rfl | trivial, by rw [← HTK.out, HV.out]; exact H3.out, HOK2.out, HB3.out⟩
     case measure => simp [intOf]; omega
    ·have d2 : (f2 != 0) = true := by simpa using h2
     have HK : Hid (KeptIs c [] f2) := ⟨o, x, 0, HRI.out, .inr (.inr ⟨rfl, h2, rfl, k, hko, HOK.out, by have := dec_no HD.out h2; rw [← this]; exact HD.out⟩)⟩
     have HBF : Hid (Below w.heap.size w W3) := HB1.out.trans (HBX.out.mono HB1.out.size)
     clear h2 HD HOK
     go_wp2_with fail
     go_ret2
     exact ⟨none, 0, 0, [], f2, rfl, HK.out, ecame_nil _, Nat.zero_le _, HBF.out⟩
   ·obtain rfl : k = N := by omega
    have hdl : decide ((k : Int) < (k : Int)) = false := by simp
    have HTA : Hid (o.take k = o) := List.take_of_length_le (by rw [← HOL.out]; exact Nat.le_refl _)
    have HK : Hid (KeptIs c (o.map evOf) 0) := ⟨o, x, 0, HRI.out, .inr (.inl ⟨rfl, fun j hj => HOK.out j (by rw [HOL.out]; exact hj), rfl, rfl⟩)⟩
    have hwf : ∀ v ∈ o.map evOf, book.wf13 v := fun v hv => by
     obtain ⟨z, hz, rfl⟩ := List.mem_map.1 hv
     obtain ⟨j, hj, rfl⟩ := List.mem_iff_getElem.1 hz
     have e : o.getD j [] = o[j] := by simp [List.getD, List.getElem?_eq_getElem hj]
     have := HOK.out j (by rw [HOL.out]; exact hj)
     rw [e] at this
     exact book.wf_may this.2
    have hl2 := HLE.out
    rw [HTA.out] at hl2
    obtain ⟨pz, cz, hvz, hcz⟩ := hl2.came (by rw [List.length_map, ← HOL.out]; omega) hwf
    have hlen : (o.map evOf).length = k := by rw [List.length_map]; exact HOL.out.symm
    rw [hlen] at hvz hcz
    subst hvz
    have HCZ : Hid (ECame wr pz k cz (o.map evOf)) := hcz
    have HBF : Hid (Below w.heap.size w wr) := HB1.out.trans (HBR.out.mono HB1.out.size)
    clear hle hok hb hl2 hcz hwf hlen HLE HOK HTA
    go_wp2_with fail
    go_ret2
    exact ⟨pz, k, cz, _, 0, rfl, HK.out, HCZ.out, hol, HBF.out⟩
 ·have d0 : (f != 0) = true := by simpa using h0
  have HK : Hid (KeptIs c [] f) := ⟨o, x, f, HRI.out, .inl ⟨h0, rfl, rfl⟩⟩
  clear h0
  go_wp2_with fail
  go_ret2
  exact ⟨none, 0, 0, [], f, rfl, HK.out, ecame_nil _, Nat.zero_le _, HB1.out⟩
end vnd
namespace book
open Go.RowKit
set_option maxRecDepth 100000
set_option maxHeartbeats 2000000 in
theorem rfound (p : Option Addr) (n cap : Nat) (l : List Cu) (me : Int) (w : World) (h : RowC w p n l) (hn : n ≤ 9223372036854775807) : Calls Tryz.prog 26 #[.agg #[.slice p n cap], .int .i64 me] w fun e w' => ∃ x, e = .returned (.int .i64 x) ∧ FoundIs l me x ∧ Below w.heap.size w w' := by
 obtain ⟨W, HWW, HX, HB, -⟩ := sh1 w #[.slice p n cap] 29
 have HR : Hid (RowC W p n l) := h.below HB.out
 have HL : Hid (l.length = n) := h.1
 clear h
 go_enter Tryz.func26, Tryz.ntmps26
 go_upto_region 1 with fail
 rw [HWW.out]
 clear HWW
 have k0 : W.cell? ⟨w.heap.size, 0, none⟩ = some (.slice p n cap) := HX.out.cell 0
 go_wp2_with fail
 go_loopw [5] (fun i wr => ∃ k : Nat, k ≤ n ∧ i = .int .i64 (k : Int) ∧ (∀ j, j < k → (l.getD j cu0).me ≠ me) ∧ wr = W) (fun i _ => n - (intOf i).toNat)
 case atStart => exact ⟨0, Nat.zero_le _, rfl, fun j hj => absurd hj (Nat.not_lt_zero _), rfl⟩
 case round =>
  obtain ⟨k, hk, rfl, hf, hwr⟩ := hrel
  subst hwr
  have HF : Hid (∀ j, j < k → (l.getD j cu0).me ≠ me) := hf
  clear hf
  by_cases hlt : k < n
  ·obtain ⟨b, off, rfl, lb, hc⟩ := HR.out.2.resolve_left (by omega)
   have c0 : wr.cell? ⟨b, off + k * 8, none⟩ = some (.int .i64 (l.getD k cu0).me) := hc k 0 hlt (by decide)
   have HK : Hid ((l.getD k cu0).me = (l.getD k cu0).me) := rfl
   have hdl : decide ((k : Int) < (n : Int)) = true := by simp; omega
   by_cases he : (l.getD k cu0).me = me
   ·have n1 : ((l.getD k cu0).me == me) = true := by simpa using he
    have HI : Hid (FoundIs l me (k : Int)) := .inl ⟨k, by rw [HL.out]; exact hlt, he, HF.out, rfl⟩
    clear hc HF HK he
    generalize (l.getD k cu0).me = z at *
    go_wp2_with fail
    go_ret
    exact ⟨_, rfl, HI.out, HB.out⟩
   ·have n1 : ((l.getD k cu0).me == me) = false := by simpa using he
    have HF2 : Hid (∀ j, j < k + 1 → (l.getD j cu0).me ≠ me) := fun j hj => by
     by_cases e : j = k
     ·subst e; exact he
     ·exact HF.out j (by omega)
    clear hc HF HK he
    generalize (l.getD k cu0).me = z at *
    go_wp2_with fail
    go_roundw
    case rel => exact ⟨k + 1, by omega, by go_num, HF2.out, by first | rfl | trivial⟩
    case measure => simp [intOf]; omega
  ·obtain rfl : k = n := by omega
   have hdl : decide ((k : Int) < (k : Int)) = false := by simp
   have HI : Hid (FoundIs l me (-1)) := .inr ⟨fun j hj => HF.out j (by rw [HL.out] at hj; exact hj), rfl⟩
   clear HF
   go_wp2_with fail
   go_ret
   exact ⟨_, rfl, HI.out, HB.out⟩
end book
namespace deb
open tar (Du du0 Came RowD Ld ErrPost TwoPost PairT GaveD)
open Go.RowKit
set_option maxRecDepth 100000
theorem debtT : PairT Tryz.prog 43 57 := ⟨by kernel_rfl, Tryz.underlying57⟩
theorem prod_le (a b A B : Int) (h1 : 0 ≤ a) (h2 : a ≤ A) (h3 : 0 ≤ b) (h4 : b ≤ B) : 0 ≤ a * b ∧ a * b ≤ A * B :=
 ⟨Int.mul_nonneg h1 h3, Int.le_trans (Int.mul_le_mul_of_nonneg_left h4 h1) (Int.mul_le_mul_of_nonneg_right h2 (by omega))⟩
end deb
section
open Go.RowKit
theorem wp_letS {P : Program} {ops : Array Oper} {rest : List Oper} {o : Oper} {a : Act} {w : World} {Q : Exit → Act → World → Prop} (hgd : o.guard = none) (ty : TypeId) (x y : Operand) (ho : o.op = .store ty x y)
  (g off : Nat) (hx : a.eval x = .pointer (some ⟨g, off, none⟩)) (p : Option Addr) (n c : Nat) (hy : a.eval y = .slice p n c) (hi : (P.info? ty).map (·.size) = some 1)
  (cs : Array Value) (t : TypeId) (hB : Blk w g cs t) (hin : off < cs.size)
  (h : ∀ W, Upd w W g (cs.setIfInBounds off (.slice p n c)) t → wpList P ops Q rest (a.put o.dst undef) W) : wpList P ops Q (o :: rest) a w :=
 wp_let hgd ty x y ho g off hx _ hy #[.slice p n c] rfl hi (by simp [Value.oneCell']) cs t hB (by simp; omega) _ rfl h
end
namespace acc
open tar (Du du0 Came RowD Ld PairT)
open Go.RowKit
set_option maxRecDepth 100000
set_option maxHeartbeats 4000000 in
theorem rcopyL (x : Ac) (p : Option Addr) (len cap : Nat) (w : World) (h : RowD w p len x.ds) (hm : deb.Mays x.ds) : Calls Tryz.prog 48 #[.agg #[.int .i64 x.me, .int .i64 x.rv, .int .i64 x.nx, .int .i64 x.mo, .int .i64 x.bo, .int .i64 x.fr, .slice p len cap]] w fun e w' => ∃ p' cap', e = .returned (Ac.v x p' len cap') ∧ deb.Fresh w' w.heap.size p' len cap' x.ds ∧ Ld 43 w' w.heap.size (.slice p' len cap') x.ds ∧ Below w.heap.size w w' := by
 have hlen := h.1
 have hl8 : len ≤ 8 := by have := hm.1; omega
 obtain ⟨W2, HWW, H0d, H0r, H0B, hs1⟩ := sh2 w #[.int .i64 x.me, .int .i64 x.rv, .int .i64 x.nx, .int .i64 x.mo, .int .i64 x.bo, .int .i64 x.fr, .slice p len cap] 59 #[.int .i64 0, .int .i64 0, .int .i64 0, .int .i64 0, .int .i64 0, .int .i64 0, .slice none 0 0] 59
 have HROW : Hid (RowD W2 p len x.ds) := h.below H0B.out
 have HM : Hid (deb.Mays x.ds) := hm
 have HLEN : Hid (x.ds.length = len) := hlen
 clear h hm hlen
 go_enter Tryz.func48, Tryz.ntmps48
 go_upto_region 1 with fail
 rw [HWW.out]
 clear HWW
 go_wp2_with fail
 go_loopw [3, 4] (fun u z wr => ∃ (k : Nat) (V : Value), k ≤ len ∧ z = .int .i64 (k : Int) ∧ V = u ∧ Ld 43 wr W2.heap.size V (x.ds.take k) ∧ Below W2.heap.size W2 wr) (fun _ z _ => len - (intOf z).toNat)
 case atStart => exact ⟨0, _, Nat.zero_le _, rfl, rfl, tar.Ld.zero _ _ _, Below.refl _ _⟩
 case round =>
  obtain ⟨k, V, hk, rfl, hV, hu, hb⟩ := hrel
  subst hV
  have HBW : Hid (Below W2.heap.size W2 wr) := hb
  have HU : Hid (Ld 43 wr W2.heap.size V (x.ds.take k)) := hu
  have HKd : Hid (Blk wr w.heap.size #[.int .i64 x.me, .int .i64 x.rv, .int .i64 x.nx, .int .i64 x.mo, .int .i64 x.bo, .int .i64 x.fr, .slice p len cap] 59) := H0d.out.below hb (by omega)
  have HKr : Hid (Blk wr (w.heap.size + 1) #[.int .i64 0, .int .i64 0, .int .i64 0, .int .i64 0, .int .i64 0, .int .i64 0, .slice none 0 0] 59) := H0r.out.below hb (by omega)
  have c6 : wr.cell? ⟨w.heap.size, 6, none⟩ = some (.slice p len cap) := HKd.out.cell 6
  by_cases hlt : k < len
  ·have hdl : decide ((k : Int) < (len : Int)) = true := by simp; omega
   have hkl : k < x.ds.length := by rw [HLEN.out]; exact hlt
   obtain ⟨b, off, rfl, hbl, hc⟩ := HROW.out.at (by omega)
   have c0 : wr.cell? ⟨b, off + k * 2, none⟩ = some (.int .i64 (x.ds.getD k du0).a) := (hb.cell (p := ⟨b, off + k * 2, none⟩) hbl).trans (hc k hlt).1
   have c1 : wr.cell? ⟨b, off + k * 2 + 1, none⟩ = some (.int .i64 (x.ds.getD k du0).b) := (hb.cell (p := ⟨b, off + k * 2 + 1, none⟩) hbl).trans (hc k hlt).2
   have HTK : Hid (x.ds.take (k + 1) = x.ds.take k ++ [⟨(x.ds.getD k du0).a, (x.ds.getD k du0).b⟩]) := tar.take_one x.ds k hkl
   have hzl : (x.ds.take k).length ≤ 1000000 := by rw [List.length_take]; omega
   clear hc hb hu hkl
   generalize x.ds.take k = Z at *
   generalize (x.ds.getD k du0).a = da at *
   generalize (x.ds.getD k du0).b = db at *
   have HBA : Hid (Below W2.heap.size W2 (wr.alloc (.cells #[.int .i64 da, .int .i64 db] 43))) := HBW.out.alloc HBW.out.size _
   have HZA : Hid (Ld 43 (wr.alloc (.cells #[.int .i64 da, .int .i64 db] 43)) W2.heap.size V Z) := HU.out.alloc _
   have HCA : Hid ((wr.alloc (.cells #[.int .i64 da, .int .i64 db] 43)).cell? ⟨wr.heap.size, 0, none⟩ = some (.int .i64 da) ∧ (wr.alloc (.cells #[.int .i64 da, .int .i64 db] 43)).cell? ⟨wr.heap.size, 1, none⟩ = some (.int .i64 db)) := ⟨(Blk.new wr _ _).cell 0, (Blk.new wr _ _).cell 1⟩
   clear HKd HKr
   go_wp2_with (first
    | (at_builtin; refine tar.wp_pair deb.debtT rfl _ _ rfl W2.heap.size wr.heap.size V Z ⟨da, db⟩ rfl rfl HZA.out HCA.out hzl HBA.out.size ?_)
    | fail)
   intro v3 w3 h3 hg3
   have HB3 : Hid (Below W2.heap.size W2 w3) := tar.own_bel HZA.out hg3 HBA.out (Nat.le_refl _) HBA.out.size
   have H3 : Hid (Ld 43 w3 W2.heap.size v3 (Z ++ [⟨da, db⟩])) := h3
   clear h3 hg3 HZA HCA HBA HU c0 c1 c6
   go_wp2_with fail
   go_roundw
   case rel => exact ⟨k + 1, v3, by omega, by go_num, by first | rfl | trivial, by rw [HTK.out]; exact H3.out, HB3.out⟩
   case measure => simp [intOf]; omega
  ·obtain rfl : len = k := by omega
   have hdl : decide ((len : Int) < (len : Int)) = false := by simp
   have htk : x.ds.take len = x.ds := List.take_of_length_le (by rw [HLEN.out]; exact Nat.le_refl _)
   rw [htk] at hu
   obtain ⟨p3, cap3, hv3, hcm⟩ := deb.ld_fresh hu HM.out
   subst hv3
   rw [HLEN.out] at hcm ⊢
   have HCM : Hid (deb.Fresh wr W2.heap.size p3 len cap3 x.ds) := hcm
   have HLD : Hid (Ld 43 wr W2.heap.size (.slice p3 len cap3) x.ds) := by have hu2 := hu; rw [HLEN.out] at hu2; exact hu2
   have HBF : Hid (Below w.heap.size w wr) := H0B.out.trans (hb.mono (by omega))
   clear hb hu hcm htk HU HBW
   go_wp2_with (first
    | (refine wp_letS rfl 57 _ _ rfl (w.heap.size) 6 rfl p3 len cap3 rfl (by kernel_rfl) #[.int .i64 x.me, .int .i64 x.rv, .int .i64 x.nx, .int .i64 x.mo, .int .i64 x.bo, .int .i64 x.fr, .slice p len cap] 59 HKd.out (by simp) ?_)
    | fail)
   intro W3 hU
   have H3d : Hid (Blk W3 w.heap.size #[.int .i64 x.me, .int .i64 x.rv, .int .i64 x.nx, .int .i64 x.mo, .int .i64 x.bo, .int .i64 x.fr, .slice p3 len cap3] 59) := hU.blk
   have H3r := shK hU HKr (by omega)
   have H3B := shV hU HBF (by omega)
   have H3C : Hid (deb.Fresh W3 W2.heap.size p3 len cap3 x.ds) := fresh_upd HCM.out hU (by omega)
   have H3L : Hid (Ld 43 W3 W2.heap.size (.slice p3 len cap3) x.ds) := ld_upd HLD.out hU (by omega)
   clear hU c6 HKd HKr HBF HCM HLD
   go_wp2_with (first
    | (refine zqw rfl rfl rfl H3d zqu59 ?_)
    | (refine zql rfl rfl rfl rfl zqu59 (by simp [Value.oneCell']) H3r rfl ?_)
    | fail)
   intro WF hU
   have H9r : Hid (Blk WF (w.heap.size + 1) #[.int .i64 x.me, .int .i64 x.rv, .int .i64 x.nx, .int .i64 x.mo, .int .i64 x.bo, .int .i64 x.fr, .slice p3 len cap3] 59) := hU.blk
   have H9B := shV hU H3B (by omega)
   have H9C : Hid (deb.Fresh WF w.heap.size p3 len cap3 x.ds) := (fresh_upd H3C.out hU (by omega)).low (by omega)
   have H9L : Hid (Ld 43 WF w.heap.size (.slice p3 len cap3) x.ds) := (ld_upd H3L.out hU (by omega)).low (by omega)
   clear hU H3d H3r H3B H3C H3L
   obtain ⟨Rr0, Rr1, Rr2, Rr3, Rr4, Rr5, Rr6⟩ := shc7 H9r
   go_wp2_with fail
   exact bodyPost_ret (v := .agg #[.int .i64 x.me, .int .i64 x.rv, .int .i64 x.nx, .int .i64 x.mo, .int .i64 x.bo, .int .i64 x.fr, .slice p3 len cap3]) (by simp [results, Tryz.results48, Rr0.out, Rr1.out, Rr2.out, Rr3.out, Rr4.out, Rr5.out, Rr6.out, go_sem]) rfl ⟨p3, cap3, rfl, H9C.out, H9L.out, H9B.out⟩
theorem rcopy (x : Ac) (p : Option Addr) (len cap : Nat) (w : World) (h : RowD w p len x.ds) (hm : deb.Mays x.ds) : Calls Tryz.prog 48 #[.agg #[.int .i64 x.me, .int .i64 x.rv, .int .i64 x.nx, .int .i64 x.mo, .int .i64 x.bo, .int .i64 x.fr, .slice p len cap]] w fun e w' => ∃ p' cap', e = .returned (Ac.v x p' len cap') ∧ deb.Fresh w' w.heap.size p' len cap' x.ds ∧ Below w.heap.size w w' :=
 (rcopyL x p len cap w h hm).mono fun e w' hh => by
  obtain ⟨p', cap', he, hf, _, hb⟩ := hh
  exact ⟨p', cap', he, hf, hb⟩
end acc
namespace deb
open tar (Du du0 Came RowD Ld ErrPost TwoPost PairT GaveD)
open Go.RowKit
set_option maxRecDepth 100000
set_option maxHeartbeats 2000000 in
theorem rfault (a : Option Addr) (n cap : Nat) (ls : List Du) (w : World) (hr : RowD w a n ls) (hn : n ≤ maxLen) : Calls Tryz.prog 70 #[.slice a n cap] w fun e w' => ∃ f, e = .returned (.int .i64 f) ∧ FaultIs ls f ∧ w' = w := by
 have hlen := hr.1
 have HIU : Hid (∀ x W, Calls Tryz.prog 25 #[.int .i64 x, .int .i64 0, .int .i64 1000000000] W fun e w' => e = .returned (.bool (decide (0 ≤ x ∧ x ≤ 1000000000))) ∧ w' = W) := fun x W => cal.cin x 0 1000000000 W
 have HIP : Hid (∀ x W, Calls Tryz.prog 25 #[.int .i64 x, .int .i64 0, .int .i64 10000] W fun e w' => e = .returned (.bool (decide (0 ≤ x ∧ x ≤ 10000))) ∧ w' = W) := fun x W => cal.cin x 0 10000 W
 have hnm : n ≤ 9223372036854775807 := by unfold maxLen at hn; omega
 by_cases hs : n ≤ 8
 ·have HS : Hid (ls.length ≤ 8) := by show _ ≤ _; rw [hlen]; exact hs
  have hd8 : decide (8 < (n : Int)) = false := decide_eq_false (by omega)
  have HROW : Hid (RowD w a n ls) := hr
  have HLEN : Hid (ls.length = n) := hlen
  clear hr hn hlen
  go_enter Tryz.func70, Tryz.ntmps70
  go_wp2_with fail
  go_loopw [3] (fun x wr => ∃ k : Nat, k ≤ n ∧ x = .int .i64 (k : Int) ∧ (∀ i, i < k → Ok1 (ls.getD i du0)) ∧ wr = w) (fun x _ => n - (intOf x).toNat)
  case atStart => exact ⟨0, Nat.zero_le _, rfl, fun i hi => absurd hi (Nat.not_lt_zero _), rfl⟩
  case round =>
   obtain ⟨k, hk, rfl, hf, hwr⟩ := hrel
   have HF : Hid (∀ i, i < k → Ok1 (ls.getD i du0)) := hf
   subst wr
   clear hf
   by_cases hlt : k < n
   ·have hdl : decide ((k : Int) < (n : Int)) = true := by simp; omega
    obtain ⟨b, off, rfl, hbl, hc⟩ := HROW.out.at (by omega)
    have c0 := (hc k hlt).1
    have c1 := (hc k hlt).2
    have HU := HIU.out (ls.getD k du0).a
    have HP := HIP.out (ls.getD k du0).b
    clear hc
    by_cases hu : 0 ≤ (ls.getD k du0).a ∧ (ls.getD k du0).a ≤ 1000000000
    ·rw [decide_eq_true hu] at HU
     have HU2 : Hid (∀ W, Calls Tryz.prog 25 #[.int .i64 (ls.getD k du0).a, .int .i64 0, .int .i64 1000000000] W fun e w' => e = .returned (.bool true) ∧ w' = W) := HU
     by_cases hp : 0 ≤ (ls.getD k du0).b ∧ (ls.getD k du0).b ≤ 10000
     ·rw [decide_eq_true hp] at HP
      have HF2 : Hid (∀ i, i < k + 1 → Ok1 (ls.getD i du0)) := fun i hi => by
       by_cases e : i = k
       ·subst e; exact ⟨hu, hp⟩
       ·exact HF.out i (by omega)
      have HP2 : Hid (∀ W, Calls Tryz.prog 25 #[.int .i64 (ls.getD k du0).b, .int .i64 0, .int .i64 10000] W fun e w' => e = .returned (.bool true) ∧ w' = W) := HP
      clear HU HP hu hp HF
      generalize (ls.getD k du0).a = x at *
      generalize (ls.getD k du0).b = y at *
      go_wp2_with fail
      refine (HU2.out _).mono ?_
      rintro e w2 ⟨rfl, hw2⟩
      subst hw2
      go_wp2_with fail
      refine (HP2.out _).mono ?_
      rintro e w2 ⟨rfl, hw2⟩
      subst hw2
      go_wp2_with fail
      go_roundw
      case rel => exact ⟨k + 1, by omega, by go_num, HF2.out, by first | rfl | trivial⟩
      case measure => simp [intOf]; omega
     ·rw [decide_eq_false hp] at HP
      have HN : Hid (¬ DFits ls) := fun h => hp (h k (by rw [HLEN.out]; exact hlt)).2
      have HP2 : Hid (∀ W, Calls Tryz.prog 25 #[.int .i64 (ls.getD k du0).b, .int .i64 0, .int .i64 10000] W fun e w' => e = .returned (.bool false) ∧ w' = W) := HP
      clear HU HP hu hp HF
      generalize (ls.getD k du0).a = x at *
      generalize (ls.getD k du0).b = y at *
      go_wp2_with fail
      refine (HU2.out _).mono ?_
      rintro e w2 ⟨rfl, hw2⟩
      subst hw2
      go_wp2_with fail
      refine (HP2.out _).mono ?_
      rintro e w2 ⟨rfl, hw2⟩
      subst hw2
      go_wp2_with fail
      go_ret
      exact ⟨_, rfl, .inr (.inl ⟨HS.out, HN.out, rfl⟩), rfl⟩
    ·rw [decide_eq_false hu] at HU
     have HN : Hid (¬ DFits ls) := fun h => hu (h k (by rw [HLEN.out]; exact hlt)).1
     have HU2 : Hid (∀ W, Calls Tryz.prog 25 #[.int .i64 (ls.getD k du0).a, .int .i64 0, .int .i64 1000000000] W fun e w' => e = .returned (.bool false) ∧ w' = W) := HU
     clear HU HP hu HF
     generalize (ls.getD k du0).a = x at *
     generalize (ls.getD k du0).b = y at *
     go_wp2_with fail
     refine (HU2.out _).mono ?_
     rintro e w2 ⟨rfl, hw2⟩
     subst hw2
     go_wp2_with fail
     go_ret
     exact ⟨_, rfl, .inr (.inl ⟨HS.out, HN.out, rfl⟩), rfl⟩
   ·obtain rfl : k = n := by omega
    have hdl : decide ((k : Int) < (k : Int)) = false := by simp
    have HFT : Hid (DFits ls) := fun i hi => HF.out i (by rw [HLEN.out] at hi; exact hi)
    clear HF HIU HIP
    go_wp2_with fail
    go_ret
    exact ⟨_, rfl, .inr (.inr ⟨⟨HS.out, HFT.out⟩, rfl⟩), rfl⟩
 ·have HS : Hid (¬ ls.length ≤ 8) := by show ¬ _ ≤ _; rw [hlen]; exact hs
  have hd8 : decide (8 < (n : Int)) = true := decide_eq_true (by omega)
  clear hs hr hlen hn
  go_enter Tryz.func70, Tryz.ntmps70
  go_wp2_with fail
  go_ret
  exact ⟨_, rfl, .inl ⟨HS.out, rfl⟩, rfl⟩
end deb
end Go.Proofs.YtomibnggmhjdfaaGreat
