import Derived.Test.YtfhlokjpdkmdjaaBkJ
import Derived.Test.YtfhlokjpdkmdjaaLet
import Derived.Test.YtfhlokjpdkmdjaaBkP
import Derived.Test.YtfhlokjpdkmdjaaBkJ5
import Derived.Test.YtfhlokjpdkmdjaaAcSo
import Derived.Test.YtfhlokjpdkmdjaaBkE
import Derived.Test.YtfhlokjpdkmdjaaSh
import Derived.Test.YtfhlokjpdkmdjaaCallFirst
import Derived.Deep.RegionHeld
import Derived.Deep.DeepCutAuto
import Derived.Test.YtfhlokjpdkmdjaaAcRl
import Derived.Test.YtfhlokjpdkmdjaaAcTf
import Derived.Test.YtfhlokjpdkmdjaaAcCp
import Derived.Test.YtfhlokjpdkmdjaaAcMy
import Derived.WalkKit
import Derived.Test.YtfhlokjpdkmdjaaCaIn
import Derived.Test.YtfhlokjpdkmdjaaBlk
import Derived.Below
import Derived.Test.YtfhlokjpdkmdjaaBkG
import Derived.Test.YtfhlokjpdkmdjaaAcD
import Derived.Test.YtfhlokjpdkmdjaaBkH
import Derived.Test.YtfhlokjpdkmdjaaBkD

/- Small facts of what happens. -/
namespace Go.Proofs.Ytfhlokjpdkmdjaa.book
open Go.RowKit
open Go.Proofs.Ytfhlokjpdkmdjaa.acc (Ac Tm Bi APost BPost OweIs SellIs GrantIs RekeyIs)
set_option maxRecDepth 100000
set_option linter.unusedVariables false
set_option linter.unusedSimpArgs false

theorem drew_fresh {w : World} {base : Nat} {a : Option Addr} {n cap : Nat} {zs : List tar.Du} (h : deb.Fresh w base a n cap zs) : deb.Fresh w.drew base a n cap zs := h.below (Below.refl _ _).drew
theorem bill_ne {l : Bi} {v : Ev} (h : l ≠ billOf v) : ¬ (l.id = v.id ∧ l.te = v.te ∧ l.de = v.de ∧ l.fe = v.fe ∧ l.pr = v.pr ∧ l.ch = v.ch ∧ l.un = v.un) := fun ⟨h1, h2, h3, h4, h5, h6, h7⟩ => h (by
  cases l
  unfold billOf
  simp only at h1 h2 h3 h4 h5 h6 h7
  rw [h1, h2, h3, h4, h5, h6, h7])
theorem lo_upd {w W : World} {base g : Nat} {cs : Array Value} {t : TypeId} {v : Value} {l : List So} (h : Lo w base v l) (hU : Upd w W g cs t) (hg : ∀ k, v.ownBlock = some k → k ≠ g) : Lo W base v l := by
  refine ⟨h.1, ?_⟩
  rcases h.2 with hn | ⟨g', cap, cur, hv, hb, hc, rest⟩
  · exact .inl hn
  · exact .inr ⟨g', cap, cur, hv, hb, by rw [hU.oth g' (hg g' (by rw [hv]; rfl))]; exact hc, rest⟩
theorem grown_upd {w w9 W : World} {g : Nat} {cs : Array Value} {t : TypeId} {own : Option Nat} (h : w.grownBy w9 own) (hU : Upd w9 W g cs t) (hg : w.heap.size ≤ g) : w.grownBy W own := by
  have hb := hU.bel w.heap.size w9 hg (Below.refl _ _)
  exact ⟨hb.os.trans h.os, hb.tape.trans h.tape, hb.output.trans h.output, Nat.le_trans h.size (by rw [hU.size]; exact Nat.le_refl _), fun k hk hne => by rw [hU.oth k (by omega)]; exact h.block k hk hne⟩

end Go.Proofs.Ytfhlokjpdkmdjaa.book

/- Operations one by one, where the order is open. -/
namespace Go.Proofs.Ytfhlokjpdkmdjaa
open Go.RowKit

/-- An operation that gives a value, where the order is open. -/
theorem wp_runOp {P : Program} {o : Oper} {a : Act} {w w' : World} {v : Value} {K : Act → World → Prop} {Q : Exit → Act → World → Prop} (d : Nat) (hd : o.dst = some d) (hrun : (execOp a.eval o).run P w = .ok (.value v) w') (h : K (a.put (some d) v) w') : o.wp P a w K Q := by
  rw [← hd] at h
  unfold Oper.wp
  rw [hrun, Oper.upon_value]
  exact h
/-- A call by its contract, where the order is open. -/
theorem wp_callOp {P : Program} {o : Oper} {a : Act} {w : World} {f : FuncId} {args : Array Value} {R : Ending → World → Prop} {K : Act → World → Prop} {Q : Exit → Act → World → Prop} (d : Nat) (hd : o.dst = some d) (hrun : (execOp a.eval o).run P w = .ok (.enter f args) w) (hc : Calls P f args w R)
    (h : ∀ e w', R e w' → ∃ v, e = .returned v ∧ K (a.put (some d) v) w') : o.wp P a w K Q := by
  rw [← hd] at h
  unfold Oper.wp
  rw [hrun, Oper.upon_enter]
  refine hc.mono fun e w' hr => ?_
  obtain ⟨v, rfl, hk⟩ := h e w' hr
  exact hk

end Go.Proofs.Ytfhlokjpdkmdjaa

/- What a sale does to a customer, as the document has it. -/
namespace Go.Proofs.Ytfhlokjpdkmdjaa.book
open Go.RowKit
open Go.Proofs.Ytfhlokjpdkmdjaa.acc (Ac Tm Bi APost BPost OweIs SellIs GrantIs RekeyIs)
set_option maxRecDepth 100000
set_option linter.unusedVariables false
set_option linter.unusedSimpArgs false

set_option maxHeartbeats 8000000 in
theorem rhap2 (a : Ac) (sol : List So) (dp : Option Addr) (dn dc : Nat) (sp : Option Addr) (sn sc : Nat) (t : Tm) (pt : Option Addr) (lt ct : Nat) (v : Ev) (base : Nat) (w : World) (hx : Has w base (cuA a dp dn dc sp sn sc) ⟨a, sol⟩) (ht : tar.RowD w pt lt t.ts) (htl : lt ≤ maxLen) (hbase : base ≤ w.heap.size) (hkd : v.kd = 2) (hsol : sol.length ≤ 2000000) :
    Calls Try.prog 38 #[.agg #[.slice pt lt ct, .int .i64 t.ff, .int .i64 t.fb, .int .i64 t.db, .int .i64 t.al], .agg #[.int .i64 a.me, .int .i64 a.rv, .int .i64 a.nx, .int .i64 a.mo, .int .i64 a.bo, .int .i64 a.fr, .slice dp dn dc, .slice sp sn sc], .agg #[.int .i64 v.kd, .int .i64 v.me, .int .i64 v.mo, .int .i64 v.id, .int .i64 v.te, .int .i64 v.de, .int .i64 v.fe, .int .i64 v.pr, .int .i64 v.ch, .int .i64 v.un, .int .i64 v.tg, .int .i64 v.ow, .int .i64 v.bp]] w fun e w' => HapPost w base t (cuA a dp dn dc sp sn sc) ⟨a, sol⟩ v e w' := by
  have n2 : (v.kd == 2) = true := by rw [hkd]; rfl
  have n3 : (v.kd == 3) = false := by rw [hkd]; rfl
  have n4 : (v.kd == 4) = false := by rw [hkd]; rfl
  have n5 : (v.kd == 5) = false := by rw [hkd]; rfl
  have HKD : Hid (v.kd = 2) := hkd
  have HK5 : Hid (v.kd ≠ 5) := by show v.kd ≠ 5; rw [hkd]; decide
  clear hkd
  have HB0 : Hid (Below w.heap.size w w) := Below.refl _ _
  have HH : Hid (Has w base (cuA a dp dn dc sp sn sc) ⟨a, sol⟩) := hx
  have HBS : Hid (base ≤ w.heap.size) := hbase
  have HOWN : Hid (∀ k, (Value.slice sp sn sc).ownBlock = some k → k < w.heap.size) := fun k hk => (World.ownsRow.lt hx.so k hk).2
  have HCA : Hid (∀ W, Below w.heap.size w W → Calls Try.prog 56 #[.agg #[.int .i64 a.me, .int .i64 a.rv, .int .i64 a.nx, .int .i64 a.mo, .int .i64 a.bo, .int .i64 a.fr, .slice dp dn dc], .agg #[.slice pt lt ct, .int .i64 t.ff, .int .i64 t.fb, .int .i64 t.db, .int .i64 t.al], .int .i64 v.te, .int .i64 v.mo] W fun e w' => BPost W (SellIs a t v.te v.mo) e w') := fun W hB => acc.rsold a dp dn dc t pt lt ct v.te v.mo W (hx.ds.came.below hB).row hx.ds.came.most (ht.below hB) htl
  clear hx ht htl hbase
  obtain ⟨W0, HWW, Ht4, Qx, Qv, Qr, HB4, hz0⟩ := sh4 w #[.slice pt lt ct, .int .i64 t.ff, .int .i64 t.fb, .int .i64 t.db, .int .i64 t.al] 40 #[.int .i64 a.me, .int .i64 a.rv, .int .i64 a.nx, .int .i64 a.mo, .int .i64 a.bo, .int .i64 a.fr, .slice dp dn dc, .slice sp sn sc] 58 #[.int .i64 v.kd, .int .i64 v.me, .int .i64 v.mo, .int .i64 v.id, .int .i64 v.te, .int .i64 v.de, .int .i64 v.fe, .int .i64 v.pr, .int .i64 v.ch, .int .i64 v.un, .int .i64 v.tg, .int .i64 v.ow, .int .i64 v.bp] 27 #[.int .i64 0, .int .i64 0, .int .i64 0, .int .i64 0, .int .i64 0, .int .i64 0, .slice none 0 0, .slice none 0 0] 58
  go_enter Try.func38, Try.ntmps38
  go_upto_region 1 with fail
  rw [HWW.out]
  clear HWW
  have HS0 : Hid (w.heap.size + 1 + 1 + 1 < W0.heap.size) := hz0
  clear hz0
  have kx0 : W0.cell? ⟨w.heap.size + 1, 0, none⟩ = some (.int .i64 a.me) := Qx.out.cell 0
  have kx1 : W0.cell? ⟨w.heap.size + 1, 1, none⟩ = some (.int .i64 a.rv) := Qx.out.cell 1
  have kx2 : W0.cell? ⟨w.heap.size + 1, 2, none⟩ = some (.int .i64 a.nx) := Qx.out.cell 2
  have kx3 : W0.cell? ⟨w.heap.size + 1, 3, none⟩ = some (.int .i64 a.mo) := Qx.out.cell 3
  have kx4 : W0.cell? ⟨w.heap.size + 1, 4, none⟩ = some (.int .i64 a.bo) := Qx.out.cell 4
  have kx5 : W0.cell? ⟨w.heap.size + 1, 5, none⟩ = some (.int .i64 a.fr) := Qx.out.cell 5
  have kx6 : W0.cell? ⟨w.heap.size + 1, 6, none⟩ = some (.slice dp dn dc) := Qx.out.cell 6
  have kx7 : W0.cell? ⟨w.heap.size + 1, 7, none⟩ = some (.slice sp sn sc) := Qx.out.cell 7
  have kv0 : W0.cell? ⟨w.heap.size + 1 + 1, 0, none⟩ = some (.int .i64 v.kd) := Qv.out.cell 0
  have kv1 : W0.cell? ⟨w.heap.size + 1 + 1, 1, none⟩ = some (.int .i64 v.me) := Qv.out.cell 1
  have kv2 : W0.cell? ⟨w.heap.size + 1 + 1, 2, none⟩ = some (.int .i64 v.mo) := Qv.out.cell 2
  have kv3 : W0.cell? ⟨w.heap.size + 1 + 1, 3, none⟩ = some (.int .i64 v.id) := Qv.out.cell 3
  have kv4 : W0.cell? ⟨w.heap.size + 1 + 1, 4, none⟩ = some (.int .i64 v.te) := Qv.out.cell 4
  have kv5 : W0.cell? ⟨w.heap.size + 1 + 1, 5, none⟩ = some (.int .i64 v.de) := Qv.out.cell 5
  have kv6 : W0.cell? ⟨w.heap.size + 1 + 1, 6, none⟩ = some (.int .i64 v.fe) := Qv.out.cell 6
  have kv7 : W0.cell? ⟨w.heap.size + 1 + 1, 7, none⟩ = some (.int .i64 v.pr) := Qv.out.cell 7
  have kv8 : W0.cell? ⟨w.heap.size + 1 + 1, 8, none⟩ = some (.int .i64 v.ch) := Qv.out.cell 8
  have kv9 : W0.cell? ⟨w.heap.size + 1 + 1, 9, none⟩ = some (.int .i64 v.un) := Qv.out.cell 9
  have kv10 : W0.cell? ⟨w.heap.size + 1 + 1, 10, none⟩ = some (.int .i64 v.tg) := Qv.out.cell 10
  have kv11 : W0.cell? ⟨w.heap.size + 1 + 1, 11, none⟩ = some (.int .i64 v.ow) := Qv.out.cell 11
  have kv12 : W0.cell? ⟨w.heap.size + 1 + 1, 12, none⟩ = some (.int .i64 v.bp) := Qv.out.cell 12
  obtain ⟨W1, HWV, Hs5, Qa, Qb, HBX, hz1⟩ := sh3 W0 #[.int .i64 v.id, .int .i64 0, .int .i64 v.un, .int .i64 v.tg, .int .i64 a.rv] 103 #[.int .i64 0, .int .i64 0, .int .i64 0, .int .i64 0, .int .i64 0, .int .i64 0, .slice none 0 0] 55 #[.int .i64 0, .int .i64 0, .int .i64 0, .int .i64 0, .int .i64 0, .int .i64 0, .int .i64 0] 23
  have Ht5 := shN Ht4 HBX.out
  have Hx5 := shN Qx HBX.out
  have Hv5 := shN Qv HBX.out
  have Hr5 := shN Qr HBX.out
  have HB5 := shB HB4 HBX.out
  have HS5 : Hid (W0.heap.size + 1 + 1 < W1.heap.size) := hz1
  clear hz1 HBX
  go_upto_region 8 with fail
  rw [HWV.out]
  clear HWV
  clear kx0 kx1 kx2 kx3 kx4 kx5 kx6 kx7 kv0 kv1 kv2 kv3 kv4 kv5 kv6 kv7 kv8 kv9 kv10 kv11 kv12
  generalize W0.heap.size = gs at *
  have kt0 : W1.cell? ⟨w.heap.size, 0, none⟩ = some (.slice pt lt ct) := Ht5.out.cell 0
  have kt1 : W1.cell? ⟨w.heap.size, 1, none⟩ = some (.int .i64 t.ff) := Ht5.out.cell 1
  have kt2 : W1.cell? ⟨w.heap.size, 2, none⟩ = some (.int .i64 t.fb) := Ht5.out.cell 2
  have kt3 : W1.cell? ⟨w.heap.size, 3, none⟩ = some (.int .i64 t.db) := Ht5.out.cell 3
  have kt4 : W1.cell? ⟨w.heap.size, 4, none⟩ = some (.int .i64 t.al) := Ht5.out.cell 4
  have kx0 : W1.cell? ⟨w.heap.size + 1, 0, none⟩ = some (.int .i64 a.me) := Hx5.out.cell 0
  have kx1 : W1.cell? ⟨w.heap.size + 1, 1, none⟩ = some (.int .i64 a.rv) := Hx5.out.cell 1
  have kx2 : W1.cell? ⟨w.heap.size + 1, 2, none⟩ = some (.int .i64 a.nx) := Hx5.out.cell 2
  have kx3 : W1.cell? ⟨w.heap.size + 1, 3, none⟩ = some (.int .i64 a.mo) := Hx5.out.cell 3
  have kx4 : W1.cell? ⟨w.heap.size + 1, 4, none⟩ = some (.int .i64 a.bo) := Hx5.out.cell 4
  have kx5 : W1.cell? ⟨w.heap.size + 1, 5, none⟩ = some (.int .i64 a.fr) := Hx5.out.cell 5
  have kx6 : W1.cell? ⟨w.heap.size + 1, 6, none⟩ = some (.slice dp dn dc) := Hx5.out.cell 6
  have kx7 : W1.cell? ⟨w.heap.size + 1, 7, none⟩ = some (.slice sp sn sc) := Hx5.out.cell 7
  have kv0 : W1.cell? ⟨w.heap.size + 1 + 1, 0, none⟩ = some (.int .i64 v.kd) := Hv5.out.cell 0
  have kv1 : W1.cell? ⟨w.heap.size + 1 + 1, 1, none⟩ = some (.int .i64 v.me) := Hv5.out.cell 1
  have kv2 : W1.cell? ⟨w.heap.size + 1 + 1, 2, none⟩ = some (.int .i64 v.mo) := Hv5.out.cell 2
  have kv3 : W1.cell? ⟨w.heap.size + 1 + 1, 3, none⟩ = some (.int .i64 v.id) := Hv5.out.cell 3
  have kv4 : W1.cell? ⟨w.heap.size + 1 + 1, 4, none⟩ = some (.int .i64 v.te) := Hv5.out.cell 4
  have kv5 : W1.cell? ⟨w.heap.size + 1 + 1, 5, none⟩ = some (.int .i64 v.de) := Hv5.out.cell 5
  have kv6 : W1.cell? ⟨w.heap.size + 1 + 1, 6, none⟩ = some (.int .i64 v.fe) := Hv5.out.cell 6
  have kv7 : W1.cell? ⟨w.heap.size + 1 + 1, 7, none⟩ = some (.int .i64 v.pr) := Hv5.out.cell 7
  have kv8 : W1.cell? ⟨w.heap.size + 1 + 1, 8, none⟩ = some (.int .i64 v.ch) := Hv5.out.cell 8
  have kv9 : W1.cell? ⟨w.heap.size + 1 + 1, 9, none⟩ = some (.int .i64 v.un) := Hv5.out.cell 9
  have kv10 : W1.cell? ⟨w.heap.size + 1 + 1, 10, none⟩ = some (.int .i64 v.tg) := Hv5.out.cell 10
  have kv11 : W1.cell? ⟨w.heap.size + 1 + 1, 11, none⟩ = some (.int .i64 v.ow) := Hv5.out.cell 11
  have kv12 : W1.cell? ⟨w.heap.size + 1 + 1, 12, none⟩ = some (.int .i64 v.bp) := Hv5.out.cell 12
  have HC1 : Hid (Calls Try.prog 56 #[.agg #[.int .i64 a.me, .int .i64 a.rv, .int .i64 a.nx, .int .i64 a.mo, .int .i64 a.bo, .int .i64 a.fr, .slice dp dn dc], .agg #[.slice pt lt ct, .int .i64 t.ff, .int .i64 t.fb, .int .i64 t.db, .int .i64 t.al], .int .i64 v.te, .int .i64 v.mo] W1 fun e w' => BPost W1 (SellIs a t v.te v.mo) e w') := HCA.out W1 HB5.out
  clear HCA
  go_wp2_with fail
  refine HC1.out.mono ?_
  rintro e w2 ⟨b, l, pb, lb, cb, f, rfl, hi, hf, hb2⟩
  have HI : Hid (SellIs a t v.te v.mo b l f) := hi
  have Ht6 := shN Ht5 hb2
  have Hx6 := shN Hx5 hb2
  have Hv6 := shN Hv5 hb2
  have Hr6 := shN Hr5 hb2
  have Hs6 := shN Hs5 hb2
  have Ha6 := shN Qa hb2
  have Hb6 := shN Qb hb2
  have HB6 := shB HB5 hb2
  have HF2 : Hid (deb.Fresh w2 W1.heap.size pb lb cb b.ds) := hf
  have HW1 : Hid (W1.heap.size ≤ w2.heap.size) := hb2.size
  clear hb2 hf hi HC1 kt0 kt1 kt2 kt3 kt4 kx0 kx1 kx2 kx3 kx4 kx5 kx6 kx7 kv0 kv1 kv2 kv3 kv4 kv5 kv6 kv7 kv8 kv9 kv10 kv11 kv12
  unfold acc.Ac.v acc.Ac.cs acc.Bi.v
  obtain ⟨kt0, kt1, kt2, kt3, kt4⟩ := scl5 Ht6
  obtain ⟨kx0, kx1, kx2, kx3, kx4, kx5, kx6, kx7⟩ := scl8 Hx6
  obtain ⟨kv0, kv1, kv2, kv3, kv4, kv5, kv6, kv7, kv8, kv9, kv10, kv11, kv12⟩ := scl13 Hv6
  obtain ⟨ks0, ks1, ks2, ks3, ks4⟩ := scl5 Hs6
  go_wp2_with (first | (refine wp_letAll rfl 55 _ _ rfl _ rfl _ rfl (by kernel_rfl) (by simp [Value.oneCell']) _ 55 Ha6.out rfl ?_) | fail)
  intro w3 hU
  have Ht7 : Hid (Blk w3 (w.heap.size) #[.slice pt lt ct, .int .i64 t.ff, .int .i64 t.fb, .int .i64 t.db, .int .i64 t.al] 40) := hU.keep Ht6.out (by have := HS0.out; omega)
  have Hx7 : Hid (Blk w3 (w.heap.size + 1) #[.int .i64 a.me, .int .i64 a.rv, .int .i64 a.nx, .int .i64 a.mo, .int .i64 a.bo, .int .i64 a.fr, .slice dp dn dc, .slice sp sn sc] 58) := hU.keep Hx6.out (by have := HS0.out; omega)
  have Hv7 : Hid (Blk w3 (w.heap.size + 1 + 1) #[.int .i64 v.kd, .int .i64 v.me, .int .i64 v.mo, .int .i64 v.id, .int .i64 v.te, .int .i64 v.de, .int .i64 v.fe, .int .i64 v.pr, .int .i64 v.ch, .int .i64 v.un, .int .i64 v.tg, .int .i64 v.ow, .int .i64 v.bp] 27) := hU.keep Hv6.out (by have := HS0.out; omega)
  have Hr7 : Hid (Blk w3 (w.heap.size + 1 + 1 + 1) #[.int .i64 0, .int .i64 0, .int .i64 0, .int .i64 0, .int .i64 0, .int .i64 0, .slice none 0 0, .slice none 0 0] 58) := hU.keep Hr6.out (by have := HS0.out; omega)
  have Hs7 : Hid (Blk w3 (gs) #[.int .i64 v.id, .int .i64 0, .int .i64 v.un, .int .i64 v.tg, .int .i64 a.rv] 103) := hU.keep Hs6.out (by have := HS0.out; omega)
  have Ha7 : Hid (Blk w3 (gs + 1) #[.int .i64 b.me, .int .i64 b.rv, .int .i64 b.nx, .int .i64 b.mo, .int .i64 b.bo, .int .i64 b.fr, .slice pb lb cb] 55) := hU.blk
  have Hb7 : Hid (Blk w3 (gs + 1 + 1) #[.int .i64 0, .int .i64 0, .int .i64 0, .int .i64 0, .int .i64 0, .int .i64 0, .int .i64 0] 23) := hU.keep Hb6.out (by have := HS0.out; omega)
  have HB7 : Hid (Below w.heap.size w w3) := hU.bel _ _ (by have := HS0.out; omega) HB6.out
  have HF3 : Hid (deb.Fresh w3 W1.heap.size pb lb cb b.ds) := ⟨acc_upd HF2.out.came hU (fun hn y hy q => by have h1 := HF2.out.new hn y hy; have h2 := HS5.out; omega), HF2.out.new⟩
  have HW3 : Hid (w2.heap.size = w3.heap.size) := hU.size.symm
  clear hU kt0 kt1 kt2 kt3 kt4 kx0 kx1 kx2 kx3 kx4 kx5 kx6 kx7 kv0 kv1 kv2 kv3 kv4 kv5 kv6 kv7 kv8 kv9 kv10 kv11 kv12 ks0 ks1 ks2 ks3 ks4
  obtain ⟨kt0, kt1, kt2, kt3, kt4⟩ := scl5 Ht7
  obtain ⟨kx0, kx1, kx2, kx3, kx4, kx5, kx6, kx7⟩ := scl8 Hx7
  obtain ⟨kv0, kv1, kv2, kv3, kv4, kv5, kv6, kv7, kv8, kv9, kv10, kv11, kv12⟩ := scl13 Hv7
  obtain ⟨ks0, ks1, ks2, ks3, ks4⟩ := scl5 Hs7
  go_wp2_with (first | (refine wp_letAll rfl 23 _ _ rfl _ rfl _ rfl (by kernel_rfl) (by simp [Value.oneCell']) _ 23 Hb7.out rfl ?_) | fail)
  intro w4 hU
  have Ht8 : Hid (Blk w4 (w.heap.size) #[.slice pt lt ct, .int .i64 t.ff, .int .i64 t.fb, .int .i64 t.db, .int .i64 t.al] 40) := hU.keep Ht7.out (by have := HS0.out; omega)
  have Hx8 : Hid (Blk w4 (w.heap.size + 1) #[.int .i64 a.me, .int .i64 a.rv, .int .i64 a.nx, .int .i64 a.mo, .int .i64 a.bo, .int .i64 a.fr, .slice dp dn dc, .slice sp sn sc] 58) := hU.keep Hx7.out (by have := HS0.out; omega)
  have Hv8 : Hid (Blk w4 (w.heap.size + 1 + 1) #[.int .i64 v.kd, .int .i64 v.me, .int .i64 v.mo, .int .i64 v.id, .int .i64 v.te, .int .i64 v.de, .int .i64 v.fe, .int .i64 v.pr, .int .i64 v.ch, .int .i64 v.un, .int .i64 v.tg, .int .i64 v.ow, .int .i64 v.bp] 27) := hU.keep Hv7.out (by have := HS0.out; omega)
  have Hr8 : Hid (Blk w4 (w.heap.size + 1 + 1 + 1) #[.int .i64 0, .int .i64 0, .int .i64 0, .int .i64 0, .int .i64 0, .int .i64 0, .slice none 0 0, .slice none 0 0] 58) := hU.keep Hr7.out (by have := HS0.out; omega)
  have Hs8 : Hid (Blk w4 (gs) #[.int .i64 v.id, .int .i64 0, .int .i64 v.un, .int .i64 v.tg, .int .i64 a.rv] 103) := hU.keep Hs7.out (by have := HS0.out; omega)
  have Ha8 : Hid (Blk w4 (gs + 1) #[.int .i64 b.me, .int .i64 b.rv, .int .i64 b.nx, .int .i64 b.mo, .int .i64 b.bo, .int .i64 b.fr, .slice pb lb cb] 55) := hU.keep Ha7.out (by have := HS0.out; omega)
  have Hb8 : Hid (Blk w4 (gs + 1 + 1) #[.int .i64 l.id, .int .i64 l.te, .int .i64 l.de, .int .i64 l.fe, .int .i64 l.pr, .int .i64 l.ch, .int .i64 l.un] 23) := hU.blk
  have HB8 : Hid (Below w.heap.size w w4) := hU.bel _ _ (by have := HS0.out; omega) HB7.out
  have HF4 : Hid (deb.Fresh w4 W1.heap.size pb lb cb b.ds) := ⟨acc_upd HF3.out.came hU (fun hn y hy q => by have h1 := HF3.out.new hn y hy; have h2 := HS5.out; omega), HF3.out.new⟩
  have HW4 : Hid (w3.heap.size = w4.heap.size) := hU.size.symm
  clear hU kt0 kt1 kt2 kt3 kt4 kx0 kx1 kx2 kx3 kx4 kx5 kx6 kx7 kv0 kv1 kv2 kv3 kv4 kv5 kv6 kv7 kv8 kv9 kv10 kv11 kv12 ks0 ks1 ks2 ks3 ks4
  have HW1w : Hid (w.heap.size ≤ W1.heap.size) := by have h1 := HS5.out; have h2 := HS0.out; show _ ≤ _; omega
  have HSZ : Hid (W1.heap.size ≤ w4.heap.size) := by show _ ≤ _; have := HW1.out; have := HW3.out; have := HW4.out; omega
  by_cases hfz : f = 0
  · have HFZ : Hid (f = 0) := hfz
    have nf : (f != 0) = false := by simpa using hfz
    clear hfz
    by_cases hlb : l = billOf v
    · have HLB : Hid (l = billOf v) := hlb
      have qe : ∀ wz : World, (Op.equalIn 10000 23 (.agg #[.int .i64 l.id, .int .i64 l.te, .int .i64 l.de, .int .i64 l.fe, .int .i64 l.pr, .int .i64 l.ch, .int .i64 l.un]) (.agg #[.int .i64 v.id, .int .i64 v.te, .int .i64 v.de, .int .i64 v.fe, .int .i64 v.pr, .int .i64 v.ch, .int .i64 v.un])).run Try.prog wz = .ok true wz := fun wz => by rw [hlb, show (10000 : Nat) = 9998 + 2 from rfl, eqBi]; unfold billOf; simp
      clear hlb
      obtain ⟨kt0, kt1, kt2, kt3, kt4⟩ := scl5 Ht8
      obtain ⟨kx0, kx1, kx2, kx3, kx4, kx5, kx6, kx7⟩ := scl8 Hx8
      obtain ⟨kv0, kv1, kv2, kv3, kv4, kv5, kv6, kv7, kv8, kv9, kv10, kv11, kv12⟩ := scl13 Hv8
      obtain ⟨kb0, kb1, kb2, kb3, kb4, kb5, kb6⟩ := scl7 Hb8
      go_upto_region 20 with fail
      clear kt0 kt1 kt2 kt3 kt4 kx0 kx1 kx2 kx3 kx4 kx5 kx6 kx7 kv0 kv1 kv2 kv3 kv4 kv5 kv6 kv7 kv8 kv9 kv10 kv11 kv12 kb0 kb1 kb2 kb3 kb4 kb5 kb6
      have HSD : Hid ((fun u : World => Blk u (gs + 1) #[.int .i64 b.me, .int .i64 b.rv, .int .i64 b.nx, .int .i64 b.mo, .int .i64 b.bo, .int .i64 b.fr, .slice pb lb cb] 55 ∧ Blk u (w.heap.size + 1) #[.int .i64 a.me, .int .i64 a.rv, .int .i64 a.nx, .int .i64 a.mo, .int .i64 a.bo, .int .i64 a.fr, .slice dp dn dc, .slice sp sn sc] 58 ∧ Blk u gs #[.int .i64 v.id, .int .i64 0, .int .i64 v.un, .int .i64 v.tg, .int .i64 a.rv] 103) w4.drew) := ⟨Ha8.out, Hx8.out, Hs8.out⟩
      refine wp_region_held_drew (S := (fun u : World => Blk u (gs + 1) #[.int .i64 b.me, .int .i64 b.rv, .int .i64 b.nx, .int .i64 b.mo, .int .i64 b.bo, .int .i64 b.fr, .slice pb lb cb] 55 ∧ Blk u (w.heap.size + 1) #[.int .i64 a.me, .int .i64 a.rv, .int .i64 a.nx, .int .i64 a.mo, .int .i64 a.bo, .int .i64 a.fr, .slice dp dn dc, .slice sp sn sc] 58 ∧ Blk u gs #[.int .i64 v.id, .int .i64 0, .int .i64 v.un, .int .i64 v.tg, .int .i64 a.rv] 103)) (by kernel_rfl) HSD.out (fun hHeld => ?_)
      refine take_at 0 96 (.agg #[.int .i64 b.me, .int .i64 b.rv, .int .i64 b.nx, .int .i64 b.mo, .int .i64 b.bo, .int .i64 b.fr, .slice pb lb cb]) _ rfl rfl (by kernel_rfl) (by kernel_rfl) (by kernel_rfl) (fun _ _ _ h => h) (yieldsIf_whole (by rfl) 55 _ rfl (gs + 1) rfl 55 #[.int .i64 b.me, .int .i64 b.rv, .int .i64 b.nx, .int .i64 b.mo, .int .i64 b.bo, .int .i64 b.fr, .slice pb lb cb] _ (fun u hu => hu.1) Try.underlying55 rfl (by kernel_rfl)) hHeld ?_
      simp only [Act.put, List.setIfInBounds_toArray, List.set_cons_zero, List.set_cons_succ]
      refine take_at 1 97 (.pointer (some ⟨w.heap.size + 1, 7, none⟩)) _ rfl rfl (by kernel_rfl) (by kernel_rfl) (by kernel_rfl) (fun _ _ _ h => h) (Or.inl ⟨by rfl, fun v hv => by clear hv; go_simp⟩) hHeld ?_
      simp only [Act.put, List.setIfInBounds_toArray, List.set_cons_zero, List.set_cons_succ]
      refine take_at 2 98 (.slice sp sn sc) _ rfl rfl (by kernel_rfl) (by kernel_rfl) (by kernel_rfl) (fun _ _ _ h => h) (Or.inl ⟨by rfl, fun v hv => by have h2 := hv.2.1.cell 7; clear hv; go_simp⟩) hHeld ?_
      simp only [Act.put, List.setIfInBounds_toArray, List.set_cons_zero, List.set_cons_succ]
      refine take_at 3 99 (.agg #[.int .i64 v.id, .int .i64 0, .int .i64 v.un, .int .i64 v.tg, .int .i64 a.rv]) _ rfl rfl (by kernel_rfl) (by kernel_rfl) (by kernel_rfl) (fun _ _ _ h => h) (yieldsIf_whole (by rfl) 103 _ rfl (gs) rfl 103 #[.int .i64 v.id, .int .i64 0, .int .i64 v.un, .int .i64 v.tg, .int .i64 a.rv] _ (fun u hu => hu.2.2) Try.underlying103 rfl (by kernel_rfl)) hHeld ?_
      simp only [Act.put, List.setIfInBounds_toArray, List.set_cons_zero, List.set_cons_succ]
      have HA0 : Hid (Blk w4.drew (gs + 1) #[.int .i64 b.me, .int .i64 b.rv, .int .i64 b.nx, .int .i64 b.mo, .int .i64 b.bo, .int .i64 b.fr, .slice pb lb cb] 55 ∧ Blk w4.drew (w.heap.size + 1) #[.int .i64 a.me, .int .i64 a.rv, .int .i64 a.nx, .int .i64 a.mo, .int .i64 a.bo, .int .i64 a.fr, .slice dp dn dc, .slice sp sn sc] 58 ∧ Blk w4.drew gs #[.int .i64 v.id, .int .i64 0, .int .i64 v.un, .int .i64 v.tg, .int .i64 a.rv] 103) := HSD.out
      have HR0 : Hid (Blk w4.drew (w.heap.size + 1 + 1 + 1) #[.int .i64 0, .int .i64 0, .int .i64 0, .int .i64 0, .int .i64 0, .int .i64 0, .slice none 0 0, .slice none 0 0] 58) := Hr8.out
      have HB0d : Hid (Below w.heap.size w w4.drew) := HB8.out.drew
      have HF0 : Hid (deb.Fresh w4.drew W1.heap.size pb lb cb b.ds) := drew_fresh HF4.out
      have HSU : Hid (W1.heap.size ≤ w4.drew.heap.size) := HSZ.out
      have HL0 : Hid (Lo w4.drew base (.slice sp sn sc) sol) := HH.out.so.next HB0d.out
      clear HSD
      generalize w4.drew = U at *
      refine wpAnyH_ready (rs := [4]) (by kernel_rfl) (by simp) (AllReadyH.cons rfl (fun K hK => ?_) AllReadyH.nil)
      rw [if_pos (by rfl)]
      have HAA : Hid (Blk (U.alloc (.cells #[.int .i64 v.id, .int .i64 0, .int .i64 v.un, .int .i64 v.tg, .int .i64 a.rv] 103)) (gs + 1) #[.int .i64 b.me, .int .i64 b.rv, .int .i64 b.nx, .int .i64 b.mo, .int .i64 b.bo, .int .i64 b.fr, .slice pb lb cb] 55 ∧ Blk (U.alloc (.cells #[.int .i64 v.id, .int .i64 0, .int .i64 v.un, .int .i64 v.tg, .int .i64 a.rv] 103)) (w.heap.size + 1) #[.int .i64 a.me, .int .i64 a.rv, .int .i64 a.nx, .int .i64 a.mo, .int .i64 a.bo, .int .i64 a.fr, .slice dp dn dc, .slice sp sn sc] 58 ∧ Blk (U.alloc (.cells #[.int .i64 v.id, .int .i64 0, .int .i64 v.un, .int .i64 v.tg, .int .i64 a.rv] 103)) gs #[.int .i64 v.id, .int .i64 0, .int .i64 v.un, .int .i64 v.tg, .int .i64 a.rv] 103) := ⟨HA0.out.1.alloc _, HA0.out.2.1.alloc _, HA0.out.2.2.alloc _⟩
      have HRA : Hid (Blk (U.alloc (.cells #[.int .i64 v.id, .int .i64 0, .int .i64 v.un, .int .i64 v.tg, .int .i64 a.rv] 103)) (w.heap.size + 1 + 1 + 1) #[.int .i64 0, .int .i64 0, .int .i64 0, .int .i64 0, .int .i64 0, .int .i64 0, .slice none 0 0, .slice none 0 0] 58) := HR0.out.alloc _
      have HBA : Hid (Below w.heap.size w (U.alloc (.cells #[.int .i64 v.id, .int .i64 0, .int .i64 v.un, .int .i64 v.tg, .int .i64 a.rv] 103))) := HB0d.out.alloc HB0d.out.size _
      have HFA : Hid (deb.Fresh (U.alloc (.cells #[.int .i64 v.id, .int .i64 0, .int .i64 v.un, .int .i64 v.tg, .int .i64 a.rv] 103)) W1.heap.size pb lb cb b.ds) := HF0.out.below ((Below.refl _ _).alloc (Nat.le_refl _) _)
      have HLA : Hid (Lo (U.alloc (.cells #[.int .i64 v.id, .int .i64 0, .int .i64 v.un, .int .i64 v.tg, .int .i64 a.rv] 103)) base (.slice sp sn sc) sol) := HL0.out.alloc _
      have HNA : Hid (Blk (U.alloc (.cells #[.int .i64 v.id, .int .i64 0, .int .i64 v.un, .int .i64 v.tg, .int .i64 a.rv] 103)) U.heap.size #[.int .i64 v.id, .int .i64 0, .int .i64 v.un, .int .i64 v.tg, .int .i64 a.rv] 103) := Blk.new _ _ _
      have HSA : Hid (W1.heap.size ≤ (U.alloc (.cells #[.int .i64 v.id, .int .i64 0, .int .i64 v.un, .int .i64 v.tg, .int .i64 a.rv] 103)).heap.size) := cell.alloc_le HSU.out _
      refine wp_runOp (v := .slice (some ⟨U.heap.size, 0, none⟩) 1 1) (w' := (U.alloc (.cells #[.int .i64 v.id, .int .i64 0, .int .i64 v.un, .int .i64 v.tg, .int .i64 a.rv] 103))) 100 rfl (by clear hK; go_simp) ?_
      refine hK.out _ _ HAA.out (fun hHeld => ?_)
      clear hK HA0 HR0 HB0d HF0 HL0 HSU
      simp only [Act.put, List.setIfInBounds_toArray, List.set_cons_zero, List.set_cons_succ]
      generalize U.heap.size = gn at *
      generalize U.alloc _ = U2 at *
      refine wpAnyH_ready (rs := [5]) (by kernel_rfl) (by simp) (AllReadyH.cons rfl (fun K hK => ?_) AllReadyH.nil)
      rw [if_pos (by rfl)]
      have HRL : Hid (w.heap.size + 1 + 1 + 1 < U2.heap.size) := HRA.out.lt
      refine step_sold 101 rfl _ _ rfl base gn _ sol ⟨v.id, 0, v.un, v.tg, a.rv⟩ rfl rfl HLA.out HNA.out hsol (Nat.le_trans HBS.out HBA.out.size) ?_
      intro v3 w9 h3 hg3 ho3
      obtain ⟨p3, c3, rfl, _, _, _⟩ := h3.row
      have hown : ∀ g, w.heap.size ≤ g → some g ≠ (Value.slice sp sn sc).ownBlock := fun g hg q => by have := HOWN.out g q.symm; omega
      have hk9 : ∀ g cs ty, w.heap.size ≤ g → Blk U2 g cs ty → Blk w9 g cs ty := fun g cs ty hg hb => by show w9.heap[g]? = _; rw [hg3.block g hb.lt (hown g hg)]; exact hb
      have HA9 : Hid (Blk w9 (gs + 1) #[.int .i64 b.me, .int .i64 b.rv, .int .i64 b.nx, .int .i64 b.mo, .int .i64 b.bo, .int .i64 b.fr, .slice pb lb cb] 55 ∧ Blk w9 (w.heap.size + 1) #[.int .i64 a.me, .int .i64 a.rv, .int .i64 a.nx, .int .i64 a.mo, .int .i64 a.bo, .int .i64 a.fr, .slice dp dn dc, .slice sp sn sc] 58 ∧ Blk w9 gs #[.int .i64 v.id, .int .i64 0, .int .i64 v.un, .int .i64 v.tg, .int .i64 a.rv] 103) := ⟨hk9 _ _ _ (by have := HS0.out; omega) HAA.out.1, hk9 _ _ _ (by omega) HAA.out.2.1, hk9 _ _ _ (by have := HS0.out; omega) HAA.out.2.2⟩
      have HR9 : Hid (Blk w9 (w.heap.size + 1 + 1 + 1) #[.int .i64 0, .int .i64 0, .int .i64 0, .int .i64 0, .int .i64 0, .int .i64 0, .slice none 0 0, .slice none 0 0] 58) := hk9 _ _ _ (by omega) HRA.out
      have HG9 : Hid (w.grownBy w9 (Value.slice sp sn sc).ownBlock) := (grown_of HBA.out _).trans hg3
      have HF9 : Hid (tar.Came w9 pb lb cb b.ds) := came_grown HFA.out.came hg3 (fun hn y hy => hown _ (Nat.le_trans HW1w.out (HFA.out.new hn y hy)))
      have HFN : Hid (0 < lb → ∀ y, pb = some y → W1.heap.size ≤ y.block ∧ y.block < U2.heap.size) := fun hn y hy => ⟨HFA.out.new hn y hy, by obtain ⟨bb, oo, e, lbb, _⟩ := HFA.out.came.row.at hn; rw [hy] at e; rw [Option.some.inj e]; exact lbb⟩
      have HL9 : Hid (Lo w9 base (.slice p3 (sol ++ [(⟨v.id, 0, v.un, v.tg, a.rv⟩ : So)]).length c3) (sol ++ [⟨v.id, 0, v.un, v.tg, a.rv⟩])) := h3
      have HO9 : Hid ((Value.slice p3 (sol ++ [(⟨v.id, 0, v.un, v.tg, a.rv⟩ : So)]).length c3).ownBlock = (Value.slice sp sn sc).ownBlock ∨ (Value.slice p3 (sol ++ [(⟨v.id, 0, v.un, v.tg, a.rv⟩ : So)]).length c3).ownBlock = some U2.heap.size) := ho3
      have HU2 : Hid (w.heap.size ≤ U2.heap.size) := HBA.out.size
      refine hK.out _ _ HA9.out (fun hHeld => ?_)
      clear hK h3 hg3 ho3 hown hk9 HAA HRA HBA HFA HLA HNA HSA
      simp only [Act.put, List.setIfInBounds_toArray, List.set_cons_zero, List.set_cons_succ]
      generalize (sol ++ [(⟨v.id, 0, v.un, v.tg, a.rv⟩ : So)]).length = n3 at *
      refine take_at 6 102 (.agg #[.int .i64 b.me, .int .i64 b.rv, .int .i64 b.nx, .int .i64 b.mo, .int .i64 b.bo, .int .i64 b.fr, .slice pb lb cb, .slice p3 n3 c3]) _ rfl rfl (by kernel_rfl) (by kernel_rfl) (by kernel_rfl) (fun _ _ _ h => h) (Or.inl ⟨by rfl, fun v hv => by clear hv; go_simp⟩) hHeld ?_
      simp only [Act.put, List.setIfInBounds_toArray, List.set_cons_zero, List.set_cons_succ]
      refine wpAnyH_ready (rs := [7]) (by kernel_rfl) (by simp) (AllReadyH.cons rfl (fun K hK => ?_) AllReadyH.nil)
      rw [if_pos (by rfl)]
      refine wp_letOp 58 _ _ rfl (w.heap.size + 1 + 1 + 1) rfl #[.int .i64 b.me, .int .i64 b.rv, .int .i64 b.nx, .int .i64 b.mo, .int .i64 b.bo, .int .i64 b.fr, .slice pb lb cb, .slice p3 n3 c3] rfl (by kernel_rfl) (by simp [Value.oneCell']) #[.int .i64 0, .int .i64 0, .int .i64 0, .int .i64 0, .int .i64 0, .int .i64 0, .slice none 0 0, .slice none 0 0] 58 HR9.out rfl rfl ?_
      intro WF hU
      have HRF : Hid (Blk WF (w.heap.size + 1 + 1 + 1) #[.int .i64 b.me, .int .i64 b.rv, .int .i64 b.nx, .int .i64 b.mo, .int .i64 b.bo, .int .i64 b.fr, .slice pb lb cb, .slice p3 n3 c3] 58) := hU.blk
      have HUF : Hid (Upd w9 WF (w.heap.size + 1 + 1 + 1) #[.int .i64 b.me, .int .i64 b.rv, .int .i64 b.nx, .int .i64 b.mo, .int .i64 b.bo, .int .i64 b.fr, .slice pb lb cb, .slice p3 n3 c3] 58) := hU
      have HAF : Hid (Blk WF (gs + 1) #[.int .i64 b.me, .int .i64 b.rv, .int .i64 b.nx, .int .i64 b.mo, .int .i64 b.bo, .int .i64 b.fr, .slice pb lb cb] 55 ∧ Blk WF (w.heap.size + 1) #[.int .i64 a.me, .int .i64 a.rv, .int .i64 a.nx, .int .i64 a.mo, .int .i64 a.bo, .int .i64 a.fr, .slice dp dn dc, .slice sp sn sc] 58 ∧ Blk WF gs #[.int .i64 v.id, .int .i64 0, .int .i64 v.un, .int .i64 v.tg, .int .i64 a.rv] 103) := ⟨hU.keep HA9.out.1 (by have := HS0.out; omega), hU.keep HA9.out.2.1 (by omega), hU.keep HA9.out.2.2 (by have := HS0.out; omega)⟩
      refine hK.out _ _ HAF.out (fun hHeld => ?_)
      clear hK hU HA9 HR9
      refine take_at 8 7 (.int .i64 0) _ rfl rfl (by kernel_rfl) (by kernel_rfl) (by kernel_rfl) (fun _ _ _ h => h) (Or.inl ⟨by rfl, fun v hv => by clear hv; go_simp⟩) hHeld ?_
      simp only [Act.put, List.setIfInBounds_toArray, List.set_cons_zero, List.set_cons_succ]
      refine wpAnyH_done (by kernel_rfl) ?_ _
      clear hHeld
      have R0 : Hid (WF.cell? ⟨w.heap.size + 1 + 1 + 1, 0, none⟩ = some (.int .i64 b.me)) := HRF.out.cell 0
      have R1 : Hid (WF.cell? ⟨w.heap.size + 1 + 1 + 1, 1, none⟩ = some (.int .i64 b.rv)) := HRF.out.cell 1
      have R2 : Hid (WF.cell? ⟨w.heap.size + 1 + 1 + 1, 2, none⟩ = some (.int .i64 b.nx)) := HRF.out.cell 2
      have R3 : Hid (WF.cell? ⟨w.heap.size + 1 + 1 + 1, 3, none⟩ = some (.int .i64 b.mo)) := HRF.out.cell 3
      have R4 : Hid (WF.cell? ⟨w.heap.size + 1 + 1 + 1, 4, none⟩ = some (.int .i64 b.bo)) := HRF.out.cell 4
      have R5 : Hid (WF.cell? ⟨w.heap.size + 1 + 1 + 1, 5, none⟩ = some (.int .i64 b.fr)) := HRF.out.cell 5
      have R6 : Hid (WF.cell? ⟨w.heap.size + 1 + 1 + 1, 6, none⟩ = some (.slice pb lb cb)) := HRF.out.cell 6
      have R7 : Hid (WF.cell? ⟨w.heap.size + 1 + 1 + 1, 7, none⟩ = some (.slice p3 n3 c3)) := HRF.out.cell 7
      have HFIN : Hid (HapPost w base t (cuA a dp dn dc sp sn sc) ⟨a, sol⟩ v (.returned (.tuple #[.agg #[.int .i64 b.me, .int .i64 b.rv, .int .i64 b.nx, .int .i64 b.mo, .int .i64 b.bo, .int .i64 b.fr, .slice pb lb cb, .slice p3 n3 c3], .int .i64 0])) WF) := by
        have hgf : w.grownBy WF (Value.slice sp sn sc).ownBlock := grown_upd HG9.out HUF.out (by omega)
        have hso : soldOf ⟨a, sol⟩ v = ⟨v.id, 0, v.un, v.tg, a.rv⟩ := by unfold soldOf; rw [if_neg (by rw [HKD.out]; decide)]
        refine ⟨cuA b pb lb cb p3 n3 c3, ⟨b, sol ++ [soldOf ⟨a, sol⟩ v]⟩, 0, rfl, .inr ⟨HK5.out, b, l, f, .inl ⟨HKD.out, HI.out⟩, .inr (.inr ⟨HFZ.out, HLB.out, rfl, rfl⟩)⟩, fun _ => ?_, hgf⟩
        rw [hso]
        refine ⟨hgf, ⟨cuA_num _ _ _ _ _ _ _, ⟨acc_upd HF9.out HUF.out (fun hn y hy q => by have h1 := (HFN.out hn y hy).1; have h2 := HS5.out; have h3 := HS0.out; omega), fun hn y hy => by have h1 := (HFN.out hn y hy).1; have h2 := HW1w.out; have h3 := HBS.out; omega⟩, lo_upd HL9.out HUF.out (fun g hg q => ?_)⟩, fun g hg => ?_, fun hn y hy => Nat.le_trans HW1w.out (HFN.out hn y hy).1, fun g hg hn y hy q => ?_⟩
        · have h0 : (Value.slice p3 n3 c3).ownBlock = some g := hg
          rcases HO9.out with e | e
          · rw [e] at h0; have := HOWN.out g h0; omega
          · rw [e] at h0; have h1 := Option.some.inj h0; have h2 := HRL.out; omega
        · rcases HO9.out with e | e
          · exact .inl (e.symm.trans hg)
          · refine .inr ?_
            have h0 : (Value.slice p3 n3 c3).ownBlock = some g := hg
            rw [e] at h0
            have h1 := Option.some.inj h0
            have h2 := HU2.out
            omega
        · have h0 : (Value.slice p3 n3 c3).ownBlock = some g := hg
          have h1 := HFN.out hn y hy
          rcases HO9.out with e | e
          · rw [e] at h0; have h2 := HOWN.out g h0; have h3 := HW1w.out; omega
          · rw [e] at h0; have h2 := Option.some.inj h0; omega
      go_wp2_with fail
      exact bodyPost_ret (v := .tuple #[.agg #[.int .i64 b.me, .int .i64 b.rv, .int .i64 b.nx, .int .i64 b.mo, .int .i64 b.bo, .int .i64 b.fr, .slice pb lb cb, .slice p3 n3 c3], .int .i64 0]) (by simp [results, Try.results38, R0.out, R1.out, R2.out, R3.out, R4.out, R5.out, R6.out, R7.out, go_sem]) rfl HFIN.out
    · have HLB : Hid (l ≠ billOf v) := hlb
      have qe : ∀ wz : World, (Op.equalIn 10000 23 (.agg #[.int .i64 l.id, .int .i64 l.te, .int .i64 l.de, .int .i64 l.fe, .int .i64 l.pr, .int .i64 l.ch, .int .i64 l.un]) (.agg #[.int .i64 v.id, .int .i64 v.te, .int .i64 v.de, .int .i64 v.fe, .int .i64 v.pr, .int .i64 v.ch, .int .i64 v.un])).run Try.prog wz = .ok false wz := fun wz => by rw [show (10000 : Nat) = 9998 + 2 from rfl, eqBi]; exact congrArg (fun q => Result.ok q wz) (decide_eq_false (bill_ne hlb))
      clear hlb
      have HNZ : Hid (¬ (8 : Int) = 0) := by show ¬ (8 : Int) = 0; decide
      obtain ⟨kt0, kt1, kt2, kt3, kt4⟩ := scl5 Ht8
      obtain ⟨kx0, kx1, kx2, kx3, kx4, kx5, kx6, kx7⟩ := scl8 Hx8
      obtain ⟨kv0, kv1, kv2, kv3, kv4, kv5, kv6, kv7, kv8, kv9, kv10, kv11, kv12⟩ := scl13 Hv8
      obtain ⟨ks0, ks1, ks2, ks3, ks4⟩ := scl5 Hs8
      obtain ⟨kb0, kb1, kb2, kb3, kb4, kb5, kb6⟩ := scl7 Hb8
      go_wp2_with (first | (refine wp_letAll rfl 58 _ _ rfl _ rfl _ rfl (by kernel_rfl) (by simp [Value.oneCell']) _ 58 Hr8.out rfl ?_) | fail)
      intro WF hU
      have HRF : Hid (Blk WF (w.heap.size + 1 + 1 + 1) #[.int .i64 0, .int .i64 0, .int .i64 0, .int .i64 0, .int .i64 0, .int .i64 0, .slice none 0 0, .slice none 0 0] 58) := hU.blk
      have HBF := shV hU HB8 (by omega)
      clear hU kt0 kt1 kt2 kt3 kt4 kx0 kx1 kx2 kx3 kx4 kx5 kx6 kx7 kv0 kv1 kv2 kv3 kv4 kv5 kv6 kv7 kv8 kv9 kv10 kv11 kv12 ks0 ks1 ks2 ks3 ks4 kb0 kb1 kb2 kb3 kb4 kb5 kb6
      obtain ⟨R0, R1, R2, R3, R4, R5, R6, R7⟩ := shc8 HRF
      have HFIN : Hid (HapPost w base t (cuA a dp dn dc sp sn sc) ⟨a, sol⟩ v (.returned (.tuple #[.agg #[.int .i64 0, .int .i64 0, .int .i64 0, .int .i64 0, .int .i64 0, .int .i64 0, .slice none 0 0, .slice none 0 0], .int .i64 8])) WF) := ⟨cu0, cm0, 8, rfl, .inr ⟨HK5.out, b, l, f, .inl ⟨HKD.out, HI.out⟩, .inr (.inl ⟨HFZ.out, HLB.out, rfl⟩)⟩, fun h => absurd h HNZ.out, grown_of HBF.out _⟩
      go_wp2_with fail
      exact bodyPost_ret (v := .tuple #[.agg #[.int .i64 0, .int .i64 0, .int .i64 0, .int .i64 0, .int .i64 0, .int .i64 0, .slice none 0 0, .slice none 0 0], .int .i64 8]) (by simp [results, Try.results38, R0.out, R1.out, R2.out, R3.out, R4.out, R5.out, R6.out, R7.out, go_sem]) rfl HFIN.out
  · have HNZ : Hid (¬ f = 0) := hfz
    have nf : (f != 0) = true := by simpa using hfz
    clear hfz
    obtain ⟨kt0, kt1, kt2, kt3, kt4⟩ := scl5 Ht8
    obtain ⟨kx0, kx1, kx2, kx3, kx4, kx5, kx6, kx7⟩ := scl8 Hx8
    obtain ⟨kv0, kv1, kv2, kv3, kv4, kv5, kv6, kv7, kv8, kv9, kv10, kv11, kv12⟩ := scl13 Hv8
    obtain ⟨ks0, ks1, ks2, ks3, ks4⟩ := scl5 Hs8
    obtain ⟨kb0, kb1, kb2, kb3, kb4, kb5, kb6⟩ := scl7 Hb8
    go_wp2_with (first | (refine wp_letAll rfl 58 _ _ rfl _ rfl _ rfl (by kernel_rfl) (by simp [Value.oneCell']) _ 58 Hr8.out rfl ?_) | fail)
    intro WF hU
    have HRF : Hid (Blk WF (w.heap.size + 1 + 1 + 1) #[.int .i64 0, .int .i64 0, .int .i64 0, .int .i64 0, .int .i64 0, .int .i64 0, .slice none 0 0, .slice none 0 0] 58) := hU.blk
    have HBF := shV hU HB8 (by omega)
    clear hU kt0 kt1 kt2 kt3 kt4 kx0 kx1 kx2 kx3 kx4 kx5 kx6 kx7 kv0 kv1 kv2 kv3 kv4 kv5 kv6 kv7 kv8 kv9 kv10 kv11 kv12 ks0 ks1 ks2 ks3 ks4 kb0 kb1 kb2 kb3 kb4 kb5 kb6
    obtain ⟨R0, R1, R2, R3, R4, R5, R6, R7⟩ := shc8 HRF
    have HFIN : Hid (HapPost w base t (cuA a dp dn dc sp sn sc) ⟨a, sol⟩ v (.returned (.tuple #[.agg #[.int .i64 0, .int .i64 0, .int .i64 0, .int .i64 0, .int .i64 0, .int .i64 0, .slice none 0 0, .slice none 0 0], .int .i64 f])) WF) := ⟨cu0, cm0, f, rfl, .inr ⟨HK5.out, b, l, f, .inl ⟨HKD.out, HI.out⟩, .inl ⟨HNZ.out, rfl⟩⟩, fun h => absurd h HNZ.out, grown_of HBF.out _⟩
    go_wp2_with fail
    exact bodyPost_ret (v := .tuple #[.agg #[.int .i64 0, .int .i64 0, .int .i64 0, .int .i64 0, .int .i64 0, .int .i64 0, .slice none 0 0, .slice none 0 0], .int .i64 f]) (by simp [results, Try.results38, R0.out, R1.out, R2.out, R3.out, R4.out, R5.out, R6.out, R7.out, go_sem]) rfl HFIN.out

end Go.Proofs.Ytfhlokjpdkmdjaa.book

/- An allowance, as the document has it. -/
namespace Go.Proofs.Ytfhlokjpdkmdjaa.acc
open Go.Proofs.Ytfhlokjpdkmdjaa.tar (Du du0 Came RowD Ld PairT)
open Go.RowKit
set_option maxRecDepth 100000
set_option linter.unusedVariables false
set_option linter.unusedSimpArgs false

set_option maxHeartbeats 16000000 in
theorem rgranted (x : Ac) (p : Option Addr) (len cap : Nat) (t : Tm) (pt : Option Addr) (lt ct : Nat) (m : Int) (w : World) (h : RowD w p len x.ds) (hl : len ≤ maxLen) (ht : RowD w pt lt t.ts) (htl : lt ≤ maxLen) : Calls Try.prog 57 #[.agg #[.int .i64 x.me, .int .i64 x.rv, .int .i64 x.nx, .int .i64 x.mo, .int .i64 x.bo, .int .i64 x.fr, .slice p len cap], .agg #[.slice pt lt ct, .int .i64 t.ff, .int .i64 t.fb, .int .i64 t.db, .int .i64 t.al], .int .i64 m] w fun e w' => BPost w (GrantIs x t m) e w' := by
  by_cases hm : AMay x
  · have HM : Hid (AMay x) := hm
    have hnx := hm.2.2.2.1
    have hmo := hm.2.2.2.2.1
    obtain ⟨W0, HWW, H0d, H0t, H0r, H0l, H0B, hs0⟩ := sh4 w #[.int .i64 x.me, .int .i64 x.rv, .int .i64 x.nx, .int .i64 x.mo, .int .i64 x.bo, .int .i64 x.fr, .slice p len cap] 55 #[.slice pt lt ct, .int .i64 t.ff, .int .i64 t.fb, .int .i64 t.db, .int .i64 t.al] 40 #[.int .i64 0, .int .i64 0, .int .i64 0, .int .i64 0, .int .i64 0, .int .i64 0, .slice none 0 0] 55 #[.int .i64 0, .int .i64 0, .int .i64 0, .int .i64 0, .int .i64 0, .int .i64 0, .int .i64 0] 23
    have H0R : Hid (RowD W0 p len x.ds) := h.below H0B.out
    have H0T : Hid (RowD W0 pt lt t.ts) := ht.below H0B.out
    go_enter Try.func57, Try.ntmps57
    go_upto_region 1 with fail
    rw [HWW.out]
    clear HWW
    have HAM : Hid (Calls Try.prog 68 #[.agg #[.int .i64 x.me, .int .i64 x.rv, .int .i64 x.nx, .int .i64 x.mo, .int .i64 x.bo, .int .i64 x.fr, .slice p len cap]] W0 fun e w' => e = .returned (.bool true) ∧ Below W0.heap.size W0 w') := ramay x p len cap _ H0R.out hl hm
    go_wp2_with (first
      | (refine wp_whole rfl 55 _ rfl _ rfl 55 _ _ H0d.out Try.underlying55 rfl (by kernel_rfl) ?_)
      | (refine wp_whole rfl 40 _ rfl _ rfl 40 _ _ H0t.out Try.underlying40 rfl (by kernel_rfl) ?_)
      | (refine wp_whole rfl 55 _ rfl _ rfl 55 _ _ H0r.out Try.underlying55 rfl (by kernel_rfl) ?_)
      | (refine wp_whole rfl 23 _ rfl _ rfl 23 _ _ H0l.out Try.underlying23 rfl (by kernel_rfl) ?_)
      | fail)
    refine HAM.out.mono ?_
    rintro e w1 ⟨rfl, hb1⟩
    have H1d := shN H0d hb1
    have H1t := shN H0t hb1
    have H1r := shN H0r hb1
    have H1l := shN H0l hb1
    have H1R : Hid (RowD w1 p len x.ds) := H0R.out.below hb1
    have H1T : Hid (RowD w1 pt lt t.ts) := H0T.out.below hb1
    have H1B := shB H0B hb1
    have hsw1 : W0.heap.size ≤ w1.heap.size := hb1.size
    clear hb1 H0d H0t H0r H0l H0R H0T H0B
    clear HAM
    clear hm
    have HTF : Hid (Calls Try.prog 36 #[.agg #[.slice pt lt ct, .int .i64 t.ff, .int .i64 t.fb, .int .i64 t.db, .int .i64 t.al]] w1 fun e w' => tar.ErrPost w1 (TFault t) e w') := rterms t pt lt ct w1 H1T.out htl
    go_wp2_with (first
      | (refine wp_whole rfl 55 _ rfl _ rfl 55 _ _ H1d.out Try.underlying55 rfl (by kernel_rfl) ?_)
      | (refine wp_whole rfl 40 _ rfl _ rfl 40 _ _ H1t.out Try.underlying40 rfl (by kernel_rfl) ?_)
      | (refine wp_whole rfl 55 _ rfl _ rfl 55 _ _ H1r.out Try.underlying55 rfl (by kernel_rfl) ?_)
      | (refine wp_whole rfl 23 _ rfl _ rfl 23 _ _ H1l.out Try.underlying23 rfl (by kernel_rfl) ?_)
      | fail)
    refine HTF.out.mono ?_
    rintro e w2 ⟨ft, rfl, hft, hb2⟩
    have H2d := shN H1d hb2
    have H2t := shN H1t hb2
    have H2r := shN H1r hb2
    have H2l := shN H1l hb2
    have H2R : Hid (RowD w2 p len x.ds) := H1R.out.below hb2
    have H2T : Hid (RowD w2 pt lt t.ts) := H1T.out.below hb2
    have H2B := shB H1B hb2
    have hsw2 : w1.heap.size ≤ w2.heap.size := hb2.size
    clear hb2 H1d H1t H1r H1l H1R H1T H1B
    clear HTF
    by_cases h0 : ft = 0
    · subst h0
      have HT : Hid (TRight t) := hft.ok.1 rfl
      clear hft
      have HRO : Hid (Calls Try.prog 70 #[.agg #[.int .i64 x.me, .int .i64 x.rv, .int .i64 x.nx, .int .i64 x.mo, .int .i64 x.bo, .int .i64 x.fr, .slice p len cap], .int .i64 m] w2 fun e w' => APost w2 (RollIs x m) e w') := rrolled x p len cap m w2 H2R.out hl
      go_wp2_with (first
        | (refine wp_whole rfl 55 _ rfl _ rfl 55 _ _ H2d.out Try.underlying55 rfl (by kernel_rfl) ?_)
        | (refine wp_whole rfl 40 _ rfl _ rfl 40 _ _ H2t.out Try.underlying40 rfl (by kernel_rfl) ?_)
        | (refine wp_whole rfl 55 _ rfl _ rfl 55 _ _ H2r.out Try.underlying55 rfl (by kernel_rfl) ?_)
        | (refine wp_whole rfl 23 _ rfl _ rfl 23 _ _ H2l.out Try.underlying23 rfl (by kernel_rfl) ?_)
        | fail)
      refine HRO.out.mono ?_
      rintro e w3 ⟨b, pr, lr, cr, fr, rfl, hi3, hf3, hb3⟩
      have H3d := shN H2d hb3
      have H3t := shN H2t hb3
      have H3r := shN H2r hb3
      have H3l := shN H2l hb3
      have H3R : Hid (RowD w3 p len x.ds) := H2R.out.below hb3
      have H3T : Hid (RowD w3 pt lt t.ts) := H2T.out.below hb3
      have H3B := shB H2B hb3
      have hsw3 : w2.heap.size ≤ w3.heap.size := hb3.size
      clear hb3 H2d H2t H2r H2l H2R H2T H2B
      unfold Ac.v Ac.cs
      clear HRO
      have H4F : Hid (deb.Fresh w3 w2.heap.size pr lr cr b.ds) := hf3
      have HUPF : Hid (0 < lr → ∀ y, pr = some y → y.block < w3.heap.size) := came_lt H4F.out.came
      clear hf3
      by_cases h4 : fr = 0
      · subst h4
        have hrm : RMay x m ∧ b = rolled x m := by
          rcases hi3 with ⟨q, _⟩ | ⟨_, _, q, _⟩ | ⟨_, q, r, _⟩
          · exact absurd HM.out q
          · exact absurd rfl q.ne
          · exact ⟨q, r⟩
        have HRY : Hid (Ready x t m) := ⟨HM.out, HT.out, hrm.1⟩
        have HBR : Hid (b = rolled x m) := hrm.2
        have hbs := rolled_same x m
        rw [← hrm.2] at hbs
        have hbo := (rolled_may HM.out hrm.1).2.2.2.2.2.1
        rw [← hrm.2] at hbo
        have HBS : Hid (b.me = x.me ∧ b.rv = x.rv ∧ b.nx = x.nx ∧ b.mo = m ∧ b.fr = x.fr) := hbs
        clear hrm hi3 hbs
        have H5d : Hid (Blk (w3.alloc (.cells #[.int .i64 b.me, .int .i64 b.rv, .int .i64 b.nx, .int .i64 b.mo, .int .i64 b.bo, .int .i64 b.fr, .slice pr lr cr] 55)) (w.heap.size) #[.int .i64 x.me, .int .i64 x.rv, .int .i64 x.nx, .int .i64 x.mo, .int .i64 x.bo, .int .i64 x.fr, .slice p len cap] 55) := H3d.out.alloc _
        have H5t : Hid (Blk (w3.alloc (.cells #[.int .i64 b.me, .int .i64 b.rv, .int .i64 b.nx, .int .i64 b.mo, .int .i64 b.bo, .int .i64 b.fr, .slice pr lr cr] 55)) (w.heap.size + 1) #[.slice pt lt ct, .int .i64 t.ff, .int .i64 t.fb, .int .i64 t.db, .int .i64 t.al] 40) := H3t.out.alloc _
        have H5r : Hid (Blk (w3.alloc (.cells #[.int .i64 b.me, .int .i64 b.rv, .int .i64 b.nx, .int .i64 b.mo, .int .i64 b.bo, .int .i64 b.fr, .slice pr lr cr] 55)) (w.heap.size + 1 + 1) #[.int .i64 0, .int .i64 0, .int .i64 0, .int .i64 0, .int .i64 0, .int .i64 0, .slice none 0 0] 55) := H3r.out.alloc _
        have H5l : Hid (Blk (w3.alloc (.cells #[.int .i64 b.me, .int .i64 b.rv, .int .i64 b.nx, .int .i64 b.mo, .int .i64 b.bo, .int .i64 b.fr, .slice pr lr cr] 55)) (w.heap.size + 1 + 1 + 1) #[.int .i64 0, .int .i64 0, .int .i64 0, .int .i64 0, .int .i64 0, .int .i64 0, .int .i64 0] 23) := H3l.out.alloc _
        have H5R : Hid (RowD (w3.alloc (.cells #[.int .i64 b.me, .int .i64 b.rv, .int .i64 b.nx, .int .i64 b.mo, .int .i64 b.bo, .int .i64 b.fr, .slice pr lr cr] 55)) p len x.ds) := H3R.out.below ((Below.refl w3.heap.size w3).alloc (Nat.le_refl _) _)
        have H5T : Hid (RowD (w3.alloc (.cells #[.int .i64 b.me, .int .i64 b.rv, .int .i64 b.nx, .int .i64 b.mo, .int .i64 b.bo, .int .i64 b.fr, .slice pr lr cr] 55)) pt lt t.ts) := H3T.out.below ((Below.refl w3.heap.size w3).alloc (Nat.le_refl _) _)
        have H5F : Hid (deb.Fresh (w3.alloc (.cells #[.int .i64 b.me, .int .i64 b.rv, .int .i64 b.nx, .int .i64 b.mo, .int .i64 b.bo, .int .i64 b.fr, .slice pr lr cr] 55)) w2.heap.size pr lr cr b.ds) := H4F.out.below ((Below.refl w3.heap.size w3).alloc (Nat.le_refl _) _)
        have H5n : Hid (Blk (w3.alloc (.cells #[.int .i64 b.me, .int .i64 b.rv, .int .i64 b.nx, .int .i64 b.mo, .int .i64 b.bo, .int .i64 b.fr, .slice pr lr cr] 55)) w3.heap.size #[.int .i64 b.me, .int .i64 b.rv, .int .i64 b.nx, .int .i64 b.mo, .int .i64 b.bo, .int .i64 b.fr, .slice pr lr cr] 55) := Blk.new w3 _ _
        have H5B : Hid (Below w.heap.size w (w3.alloc (.cells #[.int .i64 b.me, .int .i64 b.rv, .int .i64 b.nx, .int .i64 b.mo, .int .i64 b.bo, .int .i64 b.fr, .slice pr lr cr] 55))) := H3B.out.alloc H3B.out.size _
        have hsW4 : w3.heap.size < (w3.alloc (.cells #[.int .i64 b.me, .int .i64 b.rv, .int .i64 b.nx, .int .i64 b.mo, .int .i64 b.bo, .int .i64 b.fr, .slice pr lr cr] 55)).heap.size := (Blk.new w3 #[.int .i64 b.me, .int .i64 b.rv, .int .i64 b.nx, .int .i64 b.mo, .int .i64 b.bo, .int .i64 b.fr, .slice pr lr cr] 55).lt
        clear H3d H3t H3r H3l H3R H3T H4F H3B
        go_upto_region 7 with fail
        generalize (w3.alloc (.cells #[.int .i64 b.me, .int .i64 b.rv, .int .i64 b.nx, .int .i64 b.mo, .int .i64 b.bo, .int .i64 b.fr, .slice pr lr cr] 55)) = W4 at *
        by_cases h5 : t.al = 0
        · have d5 : (t.al == 0) = true := by simpa using h5
          have HV : Hid (GrantIs x t m ac0 bi0 22) := .inr (.inl ⟨HRY.out, h5, rfl, rfl, rfl⟩)
          clear h5
          have qt4 : W4.cell? ⟨w.heap.size + 1, 4, none⟩ = some (.int .i64 t.al) := H5t.out.cell 4
          go_wp2_with (first
            | (refine wp_letAll rfl 55 _ _ rfl _ rfl _ rfl (by kernel_rfl) (by simp [Value.oneCell']) _ 55 H5r.out rfl ?_)
            | (refine wp_whole rfl 55 _ rfl _ rfl 55 _ _ H5d.out Try.underlying55 rfl (by kernel_rfl) ?_)
            | (refine wp_whole rfl 40 _ rfl _ rfl 40 _ _ H5t.out Try.underlying40 rfl (by kernel_rfl) ?_)
            | (refine wp_whole rfl 55 _ rfl _ rfl 55 _ _ H5r.out Try.underlying55 rfl (by kernel_rfl) ?_)
            | (refine wp_whole rfl 23 _ rfl _ rfl 23 _ _ H5l.out Try.underlying23 rfl (by kernel_rfl) ?_)
            | (refine wp_whole rfl 55 _ rfl _ rfl 55 _ _ H5n.out Try.underlying55 rfl (by kernel_rfl) ?_)
            | fail)
          intro W4a hU
          have H6d := shK hU H5d (by omega)
          have H6t := shK hU H5t (by omega)
          have H6r : Hid (Blk W4a (w.heap.size + 1 + 1) #[.int .i64 0, .int .i64 0, .int .i64 0, .int .i64 0, .int .i64 0, .int .i64 0, .slice none 0 0] 55) := hU.blk
          have H6l := shK hU H5l (by omega)
          have H6n := shK hU H5n (by omega)
          have H6F : Hid (deb.Fresh W4a w2.heap.size pr lr cr b.ds) := fresh_updN H5F.out hU (fun hn y hy => by have f1 := H5F.out.new hn y hy; have f2 := HUPF.out hn y hy; omega)
          have H6B := shV hU H5B (by omega)
          have hsW4a : W4a.heap.size = W4.heap.size := hU.size
          clear hU H5d H5t H5r H5l H5n H5R H5T H5F H5B
          go_wp2_with (first
            | (refine wp_letAll rfl 23 _ _ rfl _ rfl _ rfl (by kernel_rfl) (by simp [Value.oneCell']) _ 23 H6l.out rfl ?_)
            | (refine wp_whole rfl 55 _ rfl _ rfl 55 _ _ H6d.out Try.underlying55 rfl (by kernel_rfl) ?_)
            | (refine wp_whole rfl 40 _ rfl _ rfl 40 _ _ H6t.out Try.underlying40 rfl (by kernel_rfl) ?_)
            | (refine wp_whole rfl 55 _ rfl _ rfl 55 _ _ H6r.out Try.underlying55 rfl (by kernel_rfl) ?_)
            | (refine wp_whole rfl 23 _ rfl _ rfl 23 _ _ H6l.out Try.underlying23 rfl (by kernel_rfl) ?_)
            | (refine wp_whole rfl 55 _ rfl _ rfl 55 _ _ H6n.out Try.underlying55 rfl (by kernel_rfl) ?_)
            | fail)
          intro W4ab hU
          have H7d := shK hU H6d (by omega)
          have H7t := shK hU H6t (by omega)
          have H7r := shK hU H6r (by omega)
          have H7l : Hid (Blk W4ab (w.heap.size + 1 + 1 + 1) #[.int .i64 0, .int .i64 0, .int .i64 0, .int .i64 0, .int .i64 0, .int .i64 0, .int .i64 0] 23) := hU.blk
          have H7n := shK hU H6n (by omega)
          have H7F : Hid (deb.Fresh W4ab w2.heap.size pr lr cr b.ds) := fresh_updN H6F.out hU (fun hn y hy => by have f1 := H6F.out.new hn y hy; have f2 := HUPF.out hn y hy; omega)
          have H7B := shV hU H6B (by omega)
          have hsW4ab : W4ab.heap.size = W4a.heap.size := hU.size
          clear hU H6d H6t H6r H6l H6n H6F H6B
          obtain ⟨Rr0, Rr1, Rr2, Rr3, Rr4, Rr5, Rr6⟩ := shc7 H7r
          obtain ⟨Rl0, Rl1, Rl2, Rl3, Rl4, Rl5, Rl6⟩ := shc7 H7l
          go_wp2_with fail
          exact bodyPost_ret (v := .tuple #[.agg #[.int .i64 0, .int .i64 0, .int .i64 0, .int .i64 0, .int .i64 0, .int .i64 0, .slice none 0 0], .agg #[.int .i64 0, .int .i64 0, .int .i64 0, .int .i64 0, .int .i64 0, .int .i64 0, .int .i64 0], .int .i64 22]) (by simp [results, Try.results57, Rr0.out, Rr1.out, Rr2.out, Rr3.out, Rr4.out, Rr5.out, Rr6.out, Rl0.out, Rl1.out, Rl2.out, Rl3.out, Rl4.out, Rl5.out, Rl6.out, go_sem]) rfl ⟨ac0, bi0, none, 0, 0, _, rfl, HV.out, deb.fresh_nil _ _, H7B.out⟩
        · have d5 : (t.al == 0) = false := by simpa using h5
          by_cases h6 : x.fr = m
          · have d6 : (x.fr == m) = true := by simpa using h6
            have HV : Hid (GrantIs x t m ac0 bi0 21) := .inr (.inr (.inl ⟨HRY.out, h5, h6, rfl, rfl, rfl⟩))
            clear h5 h6
            have qt4 : W4.cell? ⟨w.heap.size + 1, 4, none⟩ = some (.int .i64 t.al) := H5t.out.cell 4
            have qd5 : W4.cell? ⟨w.heap.size, 5, none⟩ = some (.int .i64 x.fr) := H5d.out.cell 5
            go_wp2_with (first
              | (refine wp_letAll rfl 55 _ _ rfl _ rfl _ rfl (by kernel_rfl) (by simp [Value.oneCell']) _ 55 H5r.out rfl ?_)
              | (refine wp_whole rfl 55 _ rfl _ rfl 55 _ _ H5d.out Try.underlying55 rfl (by kernel_rfl) ?_)
              | (refine wp_whole rfl 40 _ rfl _ rfl 40 _ _ H5t.out Try.underlying40 rfl (by kernel_rfl) ?_)
              | (refine wp_whole rfl 55 _ rfl _ rfl 55 _ _ H5r.out Try.underlying55 rfl (by kernel_rfl) ?_)
              | (refine wp_whole rfl 23 _ rfl _ rfl 23 _ _ H5l.out Try.underlying23 rfl (by kernel_rfl) ?_)
              | (refine wp_whole rfl 55 _ rfl _ rfl 55 _ _ H5n.out Try.underlying55 rfl (by kernel_rfl) ?_)
              | fail)
            intro W4a hU
            have H6d := shK hU H5d (by omega)
            have H6t := shK hU H5t (by omega)
            have H6r : Hid (Blk W4a (w.heap.size + 1 + 1) #[.int .i64 0, .int .i64 0, .int .i64 0, .int .i64 0, .int .i64 0, .int .i64 0, .slice none 0 0] 55) := hU.blk
            have H6l := shK hU H5l (by omega)
            have H6n := shK hU H5n (by omega)
            have H6F : Hid (deb.Fresh W4a w2.heap.size pr lr cr b.ds) := fresh_updN H5F.out hU (fun hn y hy => by have f1 := H5F.out.new hn y hy; have f2 := HUPF.out hn y hy; omega)
            have H6B := shV hU H5B (by omega)
            have hsW4a : W4a.heap.size = W4.heap.size := hU.size
            clear hU H5d H5t H5r H5l H5n H5R H5T H5F H5B
            go_wp2_with (first
              | (refine wp_letAll rfl 23 _ _ rfl _ rfl _ rfl (by kernel_rfl) (by simp [Value.oneCell']) _ 23 H6l.out rfl ?_)
              | (refine wp_whole rfl 55 _ rfl _ rfl 55 _ _ H6d.out Try.underlying55 rfl (by kernel_rfl) ?_)
              | (refine wp_whole rfl 40 _ rfl _ rfl 40 _ _ H6t.out Try.underlying40 rfl (by kernel_rfl) ?_)
              | (refine wp_whole rfl 55 _ rfl _ rfl 55 _ _ H6r.out Try.underlying55 rfl (by kernel_rfl) ?_)
              | (refine wp_whole rfl 23 _ rfl _ rfl 23 _ _ H6l.out Try.underlying23 rfl (by kernel_rfl) ?_)
              | (refine wp_whole rfl 55 _ rfl _ rfl 55 _ _ H6n.out Try.underlying55 rfl (by kernel_rfl) ?_)
              | fail)
            intro W4ab hU
            have H7d := shK hU H6d (by omega)
            have H7t := shK hU H6t (by omega)
            have H7r := shK hU H6r (by omega)
            have H7l : Hid (Blk W4ab (w.heap.size + 1 + 1 + 1) #[.int .i64 0, .int .i64 0, .int .i64 0, .int .i64 0, .int .i64 0, .int .i64 0, .int .i64 0] 23) := hU.blk
            have H7n := shK hU H6n (by omega)
            have H7F : Hid (deb.Fresh W4ab w2.heap.size pr lr cr b.ds) := fresh_updN H6F.out hU (fun hn y hy => by have f1 := H6F.out.new hn y hy; have f2 := HUPF.out hn y hy; omega)
            have H7B := shV hU H6B (by omega)
            have hsW4ab : W4ab.heap.size = W4a.heap.size := hU.size
            clear hU H6d H6t H6r H6l H6n H6F H6B
            obtain ⟨Rr0, Rr1, Rr2, Rr3, Rr4, Rr5, Rr6⟩ := shc7 H7r
            obtain ⟨Rl0, Rl1, Rl2, Rl3, Rl4, Rl5, Rl6⟩ := shc7 H7l
            go_wp2_with fail
            exact bodyPost_ret (v := .tuple #[.agg #[.int .i64 0, .int .i64 0, .int .i64 0, .int .i64 0, .int .i64 0, .int .i64 0, .slice none 0 0], .agg #[.int .i64 0, .int .i64 0, .int .i64 0, .int .i64 0, .int .i64 0, .int .i64 0, .int .i64 0], .int .i64 21]) (by simp [results, Try.results57, Rr0.out, Rr1.out, Rr2.out, Rr3.out, Rr4.out, Rr5.out, Rr6.out, Rl0.out, Rl1.out, Rl2.out, Rl3.out, Rl4.out, Rl5.out, Rl6.out, go_sem]) rfl ⟨ac0, bi0, none, 0, 0, _, rfl, HV.out, deb.fresh_nil _ _, H7B.out⟩
          · have d6 : (x.fr == m) = false := by simpa using h6
            by_cases h7 : x.nx ≤ 1048575
            · have d7 : (x.nx == 1048576) = false := by simp; omega
              have qt4 : W4.cell? ⟨w.heap.size + 1, 4, none⟩ = some (.int .i64 t.al) := H5t.out.cell 4
              have qd5 : W4.cell? ⟨w.heap.size, 5, none⟩ = some (.int .i64 x.fr) := H5d.out.cell 5
              have qd2 : W4.cell? ⟨w.heap.size, 2, none⟩ = some (.int .i64 x.nx) := H5d.out.cell 2
              go_wp2_with (first
                | (refine wp_let1 rfl 3 _ _ rfl (w3.heap.size) 5 rfl .i64 m rfl (by kernel_rfl) #[.int .i64 b.me, .int .i64 b.rv, .int .i64 b.nx, .int .i64 b.mo, .int .i64 b.bo, .int .i64 b.fr, .slice pr lr cr] 55 H5n.out (by simp) ?_)
                | fail)
              clear qt4 qd5 qd2
              intro W5 hU
              have H6d := shK hU H5d (by omega)
              have H6t := shK hU H5t (by omega)
              have H6r := shK hU H5r (by omega)
              have H6l := shK hU H5l (by omega)
              have H6n : Hid (Blk W5 (w3.heap.size) #[.int .i64 b.me, .int .i64 b.rv, .int .i64 b.nx, .int .i64 b.mo, .int .i64 b.bo, .int .i64 m, .slice pr lr cr] 55) := hU.blk
              have H6F : Hid (deb.Fresh W5 w2.heap.size pr lr cr b.ds) := fresh_updN H5F.out hU (fun hn y hy => by have f1 := H5F.out.new hn y hy; have f2 := HUPF.out hn y hy; omega)
              have H6B := shV hU H5B (by omega)
              have hsW5 : W5.heap.size = W4.heap.size := hU.size
              clear hU H5d H5t H5r H5l H5n H5R H5T H5F H5B
              have qd2 : W5.cell? ⟨w.heap.size, 2, none⟩ = some (.int .i64 x.nx) := H6d.out.cell 2
              go_wp2_with (first
                | (refine wp_let1 rfl 3 _ _ rfl (w3.heap.size) 2 rfl .i64 (x.nx + 1) rfl (by kernel_rfl) #[.int .i64 b.me, .int .i64 b.rv, .int .i64 b.nx, .int .i64 b.mo, .int .i64 b.bo, .int .i64 m, .slice pr lr cr] 55 H6n.out (by simp) ?_)
                | (refine wp_whole rfl 55 _ rfl _ rfl 55 _ _ H6d.out Try.underlying55 rfl (by kernel_rfl) ?_)
                | (refine wp_whole rfl 40 _ rfl _ rfl 40 _ _ H6t.out Try.underlying40 rfl (by kernel_rfl) ?_)
                | (refine wp_whole rfl 55 _ rfl _ rfl 55 _ _ H6r.out Try.underlying55 rfl (by kernel_rfl) ?_)
                | (refine wp_whole rfl 23 _ rfl _ rfl 23 _ _ H6l.out Try.underlying23 rfl (by kernel_rfl) ?_)
                | (refine wp_whole rfl 55 _ rfl _ rfl 55 _ _ H6n.out Try.underlying55 rfl (by kernel_rfl) ?_)
                | fail)
              intro W6 hU
              have H7d := shK hU H6d (by omega)
              have H7t := shK hU H6t (by omega)
              have H7r := shK hU H6r (by omega)
              have H7l := shK hU H6l (by omega)
              have H7n : Hid (Blk W6 (w3.heap.size) #[.int .i64 b.me, .int .i64 b.rv, .int .i64 (x.nx + 1), .int .i64 b.mo, .int .i64 b.bo, .int .i64 m, .slice pr lr cr] 55) := hU.blk
              have H7F : Hid (deb.Fresh W6 w2.heap.size pr lr cr b.ds) := fresh_updN H6F.out hU (fun hn y hy => by have f1 := H6F.out.new hn y hy; have f2 := HUPF.out hn y hy; omega)
              have H7B := shV hU H6B (by omega)
              have hsW6 : W6.heap.size = W5.heap.size := hU.size
              clear hU H6d H6t H6r H6l H6n H6F H6B
              clear qd2
              go_upto_region 17 with fail
              refine wp_region_held_drew (S := fun v => Blk v (w3.heap.size) #[.int .i64 b.me, .int .i64 b.rv, .int .i64 (x.nx + 1), .int .i64 b.mo, .int .i64 b.bo, .int .i64 m, .slice pr lr cr] 55 ∧ Blk v (w.heap.size) #[.int .i64 x.me, .int .i64 x.rv, .int .i64 x.nx, .int .i64 x.mo, .int .i64 x.bo, .int .i64 x.fr, .slice p len cap] 55 ∧ Blk v (w.heap.size + 1) #[.slice pt lt ct, .int .i64 t.ff, .int .i64 t.fb, .int .i64 t.db, .int .i64 t.al] 40) (by kernel_rfl) ⟨Blk.drew H7n.out 1, Blk.drew H7d.out 1, Blk.drew H7t.out 1⟩ (fun hHeld => ?_)
              refine take_at 0 56 (.agg #[.int .i64 b.me, .int .i64 b.rv, .int .i64 (x.nx + 1), .int .i64 b.mo, .int .i64 b.bo, .int .i64 m, .slice pr lr cr]) _ rfl rfl (by kernel_rfl) (by kernel_rfl) (by kernel_rfl) (fun _ _ _ h => h) (Or.inl ⟨by rfl, fun v hv => by have g0 := hv.1.cell 0; have g1 := hv.1.cell 1; have g2 := hv.1.cell 2; have g3 := hv.1.cell 3; have g4 := hv.1.cell 4; have g5 := hv.1.cell 5; have g6 := hv.1.cell 6; clear hv; go_simp⟩) hHeld ?_
              simp only [Act.put, List.setIfInBounds_toArray, List.set_cons_zero, List.set_cons_succ]
              refine take_at 1 57 (.pointer (some ⟨w.heap.size, 2, none⟩)) _ rfl rfl (by kernel_rfl) (by kernel_rfl) (by kernel_rfl) (fun _ _ _ h => h) (Or.inl ⟨by rfl, fun v hv => by clear hv; go_simp⟩) hHeld ?_
              simp only [Act.put, List.setIfInBounds_toArray, List.set_cons_zero, List.set_cons_succ]
              refine take_at 2 58 (.int .i64 x.nx) _ rfl rfl (by kernel_rfl) (by kernel_rfl) (by kernel_rfl) (fun _ _ _ h => h) (Or.inl ⟨by rfl, fun v hv => by have g := hv.2.1.cell 2; clear hv; go_simp⟩) hHeld ?_
              simp only [Act.put, List.setIfInBounds_toArray, List.set_cons_zero, List.set_cons_succ]
              refine take_at 3 59 (.pointer (some ⟨w.heap.size + 1, 4, none⟩)) _ rfl rfl (by kernel_rfl) (by kernel_rfl) (by kernel_rfl) (fun _ _ _ h => h) (Or.inl ⟨by rfl, fun v hv => by clear hv; go_simp⟩) hHeld ?_
              simp only [Act.put, List.setIfInBounds_toArray, List.set_cons_zero, List.set_cons_succ]
              refine take_at 4 60 (.int .i64 t.al) _ rfl rfl (by kernel_rfl) (by kernel_rfl) (by kernel_rfl) (fun _ _ _ h => h) (Or.inl ⟨by rfl, fun v hv => by have g := hv.2.2.cell 4; clear hv; go_simp⟩) hHeld ?_
              simp only [Act.put, List.setIfInBounds_toArray, List.set_cons_zero, List.set_cons_succ]
              refine take_at 5 61 (.agg #[.int .i64 x.nx, .int .i64 0, .int .i64 0, .int .i64 0, .int .i64 0, .int .i64 0, .int .i64 t.al]) _ rfl rfl (by kernel_rfl) (by kernel_rfl) (by kernel_rfl) (fun _ _ _ h => h) (Or.inl ⟨by rfl, fun v hv => by clear hv; go_simp⟩) hHeld ?_
              simp only [Act.put, List.setIfInBounds_toArray, List.set_cons_zero, List.set_cons_succ]
              refine wpAnyH_ready (rs := [6]) (by kernel_rfl) (by simp) (AllReadyH.cons rfl (fun K hK => ?_) AllReadyH.nil)
              rw [if_pos (by rfl)]
              refine wp_letOp 55 _ _ rfl (w.heap.size + 1 + 1) rfl #[.int .i64 b.me, .int .i64 b.rv, .int .i64 (x.nx + 1), .int .i64 b.mo, .int .i64 b.bo, .int .i64 m, .slice pr lr cr] rfl (by kernel_rfl) (by simp [Value.oneCell']) #[.int .i64 0, .int .i64 0, .int .i64 0, .int .i64 0, .int .i64 0, .int .i64 0, .slice none 0 0] 55 (Blk.drew H7r.out 1) rfl rfl ?_
              intro V1 hU
              have H8d : Hid (Blk V1 (w.heap.size) #[.int .i64 x.me, .int .i64 x.rv, .int .i64 x.nx, .int .i64 x.mo, .int .i64 x.bo, .int .i64 x.fr, .slice p len cap] 55) := hU.keep (Blk.drew H7d.out 1) (by omega)
              have H8t : Hid (Blk V1 (w.heap.size + 1) #[.slice pt lt ct, .int .i64 t.ff, .int .i64 t.fb, .int .i64 t.db, .int .i64 t.al] 40) := hU.keep (Blk.drew H7t.out 1) (by omega)
              have H8r : Hid (Blk V1 (w.heap.size + 1 + 1) #[.int .i64 b.me, .int .i64 b.rv, .int .i64 (x.nx + 1), .int .i64 b.mo, .int .i64 b.bo, .int .i64 m, .slice pr lr cr] 55) := hU.blk
              have H8l : Hid (Blk V1 (w.heap.size + 1 + 1 + 1) #[.int .i64 0, .int .i64 0, .int .i64 0, .int .i64 0, .int .i64 0, .int .i64 0, .int .i64 0] 23) := hU.keep (Blk.drew H7l.out 1) (by omega)
              have H8n : Hid (Blk V1 (w3.heap.size) #[.int .i64 b.me, .int .i64 b.rv, .int .i64 (x.nx + 1), .int .i64 b.mo, .int .i64 b.bo, .int .i64 m, .slice pr lr cr] 55) := hU.keep (Blk.drew H7n.out 1) (by omega)
              have H8F : Hid (deb.Fresh V1 w2.heap.size pr lr cr b.ds) := fresh_updN (fresh_drew H7F.out) hU (fun hn y hy => by have f1 := H7F.out.new hn y hy; have f2 := HUPF.out hn y hy; omega)
              have H8B : Hid (Below w.heap.size w V1) := hU.bel _ _ (by omega) H7B.out.drew
              clear hU H7d H7t H7r H7l H7n H7F H7B
              refine hK.out _ _ ⟨H8n.out, H8d.out, H8t.out⟩ (fun hHeld => ?_)
              clear hK K
              refine wpAnyH_ready (rs := [7]) (by kernel_rfl) (by simp) (AllReadyH.cons rfl (fun K hK => ?_) AllReadyH.nil)
              rw [if_pos (by rfl)]
              refine wp_letOp 23 _ _ rfl (w.heap.size + 1 + 1 + 1) rfl #[.int .i64 x.nx, .int .i64 0, .int .i64 0, .int .i64 0, .int .i64 0, .int .i64 0, .int .i64 t.al] rfl (by kernel_rfl) (by simp [Value.oneCell']) #[.int .i64 0, .int .i64 0, .int .i64 0, .int .i64 0, .int .i64 0, .int .i64 0, .int .i64 0] 23 H8l.out rfl rfl ?_
              intro V2 hU
              have H9d := shK hU H8d (by omega)
              have H9t := shK hU H8t (by omega)
              have H9r := shK hU H8r (by omega)
              have H9l : Hid (Blk V2 (w.heap.size + 1 + 1 + 1) #[.int .i64 x.nx, .int .i64 0, .int .i64 0, .int .i64 0, .int .i64 0, .int .i64 0, .int .i64 t.al] 23) := hU.blk
              have H9n := shK hU H8n (by omega)
              have H9F : Hid (deb.Fresh V2 w2.heap.size pr lr cr b.ds) := fresh_updN H8F.out hU (fun hn y hy => by have f1 := H8F.out.new hn y hy; have f2 := HUPF.out hn y hy; omega)
              have H9B := shV hU H8B (by omega)
              clear hU H8d H8t H8r H8l H8n H8F H8B
              refine hK.out _ _ ⟨H9n.out, H9d.out, H9t.out⟩ (fun hHeld => ?_)
              clear hK K
              refine take_at 8 8 (.int .i64 0) _ rfl rfl (by kernel_rfl) (by kernel_rfl) (by kernel_rfl) (fun _ _ _ h => h) (Or.inl ⟨by rfl, fun v hv => by clear hv; go_simp⟩) hHeld ?_
              simp only [Act.put, List.setIfInBounds_toArray, List.set_cons_zero, List.set_cons_succ]
              refine wpAnyH_done (by kernel_rfl) ?_ _
              clear hHeld
              have HGV : Hid (⟨b.me, b.rv, x.nx + 1, b.mo, b.bo, m, b.ds⟩ = granted x m) := by
                show _ = _
                unfold granted
                rw [← HBR.out, HBS.out.1, HBS.out.2.1, HBS.out.2.2.2.1]
              obtain ⟨Rr0, Rr1, Rr2, Rr3, Rr4, Rr5, Rr6⟩ := shc7 H9r
              obtain ⟨Rl0, Rl1, Rl2, Rl3, Rl4, Rl5, Rl6⟩ := shc7 H9l
              go_wp2_with fail
              exact bodyPost_ret (v := .tuple #[.agg #[.int .i64 b.me, .int .i64 b.rv, .int .i64 (x.nx + 1), .int .i64 b.mo, .int .i64 b.bo, .int .i64 m, .slice pr lr cr], .agg #[.int .i64 x.nx, .int .i64 0, .int .i64 0, .int .i64 0, .int .i64 0, .int .i64 0, .int .i64 t.al], .int .i64 0]) (by simp [results, Try.results57, Rr0.out, Rr1.out, Rr2.out, Rr3.out, Rr4.out, Rr5.out, Rr6.out, Rl0.out, Rl1.out, Rl2.out, Rl3.out, Rl4.out, Rl5.out, Rl6.out, go_sem]) rfl ⟨⟨b.me, b.rv, x.nx + 1, b.mo, b.bo, m, b.ds⟩, ⟨x.nx, 0, 0, 0, 0, 0, t.al⟩, pr, lr, cr, _, rfl, .inr (.inr (.inr (.inr ⟨HRY.out, h5, h6, h7, rfl, HGV.out, rfl⟩))), H9F.out.low (by omega), H9B.out⟩
            · have d7 : (x.nx == 1048576) = true := by simp; omega
              have HV : Hid (GrantIs x t m ac0 bi0 20) := .inr (.inr (.inr (.inl ⟨HRY.out, h5, h6, h7, rfl, rfl, rfl⟩)))
              clear h5 h6 h7
              have qt4 : W4.cell? ⟨w.heap.size + 1, 4, none⟩ = some (.int .i64 t.al) := H5t.out.cell 4
              have qd5 : W4.cell? ⟨w.heap.size, 5, none⟩ = some (.int .i64 x.fr) := H5d.out.cell 5
              have qd2 : W4.cell? ⟨w.heap.size, 2, none⟩ = some (.int .i64 x.nx) := H5d.out.cell 2
              go_wp2_with (first
                | (refine wp_letAll rfl 55 _ _ rfl _ rfl _ rfl (by kernel_rfl) (by simp [Value.oneCell']) _ 55 H5r.out rfl ?_)
                | (refine wp_whole rfl 55 _ rfl _ rfl 55 _ _ H5d.out Try.underlying55 rfl (by kernel_rfl) ?_)
                | (refine wp_whole rfl 40 _ rfl _ rfl 40 _ _ H5t.out Try.underlying40 rfl (by kernel_rfl) ?_)
                | (refine wp_whole rfl 55 _ rfl _ rfl 55 _ _ H5r.out Try.underlying55 rfl (by kernel_rfl) ?_)
                | (refine wp_whole rfl 23 _ rfl _ rfl 23 _ _ H5l.out Try.underlying23 rfl (by kernel_rfl) ?_)
                | (refine wp_whole rfl 55 _ rfl _ rfl 55 _ _ H5n.out Try.underlying55 rfl (by kernel_rfl) ?_)
                | fail)
              intro W4a hU
              have H6d := shK hU H5d (by omega)
              have H6t := shK hU H5t (by omega)
              have H6r : Hid (Blk W4a (w.heap.size + 1 + 1) #[.int .i64 0, .int .i64 0, .int .i64 0, .int .i64 0, .int .i64 0, .int .i64 0, .slice none 0 0] 55) := hU.blk
              have H6l := shK hU H5l (by omega)
              have H6n := shK hU H5n (by omega)
              have H6F : Hid (deb.Fresh W4a w2.heap.size pr lr cr b.ds) := fresh_updN H5F.out hU (fun hn y hy => by have f1 := H5F.out.new hn y hy; have f2 := HUPF.out hn y hy; omega)
              have H6B := shV hU H5B (by omega)
              have hsW4a : W4a.heap.size = W4.heap.size := hU.size
              clear hU H5d H5t H5r H5l H5n H5R H5T H5F H5B
              go_wp2_with (first
                | (refine wp_letAll rfl 23 _ _ rfl _ rfl _ rfl (by kernel_rfl) (by simp [Value.oneCell']) _ 23 H6l.out rfl ?_)
                | (refine wp_whole rfl 55 _ rfl _ rfl 55 _ _ H6d.out Try.underlying55 rfl (by kernel_rfl) ?_)
                | (refine wp_whole rfl 40 _ rfl _ rfl 40 _ _ H6t.out Try.underlying40 rfl (by kernel_rfl) ?_)
                | (refine wp_whole rfl 55 _ rfl _ rfl 55 _ _ H6r.out Try.underlying55 rfl (by kernel_rfl) ?_)
                | (refine wp_whole rfl 23 _ rfl _ rfl 23 _ _ H6l.out Try.underlying23 rfl (by kernel_rfl) ?_)
                | (refine wp_whole rfl 55 _ rfl _ rfl 55 _ _ H6n.out Try.underlying55 rfl (by kernel_rfl) ?_)
                | fail)
              intro W4ab hU
              have H7d := shK hU H6d (by omega)
              have H7t := shK hU H6t (by omega)
              have H7r := shK hU H6r (by omega)
              have H7l : Hid (Blk W4ab (w.heap.size + 1 + 1 + 1) #[.int .i64 0, .int .i64 0, .int .i64 0, .int .i64 0, .int .i64 0, .int .i64 0, .int .i64 0] 23) := hU.blk
              have H7n := shK hU H6n (by omega)
              have H7F : Hid (deb.Fresh W4ab w2.heap.size pr lr cr b.ds) := fresh_updN H6F.out hU (fun hn y hy => by have f1 := H6F.out.new hn y hy; have f2 := HUPF.out hn y hy; omega)
              have H7B := shV hU H6B (by omega)
              have hsW4ab : W4ab.heap.size = W4a.heap.size := hU.size
              clear hU H6d H6t H6r H6l H6n H6F H6B
              obtain ⟨Rr0, Rr1, Rr2, Rr3, Rr4, Rr5, Rr6⟩ := shc7 H7r
              obtain ⟨Rl0, Rl1, Rl2, Rl3, Rl4, Rl5, Rl6⟩ := shc7 H7l
              go_wp2_with fail
              exact bodyPost_ret (v := .tuple #[.agg #[.int .i64 0, .int .i64 0, .int .i64 0, .int .i64 0, .int .i64 0, .int .i64 0, .slice none 0 0], .agg #[.int .i64 0, .int .i64 0, .int .i64 0, .int .i64 0, .int .i64 0, .int .i64 0, .int .i64 0], .int .i64 20]) (by simp [results, Try.results57, Rr0.out, Rr1.out, Rr2.out, Rr3.out, Rr4.out, Rr5.out, Rr6.out, Rl0.out, Rl1.out, Rl2.out, Rl3.out, Rl4.out, Rl5.out, Rl6.out, go_sem]) rfl ⟨ac0, bi0, none, 0, 0, _, rfl, HV.out, deb.fresh_nil _ _, H7B.out⟩
      · have hne : (fr != 0) = true := by simpa using h4
        have HV : Hid (Refused x t m fr) := by
          rcases hi3 with ⟨q, _⟩ | ⟨_, q, r, _⟩ | ⟨_, _, _, r⟩
          · exact absurd HM.out q
          · exact .inr (.inr ⟨HM.out, HT.out, q, r⟩)
          · exact absurd r h4
        clear hi3 h4
        have H5d : Hid (Blk (w3.alloc (.cells #[.int .i64 b.me, .int .i64 b.rv, .int .i64 b.nx, .int .i64 b.mo, .int .i64 b.bo, .int .i64 b.fr, .slice pr lr cr] 55)) (w.heap.size) #[.int .i64 x.me, .int .i64 x.rv, .int .i64 x.nx, .int .i64 x.mo, .int .i64 x.bo, .int .i64 x.fr, .slice p len cap] 55) := H3d.out.alloc _
        have H5t : Hid (Blk (w3.alloc (.cells #[.int .i64 b.me, .int .i64 b.rv, .int .i64 b.nx, .int .i64 b.mo, .int .i64 b.bo, .int .i64 b.fr, .slice pr lr cr] 55)) (w.heap.size + 1) #[.slice pt lt ct, .int .i64 t.ff, .int .i64 t.fb, .int .i64 t.db, .int .i64 t.al] 40) := H3t.out.alloc _
        have H5r : Hid (Blk (w3.alloc (.cells #[.int .i64 b.me, .int .i64 b.rv, .int .i64 b.nx, .int .i64 b.mo, .int .i64 b.bo, .int .i64 b.fr, .slice pr lr cr] 55)) (w.heap.size + 1 + 1) #[.int .i64 0, .int .i64 0, .int .i64 0, .int .i64 0, .int .i64 0, .int .i64 0, .slice none 0 0] 55) := H3r.out.alloc _
        have H5l : Hid (Blk (w3.alloc (.cells #[.int .i64 b.me, .int .i64 b.rv, .int .i64 b.nx, .int .i64 b.mo, .int .i64 b.bo, .int .i64 b.fr, .slice pr lr cr] 55)) (w.heap.size + 1 + 1 + 1) #[.int .i64 0, .int .i64 0, .int .i64 0, .int .i64 0, .int .i64 0, .int .i64 0, .int .i64 0] 23) := H3l.out.alloc _
        have H5R : Hid (RowD (w3.alloc (.cells #[.int .i64 b.me, .int .i64 b.rv, .int .i64 b.nx, .int .i64 b.mo, .int .i64 b.bo, .int .i64 b.fr, .slice pr lr cr] 55)) p len x.ds) := H3R.out.below ((Below.refl w3.heap.size w3).alloc (Nat.le_refl _) _)
        have H5T : Hid (RowD (w3.alloc (.cells #[.int .i64 b.me, .int .i64 b.rv, .int .i64 b.nx, .int .i64 b.mo, .int .i64 b.bo, .int .i64 b.fr, .slice pr lr cr] 55)) pt lt t.ts) := H3T.out.below ((Below.refl w3.heap.size w3).alloc (Nat.le_refl _) _)
        have H5F : Hid (deb.Fresh (w3.alloc (.cells #[.int .i64 b.me, .int .i64 b.rv, .int .i64 b.nx, .int .i64 b.mo, .int .i64 b.bo, .int .i64 b.fr, .slice pr lr cr] 55)) w2.heap.size pr lr cr b.ds) := H4F.out.below ((Below.refl w3.heap.size w3).alloc (Nat.le_refl _) _)
        have H5n : Hid (Blk (w3.alloc (.cells #[.int .i64 b.me, .int .i64 b.rv, .int .i64 b.nx, .int .i64 b.mo, .int .i64 b.bo, .int .i64 b.fr, .slice pr lr cr] 55)) w3.heap.size #[.int .i64 b.me, .int .i64 b.rv, .int .i64 b.nx, .int .i64 b.mo, .int .i64 b.bo, .int .i64 b.fr, .slice pr lr cr] 55) := Blk.new w3 _ _
        have H5B : Hid (Below w.heap.size w (w3.alloc (.cells #[.int .i64 b.me, .int .i64 b.rv, .int .i64 b.nx, .int .i64 b.mo, .int .i64 b.bo, .int .i64 b.fr, .slice pr lr cr] 55))) := H3B.out.alloc H3B.out.size _
        have hsW4 : w3.heap.size < (w3.alloc (.cells #[.int .i64 b.me, .int .i64 b.rv, .int .i64 b.nx, .int .i64 b.mo, .int .i64 b.bo, .int .i64 b.fr, .slice pr lr cr] 55)).heap.size := (Blk.new w3 #[.int .i64 b.me, .int .i64 b.rv, .int .i64 b.nx, .int .i64 b.mo, .int .i64 b.bo, .int .i64 b.fr, .slice pr lr cr] 55).lt
        clear H3d H3t H3r H3l H3R H3T H4F H3B
        go_upto_region 7 with fail
        generalize (w3.alloc (.cells #[.int .i64 b.me, .int .i64 b.rv, .int .i64 b.nx, .int .i64 b.mo, .int .i64 b.bo, .int .i64 b.fr, .slice pr lr cr] 55)) = W4 at *
        go_wp2_with (first
          | (refine wp_letAll rfl 55 _ _ rfl _ rfl _ rfl (by kernel_rfl) (by simp [Value.oneCell']) _ 55 H5r.out rfl ?_)
          | (refine wp_whole rfl 55 _ rfl _ rfl 55 _ _ H5d.out Try.underlying55 rfl (by kernel_rfl) ?_)
          | (refine wp_whole rfl 40 _ rfl _ rfl 40 _ _ H5t.out Try.underlying40 rfl (by kernel_rfl) ?_)
          | (refine wp_whole rfl 55 _ rfl _ rfl 55 _ _ H5r.out Try.underlying55 rfl (by kernel_rfl) ?_)
          | (refine wp_whole rfl 23 _ rfl _ rfl 23 _ _ H5l.out Try.underlying23 rfl (by kernel_rfl) ?_)
          | (refine wp_whole rfl 55 _ rfl _ rfl 55 _ _ H5n.out Try.underlying55 rfl (by kernel_rfl) ?_)
          | fail)
        intro W4a hU
        have H6d := shK hU H5d (by omega)
        have H6t := shK hU H5t (by omega)
        have H6r : Hid (Blk W4a (w.heap.size + 1 + 1) #[.int .i64 0, .int .i64 0, .int .i64 0, .int .i64 0, .int .i64 0, .int .i64 0, .slice none 0 0] 55) := hU.blk
        have H6l := shK hU H5l (by omega)
        have H6n := shK hU H5n (by omega)
        have H6F : Hid (deb.Fresh W4a w2.heap.size pr lr cr b.ds) := fresh_updN H5F.out hU (fun hn y hy => by have f1 := H5F.out.new hn y hy; have f2 := HUPF.out hn y hy; omega)
        have H6B := shV hU H5B (by omega)
        have hsW4a : W4a.heap.size = W4.heap.size := hU.size
        clear hU H5d H5t H5r H5l H5n H5R H5T H5F H5B
        go_wp2_with (first
          | (refine wp_letAll rfl 23 _ _ rfl _ rfl _ rfl (by kernel_rfl) (by simp [Value.oneCell']) _ 23 H6l.out rfl ?_)
          | (refine wp_whole rfl 55 _ rfl _ rfl 55 _ _ H6d.out Try.underlying55 rfl (by kernel_rfl) ?_)
          | (refine wp_whole rfl 40 _ rfl _ rfl 40 _ _ H6t.out Try.underlying40 rfl (by kernel_rfl) ?_)
          | (refine wp_whole rfl 55 _ rfl _ rfl 55 _ _ H6r.out Try.underlying55 rfl (by kernel_rfl) ?_)
          | (refine wp_whole rfl 23 _ rfl _ rfl 23 _ _ H6l.out Try.underlying23 rfl (by kernel_rfl) ?_)
          | (refine wp_whole rfl 55 _ rfl _ rfl 55 _ _ H6n.out Try.underlying55 rfl (by kernel_rfl) ?_)
          | fail)
        intro W4ab hU
        have H7d := shK hU H6d (by omega)
        have H7t := shK hU H6t (by omega)
        have H7r := shK hU H6r (by omega)
        have H7l : Hid (Blk W4ab (w.heap.size + 1 + 1 + 1) #[.int .i64 0, .int .i64 0, .int .i64 0, .int .i64 0, .int .i64 0, .int .i64 0, .int .i64 0] 23) := hU.blk
        have H7n := shK hU H6n (by omega)
        have H7F : Hid (deb.Fresh W4ab w2.heap.size pr lr cr b.ds) := fresh_updN H6F.out hU (fun hn y hy => by have f1 := H6F.out.new hn y hy; have f2 := HUPF.out hn y hy; omega)
        have H7B := shV hU H6B (by omega)
        have hsW4ab : W4ab.heap.size = W4a.heap.size := hU.size
        clear hU H6d H6t H6r H6l H6n H6F H6B
        obtain ⟨Rr0, Rr1, Rr2, Rr3, Rr4, Rr5, Rr6⟩ := shc7 H7r
        obtain ⟨Rl0, Rl1, Rl2, Rl3, Rl4, Rl5, Rl6⟩ := shc7 H7l
        go_wp2_with fail
        exact bodyPost_ret (v := .tuple #[.agg #[.int .i64 0, .int .i64 0, .int .i64 0, .int .i64 0, .int .i64 0, .int .i64 0, .slice none 0 0], .agg #[.int .i64 0, .int .i64 0, .int .i64 0, .int .i64 0, .int .i64 0, .int .i64 0, .int .i64 0], .int .i64 fr]) (by simp [results, Try.results57, Rr0.out, Rr1.out, Rr2.out, Rr3.out, Rr4.out, Rr5.out, Rr6.out, Rl0.out, Rl1.out, Rl2.out, Rl3.out, Rl4.out, Rl5.out, Rl6.out, go_sem]) rfl ⟨ac0, bi0, none, 0, 0, _, rfl, .inl ⟨HV.out, rfl, rfl⟩, deb.fresh_nil _ _, H7B.out⟩
    · have hne : (ft != 0) = true := by simpa using h0
      have HV : Hid (Refused x t m ft) := .inr (.inl ⟨HM.out, fun h => h0 (hft.ok.2 h), hft⟩)
      clear hft h0
      go_wp2_with (first
        | (refine wp_letAll rfl 55 _ _ rfl _ rfl _ rfl (by kernel_rfl) (by simp [Value.oneCell']) _ 55 H2r.out rfl ?_)
        | (refine wp_whole rfl 55 _ rfl _ rfl 55 _ _ H2d.out Try.underlying55 rfl (by kernel_rfl) ?_)
        | (refine wp_whole rfl 40 _ rfl _ rfl 40 _ _ H2t.out Try.underlying40 rfl (by kernel_rfl) ?_)
        | (refine wp_whole rfl 55 _ rfl _ rfl 55 _ _ H2r.out Try.underlying55 rfl (by kernel_rfl) ?_)
        | (refine wp_whole rfl 23 _ rfl _ rfl 23 _ _ H2l.out Try.underlying23 rfl (by kernel_rfl) ?_)
        | fail)
      intro w2a hU
      have H3d := shK hU H2d (by omega)
      have H3t := shK hU H2t (by omega)
      have H3r : Hid (Blk w2a (w.heap.size + 1 + 1) #[.int .i64 0, .int .i64 0, .int .i64 0, .int .i64 0, .int .i64 0, .int .i64 0, .slice none 0 0] 55) := hU.blk
      have H3l := shK hU H2l (by omega)
      have H3B := shV hU H2B (by omega)
      have hsw2a : w2a.heap.size = w2.heap.size := hU.size
      clear hU H2d H2t H2r H2l H2R H2T H2B
      go_wp2_with (first
        | (refine wp_letAll rfl 23 _ _ rfl _ rfl _ rfl (by kernel_rfl) (by simp [Value.oneCell']) _ 23 H3l.out rfl ?_)
        | (refine wp_whole rfl 55 _ rfl _ rfl 55 _ _ H3d.out Try.underlying55 rfl (by kernel_rfl) ?_)
        | (refine wp_whole rfl 40 _ rfl _ rfl 40 _ _ H3t.out Try.underlying40 rfl (by kernel_rfl) ?_)
        | (refine wp_whole rfl 55 _ rfl _ rfl 55 _ _ H3r.out Try.underlying55 rfl (by kernel_rfl) ?_)
        | (refine wp_whole rfl 23 _ rfl _ rfl 23 _ _ H3l.out Try.underlying23 rfl (by kernel_rfl) ?_)
        | fail)
      intro w2ab hU
      have H4d := shK hU H3d (by omega)
      have H4t := shK hU H3t (by omega)
      have H4r := shK hU H3r (by omega)
      have H4l : Hid (Blk w2ab (w.heap.size + 1 + 1 + 1) #[.int .i64 0, .int .i64 0, .int .i64 0, .int .i64 0, .int .i64 0, .int .i64 0, .int .i64 0] 23) := hU.blk
      have H4B := shV hU H3B (by omega)
      have hsw2ab : w2ab.heap.size = w2a.heap.size := hU.size
      clear hU H3d H3t H3r H3l H3B
      obtain ⟨Rr0, Rr1, Rr2, Rr3, Rr4, Rr5, Rr6⟩ := shc7 H4r
      obtain ⟨Rl0, Rl1, Rl2, Rl3, Rl4, Rl5, Rl6⟩ := shc7 H4l
      go_wp2_with fail
      exact bodyPost_ret (v := .tuple #[.agg #[.int .i64 0, .int .i64 0, .int .i64 0, .int .i64 0, .int .i64 0, .int .i64 0, .slice none 0 0], .agg #[.int .i64 0, .int .i64 0, .int .i64 0, .int .i64 0, .int .i64 0, .int .i64 0, .int .i64 0], .int .i64 ft]) (by simp [results, Try.results57, Rr0.out, Rr1.out, Rr2.out, Rr3.out, Rr4.out, Rr5.out, Rr6.out, Rl0.out, Rl1.out, Rl2.out, Rl3.out, Rl4.out, Rl5.out, Rl6.out, go_sem]) rfl ⟨ac0, bi0, none, 0, 0, _, rfl, .inl ⟨HV.out, rfl, rfl⟩, deb.fresh_nil _ _, H4B.out⟩
  · have HM : Hid (¬ AMay x) := hm
    obtain ⟨W0, HWW, H0d, H0t, H0r, H0l, H0B, hs0⟩ := sh4 w #[.int .i64 x.me, .int .i64 x.rv, .int .i64 x.nx, .int .i64 x.mo, .int .i64 x.bo, .int .i64 x.fr, .slice p len cap] 55 #[.slice pt lt ct, .int .i64 t.ff, .int .i64 t.fb, .int .i64 t.db, .int .i64 t.al] 40 #[.int .i64 0, .int .i64 0, .int .i64 0, .int .i64 0, .int .i64 0, .int .i64 0, .slice none 0 0] 55 #[.int .i64 0, .int .i64 0, .int .i64 0, .int .i64 0, .int .i64 0, .int .i64 0, .int .i64 0] 23
    have H0R : Hid (RowD W0 p len x.ds) := h.below H0B.out
    have H0T : Hid (RowD W0 pt lt t.ts) := ht.below H0B.out
    go_enter Try.func57, Try.ntmps57
    go_upto_region 1 with fail
    rw [HWW.out]
    clear HWW
    have HAM : Hid (Calls Try.prog 68 #[.agg #[.int .i64 x.me, .int .i64 x.rv, .int .i64 x.nx, .int .i64 x.mo, .int .i64 x.bo, .int .i64 x.fr, .slice p len cap]] W0 fun e w' => e = .returned (.bool false) ∧ Below W0.heap.size W0 w') := ranot x p len cap _ H0R.out hl hm
    go_wp2_with (first
      | (refine wp_whole rfl 55 _ rfl _ rfl 55 _ _ H0d.out Try.underlying55 rfl (by kernel_rfl) ?_)
      | (refine wp_whole rfl 40 _ rfl _ rfl 40 _ _ H0t.out Try.underlying40 rfl (by kernel_rfl) ?_)
      | (refine wp_whole rfl 55 _ rfl _ rfl 55 _ _ H0r.out Try.underlying55 rfl (by kernel_rfl) ?_)
      | (refine wp_whole rfl 23 _ rfl _ rfl 23 _ _ H0l.out Try.underlying23 rfl (by kernel_rfl) ?_)
      | fail)
    refine HAM.out.mono ?_
    rintro e w1 ⟨rfl, hb1⟩
    have H1d := shN H0d hb1
    have H1t := shN H0t hb1
    have H1r := shN H0r hb1
    have H1l := shN H0l hb1
    have H1R : Hid (RowD w1 p len x.ds) := H0R.out.below hb1
    have H1T : Hid (RowD w1 pt lt t.ts) := H0T.out.below hb1
    have H1B := shB H0B hb1
    have hsw1 : W0.heap.size ≤ w1.heap.size := hb1.size
    clear hb1 H0d H0t H0r H0l H0R H0T H0B
    clear HAM
    go_wp2_with (first
      | (refine wp_letAll rfl 55 _ _ rfl _ rfl _ rfl (by kernel_rfl) (by simp [Value.oneCell']) _ 55 H1r.out rfl ?_)
      | (refine wp_whole rfl 55 _ rfl _ rfl 55 _ _ H1d.out Try.underlying55 rfl (by kernel_rfl) ?_)
      | (refine wp_whole rfl 40 _ rfl _ rfl 40 _ _ H1t.out Try.underlying40 rfl (by kernel_rfl) ?_)
      | (refine wp_whole rfl 55 _ rfl _ rfl 55 _ _ H1r.out Try.underlying55 rfl (by kernel_rfl) ?_)
      | (refine wp_whole rfl 23 _ rfl _ rfl 23 _ _ H1l.out Try.underlying23 rfl (by kernel_rfl) ?_)
      | fail)
    intro w1a hU
    have H2d := shK hU H1d (by omega)
    have H2t := shK hU H1t (by omega)
    have H2r : Hid (Blk w1a (w.heap.size + 1 + 1) #[.int .i64 0, .int .i64 0, .int .i64 0, .int .i64 0, .int .i64 0, .int .i64 0, .slice none 0 0] 55) := hU.blk
    have H2l := shK hU H1l (by omega)
    have H2B := shV hU H1B (by omega)
    have hsw1a : w1a.heap.size = w1.heap.size := hU.size
    clear hU H1d H1t H1r H1l H1R H1T H1B
    go_wp2_with (first
      | (refine wp_letAll rfl 23 _ _ rfl _ rfl _ rfl (by kernel_rfl) (by simp [Value.oneCell']) _ 23 H2l.out rfl ?_)
      | (refine wp_whole rfl 55 _ rfl _ rfl 55 _ _ H2d.out Try.underlying55 rfl (by kernel_rfl) ?_)
      | (refine wp_whole rfl 40 _ rfl _ rfl 40 _ _ H2t.out Try.underlying40 rfl (by kernel_rfl) ?_)
      | (refine wp_whole rfl 55 _ rfl _ rfl 55 _ _ H2r.out Try.underlying55 rfl (by kernel_rfl) ?_)
      | (refine wp_whole rfl 23 _ rfl _ rfl 23 _ _ H2l.out Try.underlying23 rfl (by kernel_rfl) ?_)
      | fail)
    intro w1ab hU
    have H3d := shK hU H2d (by omega)
    have H3t := shK hU H2t (by omega)
    have H3r := shK hU H2r (by omega)
    have H3l : Hid (Blk w1ab (w.heap.size + 1 + 1 + 1) #[.int .i64 0, .int .i64 0, .int .i64 0, .int .i64 0, .int .i64 0, .int .i64 0, .int .i64 0] 23) := hU.blk
    have H3B := shV hU H2B (by omega)
    have hsw1ab : w1ab.heap.size = w1a.heap.size := hU.size
    clear hU H2d H2t H2r H2l H2B
    obtain ⟨Rr0, Rr1, Rr2, Rr3, Rr4, Rr5, Rr6⟩ := shc7 H3r
    obtain ⟨Rl0, Rl1, Rl2, Rl3, Rl4, Rl5, Rl6⟩ := shc7 H3l
    go_wp2_with fail
    exact bodyPost_ret (v := .tuple #[.agg #[.int .i64 0, .int .i64 0, .int .i64 0, .int .i64 0, .int .i64 0, .int .i64 0, .slice none 0 0], .agg #[.int .i64 0, .int .i64 0, .int .i64 0, .int .i64 0, .int .i64 0, .int .i64 0, .int .i64 0], .int .i64 5]) (by simp [results, Try.results57, Rr0.out, Rr1.out, Rr2.out, Rr3.out, Rr4.out, Rr5.out, Rr6.out, Rl0.out, Rl1.out, Rl2.out, Rl3.out, Rl4.out, Rl5.out, Rl6.out, go_sem]) rfl ⟨ac0, bi0, none, 0, 0, _, rfl, .inl ⟨.inl ⟨HM.out, rfl⟩, rfl, rfl⟩, deb.fresh_nil _ _, H3B.out⟩

end Go.Proofs.Ytfhlokjpdkmdjaa.acc

/- What a grant does to a customer, as the document has it. -/
namespace Go.Proofs.Ytfhlokjpdkmdjaa.book
open Go.RowKit
open Go.Proofs.Ytfhlokjpdkmdjaa.acc (Ac Tm Bi APost BPost OweIs SellIs GrantIs RekeyIs)
set_option maxRecDepth 100000
set_option linter.unusedVariables false
set_option linter.unusedSimpArgs false

set_option maxHeartbeats 8000000 in
theorem rhap3 (a : Ac) (sol : List So) (dp : Option Addr) (dn dc : Nat) (sp : Option Addr) (sn sc : Nat) (t : Tm) (pt : Option Addr) (lt ct : Nat) (v : Ev) (base : Nat) (w : World) (hx : Has w base (cuA a dp dn dc sp sn sc) ⟨a, sol⟩) (ht : tar.RowD w pt lt t.ts) (htl : lt ≤ maxLen) (hbase : base ≤ w.heap.size) (hkd : v.kd = 3) (hsol : sol.length ≤ 2000000) :
    Calls Try.prog 38 #[.agg #[.slice pt lt ct, .int .i64 t.ff, .int .i64 t.fb, .int .i64 t.db, .int .i64 t.al], .agg #[.int .i64 a.me, .int .i64 a.rv, .int .i64 a.nx, .int .i64 a.mo, .int .i64 a.bo, .int .i64 a.fr, .slice dp dn dc, .slice sp sn sc], .agg #[.int .i64 v.kd, .int .i64 v.me, .int .i64 v.mo, .int .i64 v.id, .int .i64 v.te, .int .i64 v.de, .int .i64 v.fe, .int .i64 v.pr, .int .i64 v.ch, .int .i64 v.un, .int .i64 v.tg, .int .i64 v.ow, .int .i64 v.bp]] w fun e w' => HapPost w base t (cuA a dp dn dc sp sn sc) ⟨a, sol⟩ v e w' := by
  have n2 : (v.kd == 2) = false := by rw [hkd]; rfl
  have n3 : (v.kd == 3) = true := by rw [hkd]; rfl
  have n4 : (v.kd == 4) = false := by rw [hkd]; rfl
  have n5 : (v.kd == 5) = false := by rw [hkd]; rfl
  have HKD : Hid (v.kd = 3) := hkd
  have HK5 : Hid (v.kd ≠ 5) := by show v.kd ≠ 5; rw [hkd]; decide
  clear hkd
  have HB0 : Hid (Below w.heap.size w w) := Below.refl _ _
  have HH : Hid (Has w base (cuA a dp dn dc sp sn sc) ⟨a, sol⟩) := hx
  have HBS : Hid (base ≤ w.heap.size) := hbase
  have HOWN : Hid (∀ k, (Value.slice sp sn sc).ownBlock = some k → k < w.heap.size) := fun k hk => (World.ownsRow.lt hx.so k hk).2
  have HCA : Hid (∀ W, Below w.heap.size w W → Calls Try.prog 57 #[.agg #[.int .i64 a.me, .int .i64 a.rv, .int .i64 a.nx, .int .i64 a.mo, .int .i64 a.bo, .int .i64 a.fr, .slice dp dn dc], .agg #[.slice pt lt ct, .int .i64 t.ff, .int .i64 t.fb, .int .i64 t.db, .int .i64 t.al], .int .i64 v.mo] W fun e w' => BPost W (GrantIs a t v.mo) e w') := fun W hB => acc.rgranted a dp dn dc t pt lt ct v.mo W (hx.ds.came.below hB).row hx.ds.came.most (ht.below hB) htl
  clear hx ht htl hbase
  obtain ⟨W0, HWW, Ht4, Qx, Qv, Qr, HB4, hz0⟩ := sh4 w #[.slice pt lt ct, .int .i64 t.ff, .int .i64 t.fb, .int .i64 t.db, .int .i64 t.al] 40 #[.int .i64 a.me, .int .i64 a.rv, .int .i64 a.nx, .int .i64 a.mo, .int .i64 a.bo, .int .i64 a.fr, .slice dp dn dc, .slice sp sn sc] 58 #[.int .i64 v.kd, .int .i64 v.me, .int .i64 v.mo, .int .i64 v.id, .int .i64 v.te, .int .i64 v.de, .int .i64 v.fe, .int .i64 v.pr, .int .i64 v.ch, .int .i64 v.un, .int .i64 v.tg, .int .i64 v.ow, .int .i64 v.bp] 27 #[.int .i64 0, .int .i64 0, .int .i64 0, .int .i64 0, .int .i64 0, .int .i64 0, .slice none 0 0, .slice none 0 0] 58
  go_enter Try.func38, Try.ntmps38
  go_upto_region 1 with fail
  rw [HWW.out]
  clear HWW
  have HS0 : Hid (w.heap.size + 1 + 1 + 1 < W0.heap.size) := hz0
  clear hz0
  have kx0 : W0.cell? ⟨w.heap.size + 1, 0, none⟩ = some (.int .i64 a.me) := Qx.out.cell 0
  have kx1 : W0.cell? ⟨w.heap.size + 1, 1, none⟩ = some (.int .i64 a.rv) := Qx.out.cell 1
  have kx2 : W0.cell? ⟨w.heap.size + 1, 2, none⟩ = some (.int .i64 a.nx) := Qx.out.cell 2
  have kx3 : W0.cell? ⟨w.heap.size + 1, 3, none⟩ = some (.int .i64 a.mo) := Qx.out.cell 3
  have kx4 : W0.cell? ⟨w.heap.size + 1, 4, none⟩ = some (.int .i64 a.bo) := Qx.out.cell 4
  have kx5 : W0.cell? ⟨w.heap.size + 1, 5, none⟩ = some (.int .i64 a.fr) := Qx.out.cell 5
  have kx6 : W0.cell? ⟨w.heap.size + 1, 6, none⟩ = some (.slice dp dn dc) := Qx.out.cell 6
  have kx7 : W0.cell? ⟨w.heap.size + 1, 7, none⟩ = some (.slice sp sn sc) := Qx.out.cell 7
  have kv0 : W0.cell? ⟨w.heap.size + 1 + 1, 0, none⟩ = some (.int .i64 v.kd) := Qv.out.cell 0
  have kv1 : W0.cell? ⟨w.heap.size + 1 + 1, 1, none⟩ = some (.int .i64 v.me) := Qv.out.cell 1
  have kv2 : W0.cell? ⟨w.heap.size + 1 + 1, 2, none⟩ = some (.int .i64 v.mo) := Qv.out.cell 2
  have kv3 : W0.cell? ⟨w.heap.size + 1 + 1, 3, none⟩ = some (.int .i64 v.id) := Qv.out.cell 3
  have kv4 : W0.cell? ⟨w.heap.size + 1 + 1, 4, none⟩ = some (.int .i64 v.te) := Qv.out.cell 4
  have kv5 : W0.cell? ⟨w.heap.size + 1 + 1, 5, none⟩ = some (.int .i64 v.de) := Qv.out.cell 5
  have kv6 : W0.cell? ⟨w.heap.size + 1 + 1, 6, none⟩ = some (.int .i64 v.fe) := Qv.out.cell 6
  have kv7 : W0.cell? ⟨w.heap.size + 1 + 1, 7, none⟩ = some (.int .i64 v.pr) := Qv.out.cell 7
  have kv8 : W0.cell? ⟨w.heap.size + 1 + 1, 8, none⟩ = some (.int .i64 v.ch) := Qv.out.cell 8
  have kv9 : W0.cell? ⟨w.heap.size + 1 + 1, 9, none⟩ = some (.int .i64 v.un) := Qv.out.cell 9
  have kv10 : W0.cell? ⟨w.heap.size + 1 + 1, 10, none⟩ = some (.int .i64 v.tg) := Qv.out.cell 10
  have kv11 : W0.cell? ⟨w.heap.size + 1 + 1, 11, none⟩ = some (.int .i64 v.ow) := Qv.out.cell 11
  have kv12 : W0.cell? ⟨w.heap.size + 1 + 1, 12, none⟩ = some (.int .i64 v.bp) := Qv.out.cell 12
  obtain ⟨W1, HWV, Hs5, Qa, Qb, HBX, hz1⟩ := sh3 W0 #[.int .i64 v.id, .int .i64 0, .int .i64 v.un, .int .i64 v.tg, .int .i64 a.rv] 103 #[.int .i64 0, .int .i64 0, .int .i64 0, .int .i64 0, .int .i64 0, .int .i64 0, .slice none 0 0] 55 #[.int .i64 0, .int .i64 0, .int .i64 0, .int .i64 0, .int .i64 0, .int .i64 0, .int .i64 0] 23
  have Ht5 := shN Ht4 HBX.out
  have Hx5 := shN Qx HBX.out
  have Hv5 := shN Qv HBX.out
  have Hr5 := shN Qr HBX.out
  have HB5 := shB HB4 HBX.out
  have HS5 : Hid (W0.heap.size + 1 + 1 < W1.heap.size) := hz1
  clear hz1 HBX
  go_upto_region 8 with fail
  rw [HWV.out]
  clear HWV
  clear kx0 kx1 kx2 kx3 kx4 kx5 kx6 kx7 kv0 kv1 kv2 kv3 kv4 kv5 kv6 kv7 kv8 kv9 kv10 kv11 kv12
  generalize W0.heap.size = gs at *
  have kt0 : W1.cell? ⟨w.heap.size, 0, none⟩ = some (.slice pt lt ct) := Ht5.out.cell 0
  have kt1 : W1.cell? ⟨w.heap.size, 1, none⟩ = some (.int .i64 t.ff) := Ht5.out.cell 1
  have kt2 : W1.cell? ⟨w.heap.size, 2, none⟩ = some (.int .i64 t.fb) := Ht5.out.cell 2
  have kt3 : W1.cell? ⟨w.heap.size, 3, none⟩ = some (.int .i64 t.db) := Ht5.out.cell 3
  have kt4 : W1.cell? ⟨w.heap.size, 4, none⟩ = some (.int .i64 t.al) := Ht5.out.cell 4
  have kx0 : W1.cell? ⟨w.heap.size + 1, 0, none⟩ = some (.int .i64 a.me) := Hx5.out.cell 0
  have kx1 : W1.cell? ⟨w.heap.size + 1, 1, none⟩ = some (.int .i64 a.rv) := Hx5.out.cell 1
  have kx2 : W1.cell? ⟨w.heap.size + 1, 2, none⟩ = some (.int .i64 a.nx) := Hx5.out.cell 2
  have kx3 : W1.cell? ⟨w.heap.size + 1, 3, none⟩ = some (.int .i64 a.mo) := Hx5.out.cell 3
  have kx4 : W1.cell? ⟨w.heap.size + 1, 4, none⟩ = some (.int .i64 a.bo) := Hx5.out.cell 4
  have kx5 : W1.cell? ⟨w.heap.size + 1, 5, none⟩ = some (.int .i64 a.fr) := Hx5.out.cell 5
  have kx6 : W1.cell? ⟨w.heap.size + 1, 6, none⟩ = some (.slice dp dn dc) := Hx5.out.cell 6
  have kx7 : W1.cell? ⟨w.heap.size + 1, 7, none⟩ = some (.slice sp sn sc) := Hx5.out.cell 7
  have kv0 : W1.cell? ⟨w.heap.size + 1 + 1, 0, none⟩ = some (.int .i64 v.kd) := Hv5.out.cell 0
  have kv1 : W1.cell? ⟨w.heap.size + 1 + 1, 1, none⟩ = some (.int .i64 v.me) := Hv5.out.cell 1
  have kv2 : W1.cell? ⟨w.heap.size + 1 + 1, 2, none⟩ = some (.int .i64 v.mo) := Hv5.out.cell 2
  have kv3 : W1.cell? ⟨w.heap.size + 1 + 1, 3, none⟩ = some (.int .i64 v.id) := Hv5.out.cell 3
  have kv4 : W1.cell? ⟨w.heap.size + 1 + 1, 4, none⟩ = some (.int .i64 v.te) := Hv5.out.cell 4
  have kv5 : W1.cell? ⟨w.heap.size + 1 + 1, 5, none⟩ = some (.int .i64 v.de) := Hv5.out.cell 5
  have kv6 : W1.cell? ⟨w.heap.size + 1 + 1, 6, none⟩ = some (.int .i64 v.fe) := Hv5.out.cell 6
  have kv7 : W1.cell? ⟨w.heap.size + 1 + 1, 7, none⟩ = some (.int .i64 v.pr) := Hv5.out.cell 7
  have kv8 : W1.cell? ⟨w.heap.size + 1 + 1, 8, none⟩ = some (.int .i64 v.ch) := Hv5.out.cell 8
  have kv9 : W1.cell? ⟨w.heap.size + 1 + 1, 9, none⟩ = some (.int .i64 v.un) := Hv5.out.cell 9
  have kv10 : W1.cell? ⟨w.heap.size + 1 + 1, 10, none⟩ = some (.int .i64 v.tg) := Hv5.out.cell 10
  have kv11 : W1.cell? ⟨w.heap.size + 1 + 1, 11, none⟩ = some (.int .i64 v.ow) := Hv5.out.cell 11
  have kv12 : W1.cell? ⟨w.heap.size + 1 + 1, 12, none⟩ = some (.int .i64 v.bp) := Hv5.out.cell 12
  have HC1 : Hid (Calls Try.prog 57 #[.agg #[.int .i64 a.me, .int .i64 a.rv, .int .i64 a.nx, .int .i64 a.mo, .int .i64 a.bo, .int .i64 a.fr, .slice dp dn dc], .agg #[.slice pt lt ct, .int .i64 t.ff, .int .i64 t.fb, .int .i64 t.db, .int .i64 t.al], .int .i64 v.mo] W1 fun e w' => BPost W1 (GrantIs a t v.mo) e w') := HCA.out W1 HB5.out
  clear HCA
  go_wp2_with fail
  refine HC1.out.mono ?_
  rintro e w2 ⟨b, l, pb, lb, cb, f, rfl, hi, hf, hb2⟩
  have HI : Hid (GrantIs a t v.mo b l f) := hi
  have Ht6 := shN Ht5 hb2
  have Hx6 := shN Hx5 hb2
  have Hv6 := shN Hv5 hb2
  have Hr6 := shN Hr5 hb2
  have Hs6 := shN Hs5 hb2
  have Ha6 := shN Qa hb2
  have Hb6 := shN Qb hb2
  have HB6 := shB HB5 hb2
  have HF2 : Hid (deb.Fresh w2 W1.heap.size pb lb cb b.ds) := hf
  have HW1 : Hid (W1.heap.size ≤ w2.heap.size) := hb2.size
  clear hb2 hf hi HC1 kt0 kt1 kt2 kt3 kt4 kx0 kx1 kx2 kx3 kx4 kx5 kx6 kx7 kv0 kv1 kv2 kv3 kv4 kv5 kv6 kv7 kv8 kv9 kv10 kv11 kv12
  unfold acc.Ac.v acc.Ac.cs acc.Bi.v
  obtain ⟨kt0, kt1, kt2, kt3, kt4⟩ := scl5 Ht6
  obtain ⟨kx0, kx1, kx2, kx3, kx4, kx5, kx6, kx7⟩ := scl8 Hx6
  obtain ⟨kv0, kv1, kv2, kv3, kv4, kv5, kv6, kv7, kv8, kv9, kv10, kv11, kv12⟩ := scl13 Hv6
  obtain ⟨ks0, ks1, ks2, ks3, ks4⟩ := scl5 Hs6
  go_wp2_with (first | (refine wp_letAll rfl 55 _ _ rfl _ rfl _ rfl (by kernel_rfl) (by simp [Value.oneCell']) _ 55 Ha6.out rfl ?_) | fail)
  intro w3 hU
  have Ht7 : Hid (Blk w3 (w.heap.size) #[.slice pt lt ct, .int .i64 t.ff, .int .i64 t.fb, .int .i64 t.db, .int .i64 t.al] 40) := hU.keep Ht6.out (by have := HS0.out; omega)
  have Hx7 : Hid (Blk w3 (w.heap.size + 1) #[.int .i64 a.me, .int .i64 a.rv, .int .i64 a.nx, .int .i64 a.mo, .int .i64 a.bo, .int .i64 a.fr, .slice dp dn dc, .slice sp sn sc] 58) := hU.keep Hx6.out (by have := HS0.out; omega)
  have Hv7 : Hid (Blk w3 (w.heap.size + 1 + 1) #[.int .i64 v.kd, .int .i64 v.me, .int .i64 v.mo, .int .i64 v.id, .int .i64 v.te, .int .i64 v.de, .int .i64 v.fe, .int .i64 v.pr, .int .i64 v.ch, .int .i64 v.un, .int .i64 v.tg, .int .i64 v.ow, .int .i64 v.bp] 27) := hU.keep Hv6.out (by have := HS0.out; omega)
  have Hr7 : Hid (Blk w3 (w.heap.size + 1 + 1 + 1) #[.int .i64 0, .int .i64 0, .int .i64 0, .int .i64 0, .int .i64 0, .int .i64 0, .slice none 0 0, .slice none 0 0] 58) := hU.keep Hr6.out (by have := HS0.out; omega)
  have Hs7 : Hid (Blk w3 (gs) #[.int .i64 v.id, .int .i64 0, .int .i64 v.un, .int .i64 v.tg, .int .i64 a.rv] 103) := hU.keep Hs6.out (by have := HS0.out; omega)
  have Ha7 : Hid (Blk w3 (gs + 1) #[.int .i64 b.me, .int .i64 b.rv, .int .i64 b.nx, .int .i64 b.mo, .int .i64 b.bo, .int .i64 b.fr, .slice pb lb cb] 55) := hU.blk
  have Hb7 : Hid (Blk w3 (gs + 1 + 1) #[.int .i64 0, .int .i64 0, .int .i64 0, .int .i64 0, .int .i64 0, .int .i64 0, .int .i64 0] 23) := hU.keep Hb6.out (by have := HS0.out; omega)
  have HB7 : Hid (Below w.heap.size w w3) := hU.bel _ _ (by have := HS0.out; omega) HB6.out
  have HF3 : Hid (deb.Fresh w3 W1.heap.size pb lb cb b.ds) := ⟨acc_upd HF2.out.came hU (fun hn y hy q => by have h1 := HF2.out.new hn y hy; have h2 := HS5.out; omega), HF2.out.new⟩
  have HW3 : Hid (w2.heap.size = w3.heap.size) := hU.size.symm
  clear hU kt0 kt1 kt2 kt3 kt4 kx0 kx1 kx2 kx3 kx4 kx5 kx6 kx7 kv0 kv1 kv2 kv3 kv4 kv5 kv6 kv7 kv8 kv9 kv10 kv11 kv12 ks0 ks1 ks2 ks3 ks4
  obtain ⟨kt0, kt1, kt2, kt3, kt4⟩ := scl5 Ht7
  obtain ⟨kx0, kx1, kx2, kx3, kx4, kx5, kx6, kx7⟩ := scl8 Hx7
  obtain ⟨kv0, kv1, kv2, kv3, kv4, kv5, kv6, kv7, kv8, kv9, kv10, kv11, kv12⟩ := scl13 Hv7
  obtain ⟨ks0, ks1, ks2, ks3, ks4⟩ := scl5 Hs7
  go_wp2_with (first | (refine wp_letAll rfl 23 _ _ rfl _ rfl _ rfl (by kernel_rfl) (by simp [Value.oneCell']) _ 23 Hb7.out rfl ?_) | fail)
  intro w4 hU
  have Ht8 : Hid (Blk w4 (w.heap.size) #[.slice pt lt ct, .int .i64 t.ff, .int .i64 t.fb, .int .i64 t.db, .int .i64 t.al] 40) := hU.keep Ht7.out (by have := HS0.out; omega)
  have Hx8 : Hid (Blk w4 (w.heap.size + 1) #[.int .i64 a.me, .int .i64 a.rv, .int .i64 a.nx, .int .i64 a.mo, .int .i64 a.bo, .int .i64 a.fr, .slice dp dn dc, .slice sp sn sc] 58) := hU.keep Hx7.out (by have := HS0.out; omega)
  have Hv8 : Hid (Blk w4 (w.heap.size + 1 + 1) #[.int .i64 v.kd, .int .i64 v.me, .int .i64 v.mo, .int .i64 v.id, .int .i64 v.te, .int .i64 v.de, .int .i64 v.fe, .int .i64 v.pr, .int .i64 v.ch, .int .i64 v.un, .int .i64 v.tg, .int .i64 v.ow, .int .i64 v.bp] 27) := hU.keep Hv7.out (by have := HS0.out; omega)
  have Hr8 : Hid (Blk w4 (w.heap.size + 1 + 1 + 1) #[.int .i64 0, .int .i64 0, .int .i64 0, .int .i64 0, .int .i64 0, .int .i64 0, .slice none 0 0, .slice none 0 0] 58) := hU.keep Hr7.out (by have := HS0.out; omega)
  have Hs8 : Hid (Blk w4 (gs) #[.int .i64 v.id, .int .i64 0, .int .i64 v.un, .int .i64 v.tg, .int .i64 a.rv] 103) := hU.keep Hs7.out (by have := HS0.out; omega)
  have Ha8 : Hid (Blk w4 (gs + 1) #[.int .i64 b.me, .int .i64 b.rv, .int .i64 b.nx, .int .i64 b.mo, .int .i64 b.bo, .int .i64 b.fr, .slice pb lb cb] 55) := hU.keep Ha7.out (by have := HS0.out; omega)
  have Hb8 : Hid (Blk w4 (gs + 1 + 1) #[.int .i64 l.id, .int .i64 l.te, .int .i64 l.de, .int .i64 l.fe, .int .i64 l.pr, .int .i64 l.ch, .int .i64 l.un] 23) := hU.blk
  have HB8 : Hid (Below w.heap.size w w4) := hU.bel _ _ (by have := HS0.out; omega) HB7.out
  have HF4 : Hid (deb.Fresh w4 W1.heap.size pb lb cb b.ds) := ⟨acc_upd HF3.out.came hU (fun hn y hy q => by have h1 := HF3.out.new hn y hy; have h2 := HS5.out; omega), HF3.out.new⟩
  have HW4 : Hid (w3.heap.size = w4.heap.size) := hU.size.symm
  clear hU kt0 kt1 kt2 kt3 kt4 kx0 kx1 kx2 kx3 kx4 kx5 kx6 kx7 kv0 kv1 kv2 kv3 kv4 kv5 kv6 kv7 kv8 kv9 kv10 kv11 kv12 ks0 ks1 ks2 ks3 ks4
  have HW1w : Hid (w.heap.size ≤ W1.heap.size) := by have h1 := HS5.out; have h2 := HS0.out; show _ ≤ _; omega
  have HSZ : Hid (W1.heap.size ≤ w4.heap.size) := by show _ ≤ _; have := HW1.out; have := HW3.out; have := HW4.out; omega
  by_cases hfz : f = 0
  · have HFZ : Hid (f = 0) := hfz
    have nf : (f != 0) = false := by simpa using hfz
    clear hfz
    by_cases hlb : l = billOf v
    · have HLB : Hid (l = billOf v) := hlb
      have qe : ∀ wz : World, (Op.equalIn 10000 23 (.agg #[.int .i64 l.id, .int .i64 l.te, .int .i64 l.de, .int .i64 l.fe, .int .i64 l.pr, .int .i64 l.ch, .int .i64 l.un]) (.agg #[.int .i64 v.id, .int .i64 v.te, .int .i64 v.de, .int .i64 v.fe, .int .i64 v.pr, .int .i64 v.ch, .int .i64 v.un])).run Try.prog wz = .ok true wz := fun wz => by rw [hlb, show (10000 : Nat) = 9998 + 2 from rfl, eqBi]; unfold billOf; simp
      clear hlb
      obtain ⟨kt0, kt1, kt2, kt3, kt4⟩ := scl5 Ht8
      obtain ⟨kx0, kx1, kx2, kx3, kx4, kx5, kx6, kx7⟩ := scl8 Hx8
      obtain ⟨kv0, kv1, kv2, kv3, kv4, kv5, kv6, kv7, kv8, kv9, kv10, kv11, kv12⟩ := scl13 Hv8
      obtain ⟨kb0, kb1, kb2, kb3, kb4, kb5, kb6⟩ := scl7 Hb8
      go_upto_region 20 with fail
      clear kt0 kt1 kt2 kt3 kt4 kx0 kx1 kx2 kx3 kx4 kx5 kx6 kx7 kv0 kv1 kv2 kv3 kv4 kv5 kv6 kv7 kv8 kv9 kv10 kv11 kv12 kb0 kb1 kb2 kb3 kb4 kb5 kb6
      have HSD : Hid ((fun u : World => Blk u (gs + 1) #[.int .i64 b.me, .int .i64 b.rv, .int .i64 b.nx, .int .i64 b.mo, .int .i64 b.bo, .int .i64 b.fr, .slice pb lb cb] 55 ∧ Blk u (w.heap.size + 1) #[.int .i64 a.me, .int .i64 a.rv, .int .i64 a.nx, .int .i64 a.mo, .int .i64 a.bo, .int .i64 a.fr, .slice dp dn dc, .slice sp sn sc] 58 ∧ Blk u gs #[.int .i64 v.id, .int .i64 0, .int .i64 v.un, .int .i64 v.tg, .int .i64 a.rv] 103) w4.drew) := ⟨Ha8.out, Hx8.out, Hs8.out⟩
      refine wp_region_held_drew (S := (fun u : World => Blk u (gs + 1) #[.int .i64 b.me, .int .i64 b.rv, .int .i64 b.nx, .int .i64 b.mo, .int .i64 b.bo, .int .i64 b.fr, .slice pb lb cb] 55 ∧ Blk u (w.heap.size + 1) #[.int .i64 a.me, .int .i64 a.rv, .int .i64 a.nx, .int .i64 a.mo, .int .i64 a.bo, .int .i64 a.fr, .slice dp dn dc, .slice sp sn sc] 58 ∧ Blk u gs #[.int .i64 v.id, .int .i64 0, .int .i64 v.un, .int .i64 v.tg, .int .i64 a.rv] 103)) (by kernel_rfl) HSD.out (fun hHeld => ?_)
      refine take_at 0 96 (.agg #[.int .i64 b.me, .int .i64 b.rv, .int .i64 b.nx, .int .i64 b.mo, .int .i64 b.bo, .int .i64 b.fr, .slice pb lb cb]) _ rfl rfl (by kernel_rfl) (by kernel_rfl) (by kernel_rfl) (fun _ _ _ h => h) (yieldsIf_whole (by rfl) 55 _ rfl (gs + 1) rfl 55 #[.int .i64 b.me, .int .i64 b.rv, .int .i64 b.nx, .int .i64 b.mo, .int .i64 b.bo, .int .i64 b.fr, .slice pb lb cb] _ (fun u hu => hu.1) Try.underlying55 rfl (by kernel_rfl)) hHeld ?_
      simp only [Act.put, List.setIfInBounds_toArray, List.set_cons_zero, List.set_cons_succ]
      refine take_at 1 97 (.pointer (some ⟨w.heap.size + 1, 7, none⟩)) _ rfl rfl (by kernel_rfl) (by kernel_rfl) (by kernel_rfl) (fun _ _ _ h => h) (Or.inl ⟨by rfl, fun v hv => by clear hv; go_simp⟩) hHeld ?_
      simp only [Act.put, List.setIfInBounds_toArray, List.set_cons_zero, List.set_cons_succ]
      refine take_at 2 98 (.slice sp sn sc) _ rfl rfl (by kernel_rfl) (by kernel_rfl) (by kernel_rfl) (fun _ _ _ h => h) (Or.inl ⟨by rfl, fun v hv => by have h2 := hv.2.1.cell 7; clear hv; go_simp⟩) hHeld ?_
      simp only [Act.put, List.setIfInBounds_toArray, List.set_cons_zero, List.set_cons_succ]
      refine take_at 3 99 (.agg #[.int .i64 v.id, .int .i64 0, .int .i64 v.un, .int .i64 v.tg, .int .i64 a.rv]) _ rfl rfl (by kernel_rfl) (by kernel_rfl) (by kernel_rfl) (fun _ _ _ h => h) (yieldsIf_whole (by rfl) 103 _ rfl (gs) rfl 103 #[.int .i64 v.id, .int .i64 0, .int .i64 v.un, .int .i64 v.tg, .int .i64 a.rv] _ (fun u hu => hu.2.2) Try.underlying103 rfl (by kernel_rfl)) hHeld ?_
      simp only [Act.put, List.setIfInBounds_toArray, List.set_cons_zero, List.set_cons_succ]
      have HA0 : Hid (Blk w4.drew (gs + 1) #[.int .i64 b.me, .int .i64 b.rv, .int .i64 b.nx, .int .i64 b.mo, .int .i64 b.bo, .int .i64 b.fr, .slice pb lb cb] 55 ∧ Blk w4.drew (w.heap.size + 1) #[.int .i64 a.me, .int .i64 a.rv, .int .i64 a.nx, .int .i64 a.mo, .int .i64 a.bo, .int .i64 a.fr, .slice dp dn dc, .slice sp sn sc] 58 ∧ Blk w4.drew gs #[.int .i64 v.id, .int .i64 0, .int .i64 v.un, .int .i64 v.tg, .int .i64 a.rv] 103) := HSD.out
      have HR0 : Hid (Blk w4.drew (w.heap.size + 1 + 1 + 1) #[.int .i64 0, .int .i64 0, .int .i64 0, .int .i64 0, .int .i64 0, .int .i64 0, .slice none 0 0, .slice none 0 0] 58) := Hr8.out
      have HB0d : Hid (Below w.heap.size w w4.drew) := HB8.out.drew
      have HF0 : Hid (deb.Fresh w4.drew W1.heap.size pb lb cb b.ds) := drew_fresh HF4.out
      have HSU : Hid (W1.heap.size ≤ w4.drew.heap.size) := HSZ.out
      have HL0 : Hid (Lo w4.drew base (.slice sp sn sc) sol) := HH.out.so.next HB0d.out
      clear HSD
      generalize w4.drew = U at *
      refine wpAnyH_ready (rs := [4]) (by kernel_rfl) (by simp) (AllReadyH.cons rfl (fun K hK => ?_) AllReadyH.nil)
      rw [if_pos (by rfl)]
      have HAA : Hid (Blk (U.alloc (.cells #[.int .i64 v.id, .int .i64 0, .int .i64 v.un, .int .i64 v.tg, .int .i64 a.rv] 103)) (gs + 1) #[.int .i64 b.me, .int .i64 b.rv, .int .i64 b.nx, .int .i64 b.mo, .int .i64 b.bo, .int .i64 b.fr, .slice pb lb cb] 55 ∧ Blk (U.alloc (.cells #[.int .i64 v.id, .int .i64 0, .int .i64 v.un, .int .i64 v.tg, .int .i64 a.rv] 103)) (w.heap.size + 1) #[.int .i64 a.me, .int .i64 a.rv, .int .i64 a.nx, .int .i64 a.mo, .int .i64 a.bo, .int .i64 a.fr, .slice dp dn dc, .slice sp sn sc] 58 ∧ Blk (U.alloc (.cells #[.int .i64 v.id, .int .i64 0, .int .i64 v.un, .int .i64 v.tg, .int .i64 a.rv] 103)) gs #[.int .i64 v.id, .int .i64 0, .int .i64 v.un, .int .i64 v.tg, .int .i64 a.rv] 103) := ⟨HA0.out.1.alloc _, HA0.out.2.1.alloc _, HA0.out.2.2.alloc _⟩
      have HRA : Hid (Blk (U.alloc (.cells #[.int .i64 v.id, .int .i64 0, .int .i64 v.un, .int .i64 v.tg, .int .i64 a.rv] 103)) (w.heap.size + 1 + 1 + 1) #[.int .i64 0, .int .i64 0, .int .i64 0, .int .i64 0, .int .i64 0, .int .i64 0, .slice none 0 0, .slice none 0 0] 58) := HR0.out.alloc _
      have HBA : Hid (Below w.heap.size w (U.alloc (.cells #[.int .i64 v.id, .int .i64 0, .int .i64 v.un, .int .i64 v.tg, .int .i64 a.rv] 103))) := HB0d.out.alloc HB0d.out.size _
      have HFA : Hid (deb.Fresh (U.alloc (.cells #[.int .i64 v.id, .int .i64 0, .int .i64 v.un, .int .i64 v.tg, .int .i64 a.rv] 103)) W1.heap.size pb lb cb b.ds) := HF0.out.below ((Below.refl _ _).alloc (Nat.le_refl _) _)
      have HLA : Hid (Lo (U.alloc (.cells #[.int .i64 v.id, .int .i64 0, .int .i64 v.un, .int .i64 v.tg, .int .i64 a.rv] 103)) base (.slice sp sn sc) sol) := HL0.out.alloc _
      have HNA : Hid (Blk (U.alloc (.cells #[.int .i64 v.id, .int .i64 0, .int .i64 v.un, .int .i64 v.tg, .int .i64 a.rv] 103)) U.heap.size #[.int .i64 v.id, .int .i64 0, .int .i64 v.un, .int .i64 v.tg, .int .i64 a.rv] 103) := Blk.new _ _ _
      have HSA : Hid (W1.heap.size ≤ (U.alloc (.cells #[.int .i64 v.id, .int .i64 0, .int .i64 v.un, .int .i64 v.tg, .int .i64 a.rv] 103)).heap.size) := cell.alloc_le HSU.out _
      refine wp_runOp (v := .slice (some ⟨U.heap.size, 0, none⟩) 1 1) (w' := (U.alloc (.cells #[.int .i64 v.id, .int .i64 0, .int .i64 v.un, .int .i64 v.tg, .int .i64 a.rv] 103))) 100 rfl (by clear hK; go_simp) ?_
      refine hK.out _ _ HAA.out (fun hHeld => ?_)
      clear hK HA0 HR0 HB0d HF0 HL0 HSU
      simp only [Act.put, List.setIfInBounds_toArray, List.set_cons_zero, List.set_cons_succ]
      generalize U.heap.size = gn at *
      generalize U.alloc _ = U2 at *
      refine wpAnyH_ready (rs := [5]) (by kernel_rfl) (by simp) (AllReadyH.cons rfl (fun K hK => ?_) AllReadyH.nil)
      rw [if_pos (by rfl)]
      have HRL : Hid (w.heap.size + 1 + 1 + 1 < U2.heap.size) := HRA.out.lt
      refine step_sold 101 rfl _ _ rfl base gn _ sol ⟨v.id, 0, v.un, v.tg, a.rv⟩ rfl rfl HLA.out HNA.out hsol (Nat.le_trans HBS.out HBA.out.size) ?_
      intro v3 w9 h3 hg3 ho3
      obtain ⟨p3, c3, rfl, _, _, _⟩ := h3.row
      have hown : ∀ g, w.heap.size ≤ g → some g ≠ (Value.slice sp sn sc).ownBlock := fun g hg q => by have := HOWN.out g q.symm; omega
      have hk9 : ∀ g cs ty, w.heap.size ≤ g → Blk U2 g cs ty → Blk w9 g cs ty := fun g cs ty hg hb => by show w9.heap[g]? = _; rw [hg3.block g hb.lt (hown g hg)]; exact hb
      have HA9 : Hid (Blk w9 (gs + 1) #[.int .i64 b.me, .int .i64 b.rv, .int .i64 b.nx, .int .i64 b.mo, .int .i64 b.bo, .int .i64 b.fr, .slice pb lb cb] 55 ∧ Blk w9 (w.heap.size + 1) #[.int .i64 a.me, .int .i64 a.rv, .int .i64 a.nx, .int .i64 a.mo, .int .i64 a.bo, .int .i64 a.fr, .slice dp dn dc, .slice sp sn sc] 58 ∧ Blk w9 gs #[.int .i64 v.id, .int .i64 0, .int .i64 v.un, .int .i64 v.tg, .int .i64 a.rv] 103) := ⟨hk9 _ _ _ (by have := HS0.out; omega) HAA.out.1, hk9 _ _ _ (by omega) HAA.out.2.1, hk9 _ _ _ (by have := HS0.out; omega) HAA.out.2.2⟩
      have HR9 : Hid (Blk w9 (w.heap.size + 1 + 1 + 1) #[.int .i64 0, .int .i64 0, .int .i64 0, .int .i64 0, .int .i64 0, .int .i64 0, .slice none 0 0, .slice none 0 0] 58) := hk9 _ _ _ (by omega) HRA.out
      have HG9 : Hid (w.grownBy w9 (Value.slice sp sn sc).ownBlock) := (grown_of HBA.out _).trans hg3
      have HF9 : Hid (tar.Came w9 pb lb cb b.ds) := came_grown HFA.out.came hg3 (fun hn y hy => hown _ (Nat.le_trans HW1w.out (HFA.out.new hn y hy)))
      have HFN : Hid (0 < lb → ∀ y, pb = some y → W1.heap.size ≤ y.block ∧ y.block < U2.heap.size) := fun hn y hy => ⟨HFA.out.new hn y hy, by obtain ⟨bb, oo, e, lbb, _⟩ := HFA.out.came.row.at hn; rw [hy] at e; rw [Option.some.inj e]; exact lbb⟩
      have HL9 : Hid (Lo w9 base (.slice p3 (sol ++ [(⟨v.id, 0, v.un, v.tg, a.rv⟩ : So)]).length c3) (sol ++ [⟨v.id, 0, v.un, v.tg, a.rv⟩])) := h3
      have HO9 : Hid ((Value.slice p3 (sol ++ [(⟨v.id, 0, v.un, v.tg, a.rv⟩ : So)]).length c3).ownBlock = (Value.slice sp sn sc).ownBlock ∨ (Value.slice p3 (sol ++ [(⟨v.id, 0, v.un, v.tg, a.rv⟩ : So)]).length c3).ownBlock = some U2.heap.size) := ho3
      have HU2 : Hid (w.heap.size ≤ U2.heap.size) := HBA.out.size
      refine hK.out _ _ HA9.out (fun hHeld => ?_)
      clear hK h3 hg3 ho3 hown hk9 HAA HRA HBA HFA HLA HNA HSA
      simp only [Act.put, List.setIfInBounds_toArray, List.set_cons_zero, List.set_cons_succ]
      generalize (sol ++ [(⟨v.id, 0, v.un, v.tg, a.rv⟩ : So)]).length = n3 at *
      refine take_at 6 102 (.agg #[.int .i64 b.me, .int .i64 b.rv, .int .i64 b.nx, .int .i64 b.mo, .int .i64 b.bo, .int .i64 b.fr, .slice pb lb cb, .slice p3 n3 c3]) _ rfl rfl (by kernel_rfl) (by kernel_rfl) (by kernel_rfl) (fun _ _ _ h => h) (Or.inl ⟨by rfl, fun v hv => by clear hv; go_simp⟩) hHeld ?_
      simp only [Act.put, List.setIfInBounds_toArray, List.set_cons_zero, List.set_cons_succ]
      refine wpAnyH_ready (rs := [7]) (by kernel_rfl) (by simp) (AllReadyH.cons rfl (fun K hK => ?_) AllReadyH.nil)
      rw [if_pos (by rfl)]
      refine wp_letOp 58 _ _ rfl (w.heap.size + 1 + 1 + 1) rfl #[.int .i64 b.me, .int .i64 b.rv, .int .i64 b.nx, .int .i64 b.mo, .int .i64 b.bo, .int .i64 b.fr, .slice pb lb cb, .slice p3 n3 c3] rfl (by kernel_rfl) (by simp [Value.oneCell']) #[.int .i64 0, .int .i64 0, .int .i64 0, .int .i64 0, .int .i64 0, .int .i64 0, .slice none 0 0, .slice none 0 0] 58 HR9.out rfl rfl ?_
      intro WF hU
      have HRF : Hid (Blk WF (w.heap.size + 1 + 1 + 1) #[.int .i64 b.me, .int .i64 b.rv, .int .i64 b.nx, .int .i64 b.mo, .int .i64 b.bo, .int .i64 b.fr, .slice pb lb cb, .slice p3 n3 c3] 58) := hU.blk
      have HUF : Hid (Upd w9 WF (w.heap.size + 1 + 1 + 1) #[.int .i64 b.me, .int .i64 b.rv, .int .i64 b.nx, .int .i64 b.mo, .int .i64 b.bo, .int .i64 b.fr, .slice pb lb cb, .slice p3 n3 c3] 58) := hU
      have HAF : Hid (Blk WF (gs + 1) #[.int .i64 b.me, .int .i64 b.rv, .int .i64 b.nx, .int .i64 b.mo, .int .i64 b.bo, .int .i64 b.fr, .slice pb lb cb] 55 ∧ Blk WF (w.heap.size + 1) #[.int .i64 a.me, .int .i64 a.rv, .int .i64 a.nx, .int .i64 a.mo, .int .i64 a.bo, .int .i64 a.fr, .slice dp dn dc, .slice sp sn sc] 58 ∧ Blk WF gs #[.int .i64 v.id, .int .i64 0, .int .i64 v.un, .int .i64 v.tg, .int .i64 a.rv] 103) := ⟨hU.keep HA9.out.1 (by have := HS0.out; omega), hU.keep HA9.out.2.1 (by omega), hU.keep HA9.out.2.2 (by have := HS0.out; omega)⟩
      refine hK.out _ _ HAF.out (fun hHeld => ?_)
      clear hK hU HA9 HR9
      refine take_at 8 7 (.int .i64 0) _ rfl rfl (by kernel_rfl) (by kernel_rfl) (by kernel_rfl) (fun _ _ _ h => h) (Or.inl ⟨by rfl, fun v hv => by clear hv; go_simp⟩) hHeld ?_
      simp only [Act.put, List.setIfInBounds_toArray, List.set_cons_zero, List.set_cons_succ]
      refine wpAnyH_done (by kernel_rfl) ?_ _
      clear hHeld
      have R0 : Hid (WF.cell? ⟨w.heap.size + 1 + 1 + 1, 0, none⟩ = some (.int .i64 b.me)) := HRF.out.cell 0
      have R1 : Hid (WF.cell? ⟨w.heap.size + 1 + 1 + 1, 1, none⟩ = some (.int .i64 b.rv)) := HRF.out.cell 1
      have R2 : Hid (WF.cell? ⟨w.heap.size + 1 + 1 + 1, 2, none⟩ = some (.int .i64 b.nx)) := HRF.out.cell 2
      have R3 : Hid (WF.cell? ⟨w.heap.size + 1 + 1 + 1, 3, none⟩ = some (.int .i64 b.mo)) := HRF.out.cell 3
      have R4 : Hid (WF.cell? ⟨w.heap.size + 1 + 1 + 1, 4, none⟩ = some (.int .i64 b.bo)) := HRF.out.cell 4
      have R5 : Hid (WF.cell? ⟨w.heap.size + 1 + 1 + 1, 5, none⟩ = some (.int .i64 b.fr)) := HRF.out.cell 5
      have R6 : Hid (WF.cell? ⟨w.heap.size + 1 + 1 + 1, 6, none⟩ = some (.slice pb lb cb)) := HRF.out.cell 6
      have R7 : Hid (WF.cell? ⟨w.heap.size + 1 + 1 + 1, 7, none⟩ = some (.slice p3 n3 c3)) := HRF.out.cell 7
      have HFIN : Hid (HapPost w base t (cuA a dp dn dc sp sn sc) ⟨a, sol⟩ v (.returned (.tuple #[.agg #[.int .i64 b.me, .int .i64 b.rv, .int .i64 b.nx, .int .i64 b.mo, .int .i64 b.bo, .int .i64 b.fr, .slice pb lb cb, .slice p3 n3 c3], .int .i64 0])) WF) := by
        have hgf : w.grownBy WF (Value.slice sp sn sc).ownBlock := grown_upd HG9.out HUF.out (by omega)
        have hso : soldOf ⟨a, sol⟩ v = ⟨v.id, 0, v.un, v.tg, a.rv⟩ := by unfold soldOf; rw [if_neg (by rw [HKD.out]; decide)]
        refine ⟨cuA b pb lb cb p3 n3 c3, ⟨b, sol ++ [soldOf ⟨a, sol⟩ v]⟩, 0, rfl, .inr ⟨HK5.out, b, l, f, .inr (.inl ⟨HKD.out, HI.out⟩), .inr (.inr ⟨HFZ.out, HLB.out, rfl, rfl⟩)⟩, fun _ => ?_, hgf⟩
        rw [hso]
        refine ⟨hgf, ⟨cuA_num _ _ _ _ _ _ _, ⟨acc_upd HF9.out HUF.out (fun hn y hy q => by have h1 := (HFN.out hn y hy).1; have h2 := HS5.out; have h3 := HS0.out; omega), fun hn y hy => by have h1 := (HFN.out hn y hy).1; have h2 := HW1w.out; have h3 := HBS.out; omega⟩, lo_upd HL9.out HUF.out (fun g hg q => ?_)⟩, fun g hg => ?_, fun hn y hy => Nat.le_trans HW1w.out (HFN.out hn y hy).1, fun g hg hn y hy q => ?_⟩
        · have h0 : (Value.slice p3 n3 c3).ownBlock = some g := hg
          rcases HO9.out with e | e
          · rw [e] at h0; have := HOWN.out g h0; omega
          · rw [e] at h0; have h1 := Option.some.inj h0; have h2 := HRL.out; omega
        · rcases HO9.out with e | e
          · exact .inl (e.symm.trans hg)
          · refine .inr ?_
            have h0 : (Value.slice p3 n3 c3).ownBlock = some g := hg
            rw [e] at h0
            have h1 := Option.some.inj h0
            have h2 := HU2.out
            omega
        · have h0 : (Value.slice p3 n3 c3).ownBlock = some g := hg
          have h1 := HFN.out hn y hy
          rcases HO9.out with e | e
          · rw [e] at h0; have h2 := HOWN.out g h0; have h3 := HW1w.out; omega
          · rw [e] at h0; have h2 := Option.some.inj h0; omega
      go_wp2_with fail
      exact bodyPost_ret (v := .tuple #[.agg #[.int .i64 b.me, .int .i64 b.rv, .int .i64 b.nx, .int .i64 b.mo, .int .i64 b.bo, .int .i64 b.fr, .slice pb lb cb, .slice p3 n3 c3], .int .i64 0]) (by simp [results, Try.results38, R0.out, R1.out, R2.out, R3.out, R4.out, R5.out, R6.out, R7.out, go_sem]) rfl HFIN.out
    · have HLB : Hid (l ≠ billOf v) := hlb
      have qe : ∀ wz : World, (Op.equalIn 10000 23 (.agg #[.int .i64 l.id, .int .i64 l.te, .int .i64 l.de, .int .i64 l.fe, .int .i64 l.pr, .int .i64 l.ch, .int .i64 l.un]) (.agg #[.int .i64 v.id, .int .i64 v.te, .int .i64 v.de, .int .i64 v.fe, .int .i64 v.pr, .int .i64 v.ch, .int .i64 v.un])).run Try.prog wz = .ok false wz := fun wz => by rw [show (10000 : Nat) = 9998 + 2 from rfl, eqBi]; exact congrArg (fun q => Result.ok q wz) (decide_eq_false (bill_ne hlb))
      clear hlb
      have HNZ : Hid (¬ (8 : Int) = 0) := by show ¬ (8 : Int) = 0; decide
      obtain ⟨kt0, kt1, kt2, kt3, kt4⟩ := scl5 Ht8
      obtain ⟨kx0, kx1, kx2, kx3, kx4, kx5, kx6, kx7⟩ := scl8 Hx8
      obtain ⟨kv0, kv1, kv2, kv3, kv4, kv5, kv6, kv7, kv8, kv9, kv10, kv11, kv12⟩ := scl13 Hv8
      obtain ⟨ks0, ks1, ks2, ks3, ks4⟩ := scl5 Hs8
      obtain ⟨kb0, kb1, kb2, kb3, kb4, kb5, kb6⟩ := scl7 Hb8
      go_wp2_with (first | (refine wp_letAll rfl 58 _ _ rfl _ rfl _ rfl (by kernel_rfl) (by simp [Value.oneCell']) _ 58 Hr8.out rfl ?_) | fail)
      intro WF hU
      have HRF : Hid (Blk WF (w.heap.size + 1 + 1 + 1) #[.int .i64 0, .int .i64 0, .int .i64 0, .int .i64 0, .int .i64 0, .int .i64 0, .slice none 0 0, .slice none 0 0] 58) := hU.blk
      have HBF := shV hU HB8 (by omega)
      clear hU kt0 kt1 kt2 kt3 kt4 kx0 kx1 kx2 kx3 kx4 kx5 kx6 kx7 kv0 kv1 kv2 kv3 kv4 kv5 kv6 kv7 kv8 kv9 kv10 kv11 kv12 ks0 ks1 ks2 ks3 ks4 kb0 kb1 kb2 kb3 kb4 kb5 kb6
      obtain ⟨R0, R1, R2, R3, R4, R5, R6, R7⟩ := shc8 HRF
      have HFIN : Hid (HapPost w base t (cuA a dp dn dc sp sn sc) ⟨a, sol⟩ v (.returned (.tuple #[.agg #[.int .i64 0, .int .i64 0, .int .i64 0, .int .i64 0, .int .i64 0, .int .i64 0, .slice none 0 0, .slice none 0 0], .int .i64 8])) WF) := ⟨cu0, cm0, 8, rfl, .inr ⟨HK5.out, b, l, f, .inr (.inl ⟨HKD.out, HI.out⟩), .inr (.inl ⟨HFZ.out, HLB.out, rfl⟩)⟩, fun h => absurd h HNZ.out, grown_of HBF.out _⟩
      go_wp2_with fail
      exact bodyPost_ret (v := .tuple #[.agg #[.int .i64 0, .int .i64 0, .int .i64 0, .int .i64 0, .int .i64 0, .int .i64 0, .slice none 0 0, .slice none 0 0], .int .i64 8]) (by simp [results, Try.results38, R0.out, R1.out, R2.out, R3.out, R4.out, R5.out, R6.out, R7.out, go_sem]) rfl HFIN.out
  · have HNZ : Hid (¬ f = 0) := hfz
    have nf : (f != 0) = true := by simpa using hfz
    clear hfz
    obtain ⟨kt0, kt1, kt2, kt3, kt4⟩ := scl5 Ht8
    obtain ⟨kx0, kx1, kx2, kx3, kx4, kx5, kx6, kx7⟩ := scl8 Hx8
    obtain ⟨kv0, kv1, kv2, kv3, kv4, kv5, kv6, kv7, kv8, kv9, kv10, kv11, kv12⟩ := scl13 Hv8
    obtain ⟨ks0, ks1, ks2, ks3, ks4⟩ := scl5 Hs8
    obtain ⟨kb0, kb1, kb2, kb3, kb4, kb5, kb6⟩ := scl7 Hb8
    go_wp2_with (first | (refine wp_letAll rfl 58 _ _ rfl _ rfl _ rfl (by kernel_rfl) (by simp [Value.oneCell']) _ 58 Hr8.out rfl ?_) | fail)
    intro WF hU
    have HRF : Hid (Blk WF (w.heap.size + 1 + 1 + 1) #[.int .i64 0, .int .i64 0, .int .i64 0, .int .i64 0, .int .i64 0, .int .i64 0, .slice none 0 0, .slice none 0 0] 58) := hU.blk
    have HBF := shV hU HB8 (by omega)
    clear hU kt0 kt1 kt2 kt3 kt4 kx0 kx1 kx2 kx3 kx4 kx5 kx6 kx7 kv0 kv1 kv2 kv3 kv4 kv5 kv6 kv7 kv8 kv9 kv10 kv11 kv12 ks0 ks1 ks2 ks3 ks4 kb0 kb1 kb2 kb3 kb4 kb5 kb6
    obtain ⟨R0, R1, R2, R3, R4, R5, R6, R7⟩ := shc8 HRF
    have HFIN : Hid (HapPost w base t (cuA a dp dn dc sp sn sc) ⟨a, sol⟩ v (.returned (.tuple #[.agg #[.int .i64 0, .int .i64 0, .int .i64 0, .int .i64 0, .int .i64 0, .int .i64 0, .slice none 0 0, .slice none 0 0], .int .i64 f])) WF) := ⟨cu0, cm0, f, rfl, .inr ⟨HK5.out, b, l, f, .inr (.inl ⟨HKD.out, HI.out⟩), .inl ⟨HNZ.out, rfl⟩⟩, fun h => absurd h HNZ.out, grown_of HBF.out _⟩
    go_wp2_with fail
    exact bodyPost_ret (v := .tuple #[.agg #[.int .i64 0, .int .i64 0, .int .i64 0, .int .i64 0, .int .i64 0, .int .i64 0, .slice none 0 0, .slice none 0 0], .int .i64 f]) (by simp [results, Try.results38, R0.out, R1.out, R2.out, R3.out, R4.out, R5.out, R6.out, R7.out, go_sem]) rfl HFIN.out

end Go.Proofs.Ytfhlokjpdkmdjaa.book

/- A key that is changed, as the document has it. -/
namespace Go.Proofs.Ytfhlokjpdkmdjaa.acc
open Go.Proofs.Ytfhlokjpdkmdjaa.tar (Du du0 Came RowD Ld PairT)
open Go.RowKit
set_option maxRecDepth 100000
set_option linter.unusedVariables false
set_option linter.unusedSimpArgs false

set_option maxHeartbeats 8000000 in
theorem rrekeyed (x : Ac) (p : Option Addr) (len cap : Nat) (w : World) (h : RowD w p len x.ds) (hl : len ≤ maxLen) : Calls Try.prog 58 #[.agg #[.int .i64 x.me, .int .i64 x.rv, .int .i64 x.nx, .int .i64 x.mo, .int .i64 x.bo, .int .i64 x.fr, .slice p len cap]] w fun e w' => BPost w (RekeyIs x) e w' := by
  by_cases hm : AMay x
  · have HM : Hid (AMay x) := hm
    have hdm := hm.1
    have hnx := hm.2.2.2.1
    have hrv := hm.2.2.1
    obtain ⟨W0, HWW, H0d, H0r, H0l, H0B, hs0⟩ := sh3 w #[.int .i64 x.me, .int .i64 x.rv, .int .i64 x.nx, .int .i64 x.mo, .int .i64 x.bo, .int .i64 x.fr, .slice p len cap] 55 #[.int .i64 0, .int .i64 0, .int .i64 0, .int .i64 0, .int .i64 0, .int .i64 0, .slice none 0 0] 55 #[.int .i64 0, .int .i64 0, .int .i64 0, .int .i64 0, .int .i64 0, .int .i64 0, .int .i64 0] 23
    have H0R : Hid (RowD W0 p len x.ds) := h.below H0B.out
    go_enter Try.func58, Try.ntmps58
    go_upto_region 1 with fail
    rw [HWW.out]
    clear HWW
    have HAM : Hid (Calls Try.prog 68 #[.agg #[.int .i64 x.me, .int .i64 x.rv, .int .i64 x.nx, .int .i64 x.mo, .int .i64 x.bo, .int .i64 x.fr, .slice p len cap]] W0 fun e w' => e = .returned (.bool true) ∧ Below W0.heap.size W0 w') := ramay x p len cap _ H0R.out hl hm
    go_wp2_with (first
      | (refine wp_whole rfl 55 _ rfl _ rfl 55 _ _ H0d.out Try.underlying55 rfl (by kernel_rfl) ?_)
      | (refine wp_whole rfl 55 _ rfl _ rfl 55 _ _ H0r.out Try.underlying55 rfl (by kernel_rfl) ?_)
      | (refine wp_whole rfl 23 _ rfl _ rfl 23 _ _ H0l.out Try.underlying23 rfl (by kernel_rfl) ?_)
      | fail)
    refine HAM.out.mono ?_
    rintro e w1 ⟨rfl, hb1⟩
    have H1d := shN H0d hb1
    have H1r := shN H0r hb1
    have H1l := shN H0l hb1
    have H1R : Hid (RowD w1 p len x.ds) := H0R.out.below hb1
    have H1B := shB H0B hb1
    have hsw1 : W0.heap.size ≤ w1.heap.size := hb1.size
    clear hb1 H0d H0r H0l H0R H0B
    clear HAM hm
    by_cases h1 : x.rv < 15
    · have d1 : decide (15 ≤ x.rv) = false := decide_eq_false (by omega)
      by_cases h2 : x.nx ≤ 1048575
      · have d2 : (x.nx == 1048576) = false := by simp; omega
        have HCP : Hid (Calls Try.prog 69 #[.agg #[.int .i64 x.me, .int .i64 x.rv, .int .i64 x.nx, .int .i64 x.mo, .int .i64 x.bo, .int .i64 x.fr, .slice p len cap]] w1 fun e w' => ∃ p' cap', e = .returned (Ac.v x p' len cap') ∧ deb.Fresh w' w1.heap.size p' len cap' x.ds ∧ Below w1.heap.size w1 w') := rcopy x p len cap w1 H1R.out hdm
        have qd1 : w1.cell? ⟨w.heap.size, 1, none⟩ = some (.int .i64 x.rv) := H1d.out.cell 1
        have qd2 : w1.cell? ⟨w.heap.size, 2, none⟩ = some (.int .i64 x.nx) := H1d.out.cell 2
        go_wp2_with (first
          | (refine wp_whole rfl 55 _ rfl _ rfl 55 _ _ H1d.out Try.underlying55 rfl (by kernel_rfl) ?_)
          | (refine wp_whole rfl 55 _ rfl _ rfl 55 _ _ H1r.out Try.underlying55 rfl (by kernel_rfl) ?_)
          | (refine wp_whole rfl 23 _ rfl _ rfl 23 _ _ H1l.out Try.underlying23 rfl (by kernel_rfl) ?_)
          | fail)
        refine HCP.out.mono ?_
        rintro e w3 ⟨p3, cap3, rfl, hf3, hb3⟩
        have H2d := shN H1d hb3
        have H2r := shN H1r hb3
        have H2l := shN H1l hb3
        have H2R : Hid (RowD w3 p len x.ds) := H1R.out.below hb3
        have H2B := shB H1B hb3
        have hsw3 : w1.heap.size ≤ w3.heap.size := hb3.size
        clear hb3 H1d H1r H1l H1R H1B
        clear qd1 qd2
        unfold Ac.v Ac.cs
        have H3F : Hid (deb.Fresh w3 w1.heap.size p3 len cap3 x.ds) := hf3
        have HUPF : Hid (0 < len → ∀ y, p3 = some y → y.block < w3.heap.size) := came_lt H3F.out.came
        clear hf3 HCP
        have H4d : Hid (Blk (w3.alloc (.cells #[.int .i64 x.me, .int .i64 x.rv, .int .i64 x.nx, .int .i64 x.mo, .int .i64 x.bo, .int .i64 x.fr, .slice p3 len cap3] 55)) (w.heap.size) #[.int .i64 x.me, .int .i64 x.rv, .int .i64 x.nx, .int .i64 x.mo, .int .i64 x.bo, .int .i64 x.fr, .slice p len cap] 55) := H2d.out.alloc _
        have H4r : Hid (Blk (w3.alloc (.cells #[.int .i64 x.me, .int .i64 x.rv, .int .i64 x.nx, .int .i64 x.mo, .int .i64 x.bo, .int .i64 x.fr, .slice p3 len cap3] 55)) (w.heap.size + 1) #[.int .i64 0, .int .i64 0, .int .i64 0, .int .i64 0, .int .i64 0, .int .i64 0, .slice none 0 0] 55) := H2r.out.alloc _
        have H4l : Hid (Blk (w3.alloc (.cells #[.int .i64 x.me, .int .i64 x.rv, .int .i64 x.nx, .int .i64 x.mo, .int .i64 x.bo, .int .i64 x.fr, .slice p3 len cap3] 55)) (w.heap.size + 1 + 1) #[.int .i64 0, .int .i64 0, .int .i64 0, .int .i64 0, .int .i64 0, .int .i64 0, .int .i64 0] 23) := H2l.out.alloc _
        have H4F : Hid (deb.Fresh (w3.alloc (.cells #[.int .i64 x.me, .int .i64 x.rv, .int .i64 x.nx, .int .i64 x.mo, .int .i64 x.bo, .int .i64 x.fr, .slice p3 len cap3] 55)) w1.heap.size p3 len cap3 x.ds) := H3F.out.below ((Below.refl w3.heap.size w3).alloc (Nat.le_refl _) _)
        have H4n : Hid (Blk (w3.alloc (.cells #[.int .i64 x.me, .int .i64 x.rv, .int .i64 x.nx, .int .i64 x.mo, .int .i64 x.bo, .int .i64 x.fr, .slice p3 len cap3] 55)) w3.heap.size #[.int .i64 x.me, .int .i64 x.rv, .int .i64 x.nx, .int .i64 x.mo, .int .i64 x.bo, .int .i64 x.fr, .slice p3 len cap3] 55) := Blk.new w3 _ _
        have H4B : Hid (Below w.heap.size w (w3.alloc (.cells #[.int .i64 x.me, .int .i64 x.rv, .int .i64 x.nx, .int .i64 x.mo, .int .i64 x.bo, .int .i64 x.fr, .slice p3 len cap3] 55))) := H2B.out.alloc H2B.out.size _
        have hsW4 : w3.heap.size < (w3.alloc (.cells #[.int .i64 x.me, .int .i64 x.rv, .int .i64 x.nx, .int .i64 x.mo, .int .i64 x.bo, .int .i64 x.fr, .slice p3 len cap3] 55)).heap.size := (Blk.new w3 #[.int .i64 x.me, .int .i64 x.rv, .int .i64 x.nx, .int .i64 x.mo, .int .i64 x.bo, .int .i64 x.fr, .slice p3 len cap3] 55).lt
        clear H2d H2r H2l H3F H2B
        go_upto_region 8 with fail
        generalize (w3.alloc (.cells #[.int .i64 x.me, .int .i64 x.rv, .int .i64 x.nx, .int .i64 x.mo, .int .i64 x.bo, .int .i64 x.fr, .slice p3 len cap3] 55)) = W4 at *
        have qd1 : W4.cell? ⟨w.heap.size, 1, none⟩ = some (.int .i64 x.rv) := H4d.out.cell 1
        go_wp2_with (first
          | (refine wp_let1 rfl 3 _ _ rfl (w3.heap.size) 1 rfl .i64 (x.rv + 1) rfl (by kernel_rfl) #[.int .i64 x.me, .int .i64 x.rv, .int .i64 x.nx, .int .i64 x.mo, .int .i64 x.bo, .int .i64 x.fr, .slice p3 len cap3] 55 H4n.out (by simp) ?_)
          | (refine wp_whole rfl 55 _ rfl _ rfl 55 _ _ H4d.out Try.underlying55 rfl (by kernel_rfl) ?_)
          | (refine wp_whole rfl 55 _ rfl _ rfl 55 _ _ H4r.out Try.underlying55 rfl (by kernel_rfl) ?_)
          | (refine wp_whole rfl 23 _ rfl _ rfl 23 _ _ H4l.out Try.underlying23 rfl (by kernel_rfl) ?_)
          | (refine wp_whole rfl 55 _ rfl _ rfl 55 _ _ H4n.out Try.underlying55 rfl (by kernel_rfl) ?_)
          | fail)
        intro W5 hU
        have H5d := shK hU H4d (by omega)
        have H5r := shK hU H4r (by omega)
        have H5l := shK hU H4l (by omega)
        have H5n : Hid (Blk W5 (w3.heap.size) #[.int .i64 x.me, .int .i64 (x.rv + 1), .int .i64 x.nx, .int .i64 x.mo, .int .i64 x.bo, .int .i64 x.fr, .slice p3 len cap3] 55) := hU.blk
        have H5F : Hid (deb.Fresh W5 w1.heap.size p3 len cap3 x.ds) := fresh_updN H4F.out hU (fun hn y hy => by have f1 := H4F.out.new hn y hy; have f2 := HUPF.out hn y hy; omega)
        have H5B := shV hU H4B (by omega)
        have hsW5 : W5.heap.size = W4.heap.size := hU.size
        clear hU H4d H4r H4l H4n H4F H4B
        clear qd1
        have qd2 : W5.cell? ⟨w.heap.size, 2, none⟩ = some (.int .i64 x.nx) := H5d.out.cell 2
        go_wp2_with (first
          | (refine wp_let1 rfl 3 _ _ rfl (w3.heap.size) 2 rfl .i64 (x.nx + 1) rfl (by kernel_rfl) #[.int .i64 x.me, .int .i64 (x.rv + 1), .int .i64 x.nx, .int .i64 x.mo, .int .i64 x.bo, .int .i64 x.fr, .slice p3 len cap3] 55 H5n.out (by simp) ?_)
          | (refine wp_whole rfl 55 _ rfl _ rfl 55 _ _ H5d.out Try.underlying55 rfl (by kernel_rfl) ?_)
          | (refine wp_whole rfl 55 _ rfl _ rfl 55 _ _ H5r.out Try.underlying55 rfl (by kernel_rfl) ?_)
          | (refine wp_whole rfl 23 _ rfl _ rfl 23 _ _ H5l.out Try.underlying23 rfl (by kernel_rfl) ?_)
          | (refine wp_whole rfl 55 _ rfl _ rfl 55 _ _ H5n.out Try.underlying55 rfl (by kernel_rfl) ?_)
          | fail)
        intro W6 hU
        have H6d := shK hU H5d (by omega)
        have H6r := shK hU H5r (by omega)
        have H6l := shK hU H5l (by omega)
        have H6n : Hid (Blk W6 (w3.heap.size) #[.int .i64 x.me, .int .i64 (x.rv + 1), .int .i64 (x.nx + 1), .int .i64 x.mo, .int .i64 x.bo, .int .i64 x.fr, .slice p3 len cap3] 55) := hU.blk
        have H6F : Hid (deb.Fresh W6 w1.heap.size p3 len cap3 x.ds) := fresh_updN H5F.out hU (fun hn y hy => by have f1 := H5F.out.new hn y hy; have f2 := HUPF.out hn y hy; omega)
        have H6B := shV hU H5B (by omega)
        have hsW6 : W6.heap.size = W5.heap.size := hU.size
        clear hU H5d H5r H5l H5n H5F H5B
        clear qd2
        go_upto_region 10 with fail
        refine wp_region_held_drew (S := fun v => Blk v (w3.heap.size) #[.int .i64 x.me, .int .i64 (x.rv + 1), .int .i64 (x.nx + 1), .int .i64 x.mo, .int .i64 x.bo, .int .i64 x.fr, .slice p3 len cap3] 55 ∧ Blk v (w.heap.size) #[.int .i64 x.me, .int .i64 x.rv, .int .i64 x.nx, .int .i64 x.mo, .int .i64 x.bo, .int .i64 x.fr, .slice p len cap] 55) (by kernel_rfl) ⟨Blk.drew H6n.out 1, Blk.drew H6d.out 1⟩ (fun hHeld => ?_)
        refine take_at 0 31 (.agg #[.int .i64 x.me, .int .i64 (x.rv + 1), .int .i64 (x.nx + 1), .int .i64 x.mo, .int .i64 x.bo, .int .i64 x.fr, .slice p3 len cap3]) _ rfl rfl (by kernel_rfl) (by kernel_rfl) (by kernel_rfl) (fun _ _ _ h => h) (Or.inl ⟨by rfl, fun v hv => by have g0 := hv.1.cell 0; have g1 := hv.1.cell 1; have g2 := hv.1.cell 2; have g3 := hv.1.cell 3; have g4 := hv.1.cell 4; have g5 := hv.1.cell 5; have g6 := hv.1.cell 6; clear hv; go_simp⟩) hHeld ?_
        simp only [Act.put, List.setIfInBounds_toArray, List.set_cons_zero, List.set_cons_succ]
        refine take_at 1 32 (.pointer (some ⟨w.heap.size, 2, none⟩)) _ rfl rfl (by kernel_rfl) (by kernel_rfl) (by kernel_rfl) (fun _ _ _ h => h) (Or.inl ⟨by rfl, fun v hv => by clear hv; go_simp⟩) hHeld ?_
        simp only [Act.put, List.setIfInBounds_toArray, List.set_cons_zero, List.set_cons_succ]
        refine take_at 2 33 (.int .i64 x.nx) _ rfl rfl (by kernel_rfl) (by kernel_rfl) (by kernel_rfl) (fun _ _ _ h => h) (Or.inl ⟨by rfl, fun v hv => by have g := hv.2.cell 2; clear hv; go_simp⟩) hHeld ?_
        simp only [Act.put, List.setIfInBounds_toArray, List.set_cons_zero, List.set_cons_succ]
        refine take_at 3 34 (.agg #[.int .i64 x.nx, .int .i64 0, .int .i64 0, .int .i64 0, .int .i64 0, .int .i64 0, .int .i64 0]) _ rfl rfl (by kernel_rfl) (by kernel_rfl) (by kernel_rfl) (fun _ _ _ h => h) (Or.inl ⟨by rfl, fun v hv => by clear hv; go_simp⟩) hHeld ?_
        simp only [Act.put, List.setIfInBounds_toArray, List.set_cons_zero, List.set_cons_succ]
        refine wpAnyH_ready (rs := [4]) (by kernel_rfl) (by simp) (AllReadyH.cons rfl (fun K hK => ?_) AllReadyH.nil)
        rw [if_pos (by rfl)]
        refine wp_letOp 55 _ _ rfl (w.heap.size + 1) rfl #[.int .i64 x.me, .int .i64 (x.rv + 1), .int .i64 (x.nx + 1), .int .i64 x.mo, .int .i64 x.bo, .int .i64 x.fr, .slice p3 len cap3] rfl (by kernel_rfl) (by simp [Value.oneCell']) #[.int .i64 0, .int .i64 0, .int .i64 0, .int .i64 0, .int .i64 0, .int .i64 0, .slice none 0 0] 55 (Blk.drew H6r.out 1) rfl rfl ?_
        intro V1 hU
        have H7d : Hid (Blk V1 (w.heap.size) #[.int .i64 x.me, .int .i64 x.rv, .int .i64 x.nx, .int .i64 x.mo, .int .i64 x.bo, .int .i64 x.fr, .slice p len cap] 55) := hU.keep (Blk.drew H6d.out 1) (by omega)
        have H7r : Hid (Blk V1 (w.heap.size + 1) #[.int .i64 x.me, .int .i64 (x.rv + 1), .int .i64 (x.nx + 1), .int .i64 x.mo, .int .i64 x.bo, .int .i64 x.fr, .slice p3 len cap3] 55) := hU.blk
        have H7l : Hid (Blk V1 (w.heap.size + 1 + 1) #[.int .i64 0, .int .i64 0, .int .i64 0, .int .i64 0, .int .i64 0, .int .i64 0, .int .i64 0] 23) := hU.keep (Blk.drew H6l.out 1) (by omega)
        have H7n : Hid (Blk V1 (w3.heap.size) #[.int .i64 x.me, .int .i64 (x.rv + 1), .int .i64 (x.nx + 1), .int .i64 x.mo, .int .i64 x.bo, .int .i64 x.fr, .slice p3 len cap3] 55) := hU.keep (Blk.drew H6n.out 1) (by omega)
        have H7F : Hid (deb.Fresh V1 w1.heap.size p3 len cap3 x.ds) := fresh_updN (fresh_drew H6F.out) hU (fun hn y hy => by have f1 := H6F.out.new hn y hy; have f2 := HUPF.out hn y hy; omega)
        have H7B : Hid (Below w.heap.size w V1) := hU.bel _ _ (by omega) H6B.out.drew
        clear hU H6d H6r H6l H6n H6F H6B
        refine hK.out _ _ ⟨H7n.out, H7d.out⟩ (fun hHeld => ?_)
        clear hK K
        refine wpAnyH_ready (rs := [5]) (by kernel_rfl) (by simp) (AllReadyH.cons rfl (fun K hK => ?_) AllReadyH.nil)
        rw [if_pos (by rfl)]
        refine wp_letOp 23 _ _ rfl (w.heap.size + 1 + 1) rfl #[.int .i64 x.nx, .int .i64 0, .int .i64 0, .int .i64 0, .int .i64 0, .int .i64 0, .int .i64 0] rfl (by kernel_rfl) (by simp [Value.oneCell']) #[.int .i64 0, .int .i64 0, .int .i64 0, .int .i64 0, .int .i64 0, .int .i64 0, .int .i64 0] 23 H7l.out rfl rfl ?_
        intro V2 hU
        have H8d := shK hU H7d (by omega)
        have H8r := shK hU H7r (by omega)
        have H8l : Hid (Blk V2 (w.heap.size + 1 + 1) #[.int .i64 x.nx, .int .i64 0, .int .i64 0, .int .i64 0, .int .i64 0, .int .i64 0, .int .i64 0] 23) := hU.blk
        have H8n := shK hU H7n (by omega)
        have H8F : Hid (deb.Fresh V2 w1.heap.size p3 len cap3 x.ds) := fresh_updN H7F.out hU (fun hn y hy => by have f1 := H7F.out.new hn y hy; have f2 := HUPF.out hn y hy; omega)
        have H8B := shV hU H7B (by omega)
        clear hU H7d H7r H7l H7n H7F H7B
        refine hK.out _ _ ⟨H8n.out, H8d.out⟩ (fun hHeld => ?_)
        clear hK K
        refine take_at 6 4 (.int .i64 0) _ rfl rfl (by kernel_rfl) (by kernel_rfl) (by kernel_rfl) (fun _ _ _ h => h) (Or.inl ⟨by rfl, fun v hv => by clear hv; go_simp⟩) hHeld ?_
        simp only [Act.put, List.setIfInBounds_toArray, List.set_cons_zero, List.set_cons_succ]
        refine wpAnyH_done (by kernel_rfl) ?_ _
        clear hHeld
        obtain ⟨Rr0, Rr1, Rr2, Rr3, Rr4, Rr5, Rr6⟩ := shc7 H8r
        obtain ⟨Rl0, Rl1, Rl2, Rl3, Rl4, Rl5, Rl6⟩ := shc7 H8l
        go_wp2_with fail
        exact bodyPost_ret (v := .tuple #[.agg #[.int .i64 x.me, .int .i64 (x.rv + 1), .int .i64 (x.nx + 1), .int .i64 x.mo, .int .i64 x.bo, .int .i64 x.fr, .slice p3 len cap3], .agg #[.int .i64 x.nx, .int .i64 0, .int .i64 0, .int .i64 0, .int .i64 0, .int .i64 0, .int .i64 0], .int .i64 0]) (by simp [results, Try.results58, Rr0.out, Rr1.out, Rr2.out, Rr3.out, Rr4.out, Rr5.out, Rr6.out, Rl0.out, Rl1.out, Rl2.out, Rl3.out, Rl4.out, Rl5.out, Rl6.out, go_sem]) rfl ⟨⟨x.me, x.rv + 1, x.nx + 1, x.mo, x.bo, x.fr, x.ds⟩, ⟨x.nx, 0, 0, 0, 0, 0, 0⟩, p3, len, cap3, _, rfl, .inr (.inr (.inr ⟨HM.out, h1, h2, rfl, rfl, rfl⟩)), H8F.out.low (by omega), H8B.out⟩
      · have d2 : (x.nx == 1048576) = true := by simp; omega
        have HV : Hid (RekeyIs x ac0 bi0 20) := .inr (.inr (.inl ⟨HM.out, h1, h2, rfl, rfl, rfl⟩))
        clear h2
        have q1 : w1.cell? ⟨w.heap.size, 1, none⟩ = some (.int .i64 x.rv) := H1d.out.cell 1
        have q2 : w1.cell? ⟨w.heap.size, 2, none⟩ = some (.int .i64 x.nx) := H1d.out.cell 2
        go_wp2_with (first
          | (refine wp_letAll rfl 55 _ _ rfl _ rfl _ rfl (by kernel_rfl) (by simp [Value.oneCell']) _ 55 H1r.out rfl ?_)
          | (refine wp_whole rfl 55 _ rfl _ rfl 55 _ _ H1d.out Try.underlying55 rfl (by kernel_rfl) ?_)
          | (refine wp_whole rfl 55 _ rfl _ rfl 55 _ _ H1r.out Try.underlying55 rfl (by kernel_rfl) ?_)
          | (refine wp_whole rfl 23 _ rfl _ rfl 23 _ _ H1l.out Try.underlying23 rfl (by kernel_rfl) ?_)
          | fail)
        intro w1a hU
        have H2d := shK hU H1d (by omega)
        have H2r : Hid (Blk w1a (w.heap.size + 1) #[.int .i64 0, .int .i64 0, .int .i64 0, .int .i64 0, .int .i64 0, .int .i64 0, .slice none 0 0] 55) := hU.blk
        have H2l := shK hU H1l (by omega)
        have H2B := shV hU H1B (by omega)
        have hsw1a : w1a.heap.size = w1.heap.size := hU.size
        clear hU H1d H1r H1l H1R H1B
        go_wp2_with (first
          | (refine wp_letAll rfl 23 _ _ rfl _ rfl _ rfl (by kernel_rfl) (by simp [Value.oneCell']) _ 23 H2l.out rfl ?_)
          | (refine wp_whole rfl 55 _ rfl _ rfl 55 _ _ H2d.out Try.underlying55 rfl (by kernel_rfl) ?_)
          | (refine wp_whole rfl 55 _ rfl _ rfl 55 _ _ H2r.out Try.underlying55 rfl (by kernel_rfl) ?_)
          | (refine wp_whole rfl 23 _ rfl _ rfl 23 _ _ H2l.out Try.underlying23 rfl (by kernel_rfl) ?_)
          | fail)
        intro w1ab hU
        have H3d := shK hU H2d (by omega)
        have H3r := shK hU H2r (by omega)
        have H3l : Hid (Blk w1ab (w.heap.size + 1 + 1) #[.int .i64 0, .int .i64 0, .int .i64 0, .int .i64 0, .int .i64 0, .int .i64 0, .int .i64 0] 23) := hU.blk
        have H3B := shV hU H2B (by omega)
        have hsw1ab : w1ab.heap.size = w1a.heap.size := hU.size
        clear hU H2d H2r H2l H2B
        obtain ⟨Rr0, Rr1, Rr2, Rr3, Rr4, Rr5, Rr6⟩ := shc7 H3r
        obtain ⟨Rl0, Rl1, Rl2, Rl3, Rl4, Rl5, Rl6⟩ := shc7 H3l
        go_wp2_with fail
        exact bodyPost_ret (v := .tuple #[.agg #[.int .i64 0, .int .i64 0, .int .i64 0, .int .i64 0, .int .i64 0, .int .i64 0, .slice none 0 0], .agg #[.int .i64 0, .int .i64 0, .int .i64 0, .int .i64 0, .int .i64 0, .int .i64 0, .int .i64 0], .int .i64 20]) (by simp [results, Try.results58, Rr0.out, Rr1.out, Rr2.out, Rr3.out, Rr4.out, Rr5.out, Rr6.out, Rl0.out, Rl1.out, Rl2.out, Rl3.out, Rl4.out, Rl5.out, Rl6.out, go_sem]) rfl ⟨ac0, bi0, none, 0, 0, _, rfl, HV.out, deb.fresh_nil _ _, H3B.out⟩
    · have d1 : decide (15 ≤ x.rv) = true := decide_eq_true (by omega)
      have HV : Hid (RekeyIs x ac0 bi0 24) := .inr (.inl ⟨HM.out, h1, rfl, rfl, rfl⟩)
      clear h1
      have q1 : w1.cell? ⟨w.heap.size, 1, none⟩ = some (.int .i64 x.rv) := H1d.out.cell 1
      go_wp2_with (first
        | (refine wp_letAll rfl 55 _ _ rfl _ rfl _ rfl (by kernel_rfl) (by simp [Value.oneCell']) _ 55 H1r.out rfl ?_)
        | (refine wp_whole rfl 55 _ rfl _ rfl 55 _ _ H1d.out Try.underlying55 rfl (by kernel_rfl) ?_)
        | (refine wp_whole rfl 55 _ rfl _ rfl 55 _ _ H1r.out Try.underlying55 rfl (by kernel_rfl) ?_)
        | (refine wp_whole rfl 23 _ rfl _ rfl 23 _ _ H1l.out Try.underlying23 rfl (by kernel_rfl) ?_)
        | fail)
      intro w1a hU
      have H2d := shK hU H1d (by omega)
      have H2r : Hid (Blk w1a (w.heap.size + 1) #[.int .i64 0, .int .i64 0, .int .i64 0, .int .i64 0, .int .i64 0, .int .i64 0, .slice none 0 0] 55) := hU.blk
      have H2l := shK hU H1l (by omega)
      have H2B := shV hU H1B (by omega)
      have hsw1a : w1a.heap.size = w1.heap.size := hU.size
      clear hU H1d H1r H1l H1R H1B
      go_wp2_with (first
        | (refine wp_letAll rfl 23 _ _ rfl _ rfl _ rfl (by kernel_rfl) (by simp [Value.oneCell']) _ 23 H2l.out rfl ?_)
        | (refine wp_whole rfl 55 _ rfl _ rfl 55 _ _ H2d.out Try.underlying55 rfl (by kernel_rfl) ?_)
        | (refine wp_whole rfl 55 _ rfl _ rfl 55 _ _ H2r.out Try.underlying55 rfl (by kernel_rfl) ?_)
        | (refine wp_whole rfl 23 _ rfl _ rfl 23 _ _ H2l.out Try.underlying23 rfl (by kernel_rfl) ?_)
        | fail)
      intro w1ab hU
      have H3d := shK hU H2d (by omega)
      have H3r := shK hU H2r (by omega)
      have H3l : Hid (Blk w1ab (w.heap.size + 1 + 1) #[.int .i64 0, .int .i64 0, .int .i64 0, .int .i64 0, .int .i64 0, .int .i64 0, .int .i64 0] 23) := hU.blk
      have H3B := shV hU H2B (by omega)
      have hsw1ab : w1ab.heap.size = w1a.heap.size := hU.size
      clear hU H2d H2r H2l H2B
      obtain ⟨Rr0, Rr1, Rr2, Rr3, Rr4, Rr5, Rr6⟩ := shc7 H3r
      obtain ⟨Rl0, Rl1, Rl2, Rl3, Rl4, Rl5, Rl6⟩ := shc7 H3l
      go_wp2_with fail
      exact bodyPost_ret (v := .tuple #[.agg #[.int .i64 0, .int .i64 0, .int .i64 0, .int .i64 0, .int .i64 0, .int .i64 0, .slice none 0 0], .agg #[.int .i64 0, .int .i64 0, .int .i64 0, .int .i64 0, .int .i64 0, .int .i64 0, .int .i64 0], .int .i64 24]) (by simp [results, Try.results58, Rr0.out, Rr1.out, Rr2.out, Rr3.out, Rr4.out, Rr5.out, Rr6.out, Rl0.out, Rl1.out, Rl2.out, Rl3.out, Rl4.out, Rl5.out, Rl6.out, go_sem]) rfl ⟨ac0, bi0, none, 0, 0, _, rfl, HV.out, deb.fresh_nil _ _, H3B.out⟩
  · have HM : Hid (¬ AMay x) := hm
    obtain ⟨W0, HWW, H0d, H0r, H0l, H0B, hs0⟩ := sh3 w #[.int .i64 x.me, .int .i64 x.rv, .int .i64 x.nx, .int .i64 x.mo, .int .i64 x.bo, .int .i64 x.fr, .slice p len cap] 55 #[.int .i64 0, .int .i64 0, .int .i64 0, .int .i64 0, .int .i64 0, .int .i64 0, .slice none 0 0] 55 #[.int .i64 0, .int .i64 0, .int .i64 0, .int .i64 0, .int .i64 0, .int .i64 0, .int .i64 0] 23
    have H0R : Hid (RowD W0 p len x.ds) := h.below H0B.out
    go_enter Try.func58, Try.ntmps58
    go_upto_region 1 with fail
    rw [HWW.out]
    clear HWW
    have HAM : Hid (Calls Try.prog 68 #[.agg #[.int .i64 x.me, .int .i64 x.rv, .int .i64 x.nx, .int .i64 x.mo, .int .i64 x.bo, .int .i64 x.fr, .slice p len cap]] W0 fun e w' => e = .returned (.bool false) ∧ Below W0.heap.size W0 w') := ranot x p len cap _ H0R.out hl hm
    go_wp2_with (first
      | (refine wp_whole rfl 55 _ rfl _ rfl 55 _ _ H0d.out Try.underlying55 rfl (by kernel_rfl) ?_)
      | (refine wp_whole rfl 55 _ rfl _ rfl 55 _ _ H0r.out Try.underlying55 rfl (by kernel_rfl) ?_)
      | (refine wp_whole rfl 23 _ rfl _ rfl 23 _ _ H0l.out Try.underlying23 rfl (by kernel_rfl) ?_)
      | fail)
    refine HAM.out.mono ?_
    rintro e w1 ⟨rfl, hb1⟩
    have H1d := shN H0d hb1
    have H1r := shN H0r hb1
    have H1l := shN H0l hb1
    have H1R : Hid (RowD w1 p len x.ds) := H0R.out.below hb1
    have H1B := shB H0B hb1
    have hsw1 : W0.heap.size ≤ w1.heap.size := hb1.size
    clear hb1 H0d H0r H0l H0R H0B
    clear HAM
    go_wp2_with (first
      | (refine wp_letAll rfl 55 _ _ rfl _ rfl _ rfl (by kernel_rfl) (by simp [Value.oneCell']) _ 55 H1r.out rfl ?_)
      | (refine wp_whole rfl 55 _ rfl _ rfl 55 _ _ H1d.out Try.underlying55 rfl (by kernel_rfl) ?_)
      | (refine wp_whole rfl 55 _ rfl _ rfl 55 _ _ H1r.out Try.underlying55 rfl (by kernel_rfl) ?_)
      | (refine wp_whole rfl 23 _ rfl _ rfl 23 _ _ H1l.out Try.underlying23 rfl (by kernel_rfl) ?_)
      | fail)
    intro w1a hU
    have H2d := shK hU H1d (by omega)
    have H2r : Hid (Blk w1a (w.heap.size + 1) #[.int .i64 0, .int .i64 0, .int .i64 0, .int .i64 0, .int .i64 0, .int .i64 0, .slice none 0 0] 55) := hU.blk
    have H2l := shK hU H1l (by omega)
    have H2B := shV hU H1B (by omega)
    have hsw1a : w1a.heap.size = w1.heap.size := hU.size
    clear hU H1d H1r H1l H1R H1B
    go_wp2_with (first
      | (refine wp_letAll rfl 23 _ _ rfl _ rfl _ rfl (by kernel_rfl) (by simp [Value.oneCell']) _ 23 H2l.out rfl ?_)
      | (refine wp_whole rfl 55 _ rfl _ rfl 55 _ _ H2d.out Try.underlying55 rfl (by kernel_rfl) ?_)
      | (refine wp_whole rfl 55 _ rfl _ rfl 55 _ _ H2r.out Try.underlying55 rfl (by kernel_rfl) ?_)
      | (refine wp_whole rfl 23 _ rfl _ rfl 23 _ _ H2l.out Try.underlying23 rfl (by kernel_rfl) ?_)
      | fail)
    intro w1ab hU
    have H3d := shK hU H2d (by omega)
    have H3r := shK hU H2r (by omega)
    have H3l : Hid (Blk w1ab (w.heap.size + 1 + 1) #[.int .i64 0, .int .i64 0, .int .i64 0, .int .i64 0, .int .i64 0, .int .i64 0, .int .i64 0] 23) := hU.blk
    have H3B := shV hU H2B (by omega)
    have hsw1ab : w1ab.heap.size = w1a.heap.size := hU.size
    clear hU H2d H2r H2l H2B
    obtain ⟨Rr0, Rr1, Rr2, Rr3, Rr4, Rr5, Rr6⟩ := shc7 H3r
    obtain ⟨Rl0, Rl1, Rl2, Rl3, Rl4, Rl5, Rl6⟩ := shc7 H3l
    go_wp2_with fail
    exact bodyPost_ret (v := .tuple #[.agg #[.int .i64 0, .int .i64 0, .int .i64 0, .int .i64 0, .int .i64 0, .int .i64 0, .slice none 0 0], .agg #[.int .i64 0, .int .i64 0, .int .i64 0, .int .i64 0, .int .i64 0, .int .i64 0, .int .i64 0], .int .i64 5]) (by simp [results, Try.results58, Rr0.out, Rr1.out, Rr2.out, Rr3.out, Rr4.out, Rr5.out, Rr6.out, Rl0.out, Rl1.out, Rl2.out, Rl3.out, Rl4.out, Rl5.out, Rl6.out, go_sem]) rfl ⟨ac0, bi0, none, 0, 0, _, rfl, .inl ⟨HM.out, rfl, rfl, rfl⟩, deb.fresh_nil _ _, H3B.out⟩

end Go.Proofs.Ytfhlokjpdkmdjaa.acc

/- What a new key does to a customer, as the document has it. -/
namespace Go.Proofs.Ytfhlokjpdkmdjaa.book
open Go.RowKit
open Go.Proofs.Ytfhlokjpdkmdjaa.acc (Ac Tm Bi APost BPost OweIs SellIs GrantIs RekeyIs)
set_option maxRecDepth 100000
set_option linter.unusedVariables false
set_option linter.unusedSimpArgs false

set_option maxHeartbeats 8000000 in
theorem rhap4 (a : Ac) (sol : List So) (dp : Option Addr) (dn dc : Nat) (sp : Option Addr) (sn sc : Nat) (t : Tm) (pt : Option Addr) (lt ct : Nat) (v : Ev) (base : Nat) (w : World) (hx : Has w base (cuA a dp dn dc sp sn sc) ⟨a, sol⟩) (ht : tar.RowD w pt lt t.ts) (htl : lt ≤ maxLen) (hbase : base ≤ w.heap.size) (hkd : v.kd = 4) (hsol : sol.length ≤ 2000000) (hrv : 0 ≤ a.rv ∧ a.rv ≤ 15) :
    Calls Try.prog 38 #[.agg #[.slice pt lt ct, .int .i64 t.ff, .int .i64 t.fb, .int .i64 t.db, .int .i64 t.al], .agg #[.int .i64 a.me, .int .i64 a.rv, .int .i64 a.nx, .int .i64 a.mo, .int .i64 a.bo, .int .i64 a.fr, .slice dp dn dc, .slice sp sn sc], .agg #[.int .i64 v.kd, .int .i64 v.me, .int .i64 v.mo, .int .i64 v.id, .int .i64 v.te, .int .i64 v.de, .int .i64 v.fe, .int .i64 v.pr, .int .i64 v.ch, .int .i64 v.un, .int .i64 v.tg, .int .i64 v.ow, .int .i64 v.bp]] w fun e w' => HapPost w base t (cuA a dp dn dc sp sn sc) ⟨a, sol⟩ v e w' := by
  have n2 : (v.kd == 2) = false := by rw [hkd]; rfl
  have n3 : (v.kd == 3) = false := by rw [hkd]; rfl
  have n4 : (v.kd == 4) = true := by rw [hkd]; rfl
  have n5 : (v.kd == 5) = false := by rw [hkd]; rfl
  have HKD : Hid (v.kd = 4) := hkd
  have HK5 : Hid (v.kd ≠ 5) := by show v.kd ≠ 5; rw [hkd]; decide
  clear hkd
  have HB0 : Hid (Below w.heap.size w w) := Below.refl _ _
  have HH : Hid (Has w base (cuA a dp dn dc sp sn sc) ⟨a, sol⟩) := hx
  have HBS : Hid (base ≤ w.heap.size) := hbase
  have HOWN : Hid (∀ k, (Value.slice sp sn sc).ownBlock = some k → k < w.heap.size) := fun k hk => (World.ownsRow.lt hx.so k hk).2
  have HCA : Hid (∀ W, Below w.heap.size w W → Calls Try.prog 58 #[.agg #[.int .i64 a.me, .int .i64 a.rv, .int .i64 a.nx, .int .i64 a.mo, .int .i64 a.bo, .int .i64 a.fr, .slice dp dn dc]] W fun e w' => BPost W (RekeyIs a) e w') := fun W hB => acc.rrekeyed a dp dn dc W (hx.ds.came.below hB).row hx.ds.came.most
  clear hx ht htl hbase
  obtain ⟨W0, HWW, Ht4, Qx, Qv, Qr, HB4, hz0⟩ := sh4 w #[.slice pt lt ct, .int .i64 t.ff, .int .i64 t.fb, .int .i64 t.db, .int .i64 t.al] 40 #[.int .i64 a.me, .int .i64 a.rv, .int .i64 a.nx, .int .i64 a.mo, .int .i64 a.bo, .int .i64 a.fr, .slice dp dn dc, .slice sp sn sc] 58 #[.int .i64 v.kd, .int .i64 v.me, .int .i64 v.mo, .int .i64 v.id, .int .i64 v.te, .int .i64 v.de, .int .i64 v.fe, .int .i64 v.pr, .int .i64 v.ch, .int .i64 v.un, .int .i64 v.tg, .int .i64 v.ow, .int .i64 v.bp] 27 #[.int .i64 0, .int .i64 0, .int .i64 0, .int .i64 0, .int .i64 0, .int .i64 0, .slice none 0 0, .slice none 0 0] 58
  go_enter Try.func38, Try.ntmps38
  go_upto_region 1 with fail
  rw [HWW.out]
  clear HWW
  have HS0 : Hid (w.heap.size + 1 + 1 + 1 < W0.heap.size) := hz0
  clear hz0
  have kx0 : W0.cell? ⟨w.heap.size + 1, 0, none⟩ = some (.int .i64 a.me) := Qx.out.cell 0
  have kx1 : W0.cell? ⟨w.heap.size + 1, 1, none⟩ = some (.int .i64 a.rv) := Qx.out.cell 1
  have kx2 : W0.cell? ⟨w.heap.size + 1, 2, none⟩ = some (.int .i64 a.nx) := Qx.out.cell 2
  have kx3 : W0.cell? ⟨w.heap.size + 1, 3, none⟩ = some (.int .i64 a.mo) := Qx.out.cell 3
  have kx4 : W0.cell? ⟨w.heap.size + 1, 4, none⟩ = some (.int .i64 a.bo) := Qx.out.cell 4
  have kx5 : W0.cell? ⟨w.heap.size + 1, 5, none⟩ = some (.int .i64 a.fr) := Qx.out.cell 5
  have kx6 : W0.cell? ⟨w.heap.size + 1, 6, none⟩ = some (.slice dp dn dc) := Qx.out.cell 6
  have kx7 : W0.cell? ⟨w.heap.size + 1, 7, none⟩ = some (.slice sp sn sc) := Qx.out.cell 7
  have kv0 : W0.cell? ⟨w.heap.size + 1 + 1, 0, none⟩ = some (.int .i64 v.kd) := Qv.out.cell 0
  have kv1 : W0.cell? ⟨w.heap.size + 1 + 1, 1, none⟩ = some (.int .i64 v.me) := Qv.out.cell 1
  have kv2 : W0.cell? ⟨w.heap.size + 1 + 1, 2, none⟩ = some (.int .i64 v.mo) := Qv.out.cell 2
  have kv3 : W0.cell? ⟨w.heap.size + 1 + 1, 3, none⟩ = some (.int .i64 v.id) := Qv.out.cell 3
  have kv4 : W0.cell? ⟨w.heap.size + 1 + 1, 4, none⟩ = some (.int .i64 v.te) := Qv.out.cell 4
  have kv5 : W0.cell? ⟨w.heap.size + 1 + 1, 5, none⟩ = some (.int .i64 v.de) := Qv.out.cell 5
  have kv6 : W0.cell? ⟨w.heap.size + 1 + 1, 6, none⟩ = some (.int .i64 v.fe) := Qv.out.cell 6
  have kv7 : W0.cell? ⟨w.heap.size + 1 + 1, 7, none⟩ = some (.int .i64 v.pr) := Qv.out.cell 7
  have kv8 : W0.cell? ⟨w.heap.size + 1 + 1, 8, none⟩ = some (.int .i64 v.ch) := Qv.out.cell 8
  have kv9 : W0.cell? ⟨w.heap.size + 1 + 1, 9, none⟩ = some (.int .i64 v.un) := Qv.out.cell 9
  have kv10 : W0.cell? ⟨w.heap.size + 1 + 1, 10, none⟩ = some (.int .i64 v.tg) := Qv.out.cell 10
  have kv11 : W0.cell? ⟨w.heap.size + 1 + 1, 11, none⟩ = some (.int .i64 v.ow) := Qv.out.cell 11
  have kv12 : W0.cell? ⟨w.heap.size + 1 + 1, 12, none⟩ = some (.int .i64 v.bp) := Qv.out.cell 12
  obtain ⟨W1, HWV, Hs5, Qa, Qb, HBX, hz1⟩ := sh3 W0 #[.int .i64 v.id, .int .i64 0, .int .i64 v.un, .int .i64 v.tg, .int .i64 a.rv] 103 #[.int .i64 0, .int .i64 0, .int .i64 0, .int .i64 0, .int .i64 0, .int .i64 0, .slice none 0 0] 55 #[.int .i64 0, .int .i64 0, .int .i64 0, .int .i64 0, .int .i64 0, .int .i64 0, .int .i64 0] 23
  have Ht5 := shN Ht4 HBX.out
  have Hx5 := shN Qx HBX.out
  have Hv5 := shN Qv HBX.out
  have Hr5 := shN Qr HBX.out
  have HB5 := shB HB4 HBX.out
  have HS5 : Hid (W0.heap.size + 1 + 1 < W1.heap.size) := hz1
  clear hz1 HBX
  go_upto_region 8 with fail
  rw [HWV.out]
  clear HWV
  clear kx0 kx1 kx2 kx3 kx4 kx5 kx6 kx7 kv0 kv1 kv2 kv3 kv4 kv5 kv6 kv7 kv8 kv9 kv10 kv11 kv12
  generalize W0.heap.size = gs at *
  have kt0 : W1.cell? ⟨w.heap.size, 0, none⟩ = some (.slice pt lt ct) := Ht5.out.cell 0
  have kt1 : W1.cell? ⟨w.heap.size, 1, none⟩ = some (.int .i64 t.ff) := Ht5.out.cell 1
  have kt2 : W1.cell? ⟨w.heap.size, 2, none⟩ = some (.int .i64 t.fb) := Ht5.out.cell 2
  have kt3 : W1.cell? ⟨w.heap.size, 3, none⟩ = some (.int .i64 t.db) := Ht5.out.cell 3
  have kt4 : W1.cell? ⟨w.heap.size, 4, none⟩ = some (.int .i64 t.al) := Ht5.out.cell 4
  have kx0 : W1.cell? ⟨w.heap.size + 1, 0, none⟩ = some (.int .i64 a.me) := Hx5.out.cell 0
  have kx1 : W1.cell? ⟨w.heap.size + 1, 1, none⟩ = some (.int .i64 a.rv) := Hx5.out.cell 1
  have kx2 : W1.cell? ⟨w.heap.size + 1, 2, none⟩ = some (.int .i64 a.nx) := Hx5.out.cell 2
  have kx3 : W1.cell? ⟨w.heap.size + 1, 3, none⟩ = some (.int .i64 a.mo) := Hx5.out.cell 3
  have kx4 : W1.cell? ⟨w.heap.size + 1, 4, none⟩ = some (.int .i64 a.bo) := Hx5.out.cell 4
  have kx5 : W1.cell? ⟨w.heap.size + 1, 5, none⟩ = some (.int .i64 a.fr) := Hx5.out.cell 5
  have kx6 : W1.cell? ⟨w.heap.size + 1, 6, none⟩ = some (.slice dp dn dc) := Hx5.out.cell 6
  have kx7 : W1.cell? ⟨w.heap.size + 1, 7, none⟩ = some (.slice sp sn sc) := Hx5.out.cell 7
  have kv0 : W1.cell? ⟨w.heap.size + 1 + 1, 0, none⟩ = some (.int .i64 v.kd) := Hv5.out.cell 0
  have kv1 : W1.cell? ⟨w.heap.size + 1 + 1, 1, none⟩ = some (.int .i64 v.me) := Hv5.out.cell 1
  have kv2 : W1.cell? ⟨w.heap.size + 1 + 1, 2, none⟩ = some (.int .i64 v.mo) := Hv5.out.cell 2
  have kv3 : W1.cell? ⟨w.heap.size + 1 + 1, 3, none⟩ = some (.int .i64 v.id) := Hv5.out.cell 3
  have kv4 : W1.cell? ⟨w.heap.size + 1 + 1, 4, none⟩ = some (.int .i64 v.te) := Hv5.out.cell 4
  have kv5 : W1.cell? ⟨w.heap.size + 1 + 1, 5, none⟩ = some (.int .i64 v.de) := Hv5.out.cell 5
  have kv6 : W1.cell? ⟨w.heap.size + 1 + 1, 6, none⟩ = some (.int .i64 v.fe) := Hv5.out.cell 6
  have kv7 : W1.cell? ⟨w.heap.size + 1 + 1, 7, none⟩ = some (.int .i64 v.pr) := Hv5.out.cell 7
  have kv8 : W1.cell? ⟨w.heap.size + 1 + 1, 8, none⟩ = some (.int .i64 v.ch) := Hv5.out.cell 8
  have kv9 : W1.cell? ⟨w.heap.size + 1 + 1, 9, none⟩ = some (.int .i64 v.un) := Hv5.out.cell 9
  have kv10 : W1.cell? ⟨w.heap.size + 1 + 1, 10, none⟩ = some (.int .i64 v.tg) := Hv5.out.cell 10
  have kv11 : W1.cell? ⟨w.heap.size + 1 + 1, 11, none⟩ = some (.int .i64 v.ow) := Hv5.out.cell 11
  have kv12 : W1.cell? ⟨w.heap.size + 1 + 1, 12, none⟩ = some (.int .i64 v.bp) := Hv5.out.cell 12
  have HC1 : Hid (Calls Try.prog 58 #[.agg #[.int .i64 a.me, .int .i64 a.rv, .int .i64 a.nx, .int .i64 a.mo, .int .i64 a.bo, .int .i64 a.fr, .slice dp dn dc]] W1 fun e w' => BPost W1 (RekeyIs a) e w') := HCA.out W1 HB5.out
  clear HCA
  go_wp2_with fail
  refine HC1.out.mono ?_
  rintro e w2 ⟨b, l, pb, lb, cb, f, rfl, hi, hf, hb2⟩
  have HI : Hid (RekeyIs a b l f) := hi
  have Ht6 := shN Ht5 hb2
  have Hx6 := shN Hx5 hb2
  have Hv6 := shN Hv5 hb2
  have Hr6 := shN Hr5 hb2
  have Hs6 := shN Hs5 hb2
  have Ha6 := shN Qa hb2
  have Hb6 := shN Qb hb2
  have HB6 := shB HB5 hb2
  have HF2 : Hid (deb.Fresh w2 W1.heap.size pb lb cb b.ds) := hf
  have HW1 : Hid (W1.heap.size ≤ w2.heap.size) := hb2.size
  clear hb2 hf hi HC1 kt0 kt1 kt2 kt3 kt4 kx0 kx1 kx2 kx3 kx4 kx5 kx6 kx7 kv0 kv1 kv2 kv3 kv4 kv5 kv6 kv7 kv8 kv9 kv10 kv11 kv12
  unfold acc.Ac.v acc.Ac.cs acc.Bi.v
  obtain ⟨kt0, kt1, kt2, kt3, kt4⟩ := scl5 Ht6
  obtain ⟨kx0, kx1, kx2, kx3, kx4, kx5, kx6, kx7⟩ := scl8 Hx6
  obtain ⟨kv0, kv1, kv2, kv3, kv4, kv5, kv6, kv7, kv8, kv9, kv10, kv11, kv12⟩ := scl13 Hv6
  obtain ⟨ks0, ks1, ks2, ks3, ks4⟩ := scl5 Hs6
  go_wp2_with (first | (refine wp_letAll rfl 55 _ _ rfl _ rfl _ rfl (by kernel_rfl) (by simp [Value.oneCell']) _ 55 Ha6.out rfl ?_) | fail)
  intro w3 hU
  have Ht7 : Hid (Blk w3 (w.heap.size) #[.slice pt lt ct, .int .i64 t.ff, .int .i64 t.fb, .int .i64 t.db, .int .i64 t.al] 40) := hU.keep Ht6.out (by have := HS0.out; omega)
  have Hx7 : Hid (Blk w3 (w.heap.size + 1) #[.int .i64 a.me, .int .i64 a.rv, .int .i64 a.nx, .int .i64 a.mo, .int .i64 a.bo, .int .i64 a.fr, .slice dp dn dc, .slice sp sn sc] 58) := hU.keep Hx6.out (by have := HS0.out; omega)
  have Hv7 : Hid (Blk w3 (w.heap.size + 1 + 1) #[.int .i64 v.kd, .int .i64 v.me, .int .i64 v.mo, .int .i64 v.id, .int .i64 v.te, .int .i64 v.de, .int .i64 v.fe, .int .i64 v.pr, .int .i64 v.ch, .int .i64 v.un, .int .i64 v.tg, .int .i64 v.ow, .int .i64 v.bp] 27) := hU.keep Hv6.out (by have := HS0.out; omega)
  have Hr7 : Hid (Blk w3 (w.heap.size + 1 + 1 + 1) #[.int .i64 0, .int .i64 0, .int .i64 0, .int .i64 0, .int .i64 0, .int .i64 0, .slice none 0 0, .slice none 0 0] 58) := hU.keep Hr6.out (by have := HS0.out; omega)
  have Hs7 : Hid (Blk w3 (gs) #[.int .i64 v.id, .int .i64 0, .int .i64 v.un, .int .i64 v.tg, .int .i64 a.rv] 103) := hU.keep Hs6.out (by have := HS0.out; omega)
  have Ha7 : Hid (Blk w3 (gs + 1) #[.int .i64 b.me, .int .i64 b.rv, .int .i64 b.nx, .int .i64 b.mo, .int .i64 b.bo, .int .i64 b.fr, .slice pb lb cb] 55) := hU.blk
  have Hb7 : Hid (Blk w3 (gs + 1 + 1) #[.int .i64 0, .int .i64 0, .int .i64 0, .int .i64 0, .int .i64 0, .int .i64 0, .int .i64 0] 23) := hU.keep Hb6.out (by have := HS0.out; omega)
  have HB7 : Hid (Below w.heap.size w w3) := hU.bel _ _ (by have := HS0.out; omega) HB6.out
  have HF3 : Hid (deb.Fresh w3 W1.heap.size pb lb cb b.ds) := ⟨acc_upd HF2.out.came hU (fun hn y hy q => by have h1 := HF2.out.new hn y hy; have h2 := HS5.out; omega), HF2.out.new⟩
  have HW3 : Hid (w2.heap.size = w3.heap.size) := hU.size.symm
  clear hU kt0 kt1 kt2 kt3 kt4 kx0 kx1 kx2 kx3 kx4 kx5 kx6 kx7 kv0 kv1 kv2 kv3 kv4 kv5 kv6 kv7 kv8 kv9 kv10 kv11 kv12 ks0 ks1 ks2 ks3 ks4
  obtain ⟨kt0, kt1, kt2, kt3, kt4⟩ := scl5 Ht7
  obtain ⟨kx0, kx1, kx2, kx3, kx4, kx5, kx6, kx7⟩ := scl8 Hx7
  obtain ⟨kv0, kv1, kv2, kv3, kv4, kv5, kv6, kv7, kv8, kv9, kv10, kv11, kv12⟩ := scl13 Hv7
  obtain ⟨ks0, ks1, ks2, ks3, ks4⟩ := scl5 Hs7
  go_wp2_with (first | (refine wp_letAll rfl 23 _ _ rfl _ rfl _ rfl (by kernel_rfl) (by simp [Value.oneCell']) _ 23 Hb7.out rfl ?_) | fail)
  intro w4 hU
  have Ht8 : Hid (Blk w4 (w.heap.size) #[.slice pt lt ct, .int .i64 t.ff, .int .i64 t.fb, .int .i64 t.db, .int .i64 t.al] 40) := hU.keep Ht7.out (by have := HS0.out; omega)
  have Hx8 : Hid (Blk w4 (w.heap.size + 1) #[.int .i64 a.me, .int .i64 a.rv, .int .i64 a.nx, .int .i64 a.mo, .int .i64 a.bo, .int .i64 a.fr, .slice dp dn dc, .slice sp sn sc] 58) := hU.keep Hx7.out (by have := HS0.out; omega)
  have Hv8 : Hid (Blk w4 (w.heap.size + 1 + 1) #[.int .i64 v.kd, .int .i64 v.me, .int .i64 v.mo, .int .i64 v.id, .int .i64 v.te, .int .i64 v.de, .int .i64 v.fe, .int .i64 v.pr, .int .i64 v.ch, .int .i64 v.un, .int .i64 v.tg, .int .i64 v.ow, .int .i64 v.bp] 27) := hU.keep Hv7.out (by have := HS0.out; omega)
  have Hr8 : Hid (Blk w4 (w.heap.size + 1 + 1 + 1) #[.int .i64 0, .int .i64 0, .int .i64 0, .int .i64 0, .int .i64 0, .int .i64 0, .slice none 0 0, .slice none 0 0] 58) := hU.keep Hr7.out (by have := HS0.out; omega)
  have Hs8 : Hid (Blk w4 (gs) #[.int .i64 v.id, .int .i64 0, .int .i64 v.un, .int .i64 v.tg, .int .i64 a.rv] 103) := hU.keep Hs7.out (by have := HS0.out; omega)
  have Ha8 : Hid (Blk w4 (gs + 1) #[.int .i64 b.me, .int .i64 b.rv, .int .i64 b.nx, .int .i64 b.mo, .int .i64 b.bo, .int .i64 b.fr, .slice pb lb cb] 55) := hU.keep Ha7.out (by have := HS0.out; omega)
  have Hb8 : Hid (Blk w4 (gs + 1 + 1) #[.int .i64 l.id, .int .i64 l.te, .int .i64 l.de, .int .i64 l.fe, .int .i64 l.pr, .int .i64 l.ch, .int .i64 l.un] 23) := hU.blk
  have HB8 : Hid (Below w.heap.size w w4) := hU.bel _ _ (by have := HS0.out; omega) HB7.out
  have HF4 : Hid (deb.Fresh w4 W1.heap.size pb lb cb b.ds) := ⟨acc_upd HF3.out.came hU (fun hn y hy q => by have h1 := HF3.out.new hn y hy; have h2 := HS5.out; omega), HF3.out.new⟩
  have HW4 : Hid (w3.heap.size = w4.heap.size) := hU.size.symm
  clear hU kt0 kt1 kt2 kt3 kt4 kx0 kx1 kx2 kx3 kx4 kx5 kx6 kx7 kv0 kv1 kv2 kv3 kv4 kv5 kv6 kv7 kv8 kv9 kv10 kv11 kv12 ks0 ks1 ks2 ks3 ks4
  obtain ⟨kt0, kt1, kt2, kt3, kt4⟩ := scl5 Ht8
  obtain ⟨kx0, kx1, kx2, kx3, kx4, kx5, kx6, kx7⟩ := scl8 Hx8
  obtain ⟨kv0, kv1, kv2, kv3, kv4, kv5, kv6, kv7, kv8, kv9, kv10, kv11, kv12⟩ := scl13 Hv8
  obtain ⟨ks0, ks1, ks2, ks3, ks4⟩ := scl5 Hs8
  go_wp2_with (first | (refine wp_let1 rfl 3 _ _ rfl gs 1 rfl .i64 2 rfl (by kernel_rfl) #[.int .i64 v.id, .int .i64 0, .int .i64 v.un, .int .i64 v.tg, .int .i64 a.rv] 103 Hs8.out (by simp) ?_) | fail)
  intro w5 hU
  have Ht9 : Hid (Blk w5 (w.heap.size) #[.slice pt lt ct, .int .i64 t.ff, .int .i64 t.fb, .int .i64 t.db, .int .i64 t.al] 40) := hU.keep Ht8.out (by have := HS0.out; omega)
  have Hx9 : Hid (Blk w5 (w.heap.size + 1) #[.int .i64 a.me, .int .i64 a.rv, .int .i64 a.nx, .int .i64 a.mo, .int .i64 a.bo, .int .i64 a.fr, .slice dp dn dc, .slice sp sn sc] 58) := hU.keep Hx8.out (by have := HS0.out; omega)
  have Hv9 : Hid (Blk w5 (w.heap.size + 1 + 1) #[.int .i64 v.kd, .int .i64 v.me, .int .i64 v.mo, .int .i64 v.id, .int .i64 v.te, .int .i64 v.de, .int .i64 v.fe, .int .i64 v.pr, .int .i64 v.ch, .int .i64 v.un, .int .i64 v.tg, .int .i64 v.ow, .int .i64 v.bp] 27) := hU.keep Hv8.out (by have := HS0.out; omega)
  have Hr9 : Hid (Blk w5 (w.heap.size + 1 + 1 + 1) #[.int .i64 0, .int .i64 0, .int .i64 0, .int .i64 0, .int .i64 0, .int .i64 0, .slice none 0 0, .slice none 0 0] 58) := hU.keep Hr8.out (by have := HS0.out; omega)
  have Hs9 : Hid (Blk w5 (gs) #[.int .i64 v.id, .int .i64 2, .int .i64 v.un, .int .i64 v.tg, .int .i64 a.rv] 103) := hU.blk
  have Ha9 : Hid (Blk w5 (gs + 1) #[.int .i64 b.me, .int .i64 b.rv, .int .i64 b.nx, .int .i64 b.mo, .int .i64 b.bo, .int .i64 b.fr, .slice pb lb cb] 55) := hU.keep Ha8.out (by have := HS0.out; omega)
  have Hb9 : Hid (Blk w5 (gs + 1 + 1) #[.int .i64 l.id, .int .i64 l.te, .int .i64 l.de, .int .i64 l.fe, .int .i64 l.pr, .int .i64 l.ch, .int .i64 l.un] 23) := hU.keep Hb8.out (by have := HS0.out; omega)
  have HB9 : Hid (Below w.heap.size w w5) := hU.bel _ _ (by have := HS0.out; omega) HB8.out
  have HF5 : Hid (deb.Fresh w5 W1.heap.size pb lb cb b.ds) := ⟨acc_upd HF4.out.came hU (fun hn y hy q => by have h1 := HF4.out.new hn y hy; have h2 := HS5.out; omega), HF4.out.new⟩
  have HW5 : Hid (w4.heap.size = w5.heap.size) := hU.size.symm
  clear hU kt0 kt1 kt2 kt3 kt4 kx0 kx1 kx2 kx3 kx4 kx5 kx6 kx7 kv0 kv1 kv2 kv3 kv4 kv5 kv6 kv7 kv8 kv9 kv10 kv11 kv12 ks0 ks1 ks2 ks3 ks4
  obtain ⟨kt0, kt1, kt2, kt3, kt4⟩ := scl5 Ht9
  obtain ⟨kx0, kx1, kx2, kx3, kx4, kx5, kx6, kx7⟩ := scl8 Hx9
  obtain ⟨kv0, kv1, kv2, kv3, kv4, kv5, kv6, kv7, kv8, kv9, kv10, kv11, kv12⟩ := scl13 Hv9
  obtain ⟨ks0, ks1, ks2, ks3, ks4⟩ := scl5 Hs9
  go_wp2_with (first | (refine wp_let1 rfl 3 _ _ rfl gs 2 rfl .i64 (a.rv + 1) rfl (by kernel_rfl) #[.int .i64 v.id, .int .i64 2, .int .i64 v.un, .int .i64 v.tg, .int .i64 a.rv] 103 Hs9.out (by simp) ?_) | fail)
  intro w6 hU
  have Ht10 : Hid (Blk w6 (w.heap.size) #[.slice pt lt ct, .int .i64 t.ff, .int .i64 t.fb, .int .i64 t.db, .int .i64 t.al] 40) := hU.keep Ht9.out (by have := HS0.out; omega)
  have Hx10 : Hid (Blk w6 (w.heap.size + 1) #[.int .i64 a.me, .int .i64 a.rv, .int .i64 a.nx, .int .i64 a.mo, .int .i64 a.bo, .int .i64 a.fr, .slice dp dn dc, .slice sp sn sc] 58) := hU.keep Hx9.out (by have := HS0.out; omega)
  have Hv10 : Hid (Blk w6 (w.heap.size + 1 + 1) #[.int .i64 v.kd, .int .i64 v.me, .int .i64 v.mo, .int .i64 v.id, .int .i64 v.te, .int .i64 v.de, .int .i64 v.fe, .int .i64 v.pr, .int .i64 v.ch, .int .i64 v.un, .int .i64 v.tg, .int .i64 v.ow, .int .i64 v.bp] 27) := hU.keep Hv9.out (by have := HS0.out; omega)
  have Hr10 : Hid (Blk w6 (w.heap.size + 1 + 1 + 1) #[.int .i64 0, .int .i64 0, .int .i64 0, .int .i64 0, .int .i64 0, .int .i64 0, .slice none 0 0, .slice none 0 0] 58) := hU.keep Hr9.out (by have := HS0.out; omega)
  have Hs10 : Hid (Blk w6 (gs) #[.int .i64 v.id, .int .i64 2, .int .i64 (a.rv + 1), .int .i64 v.tg, .int .i64 a.rv] 103) := hU.blk
  have Ha10 : Hid (Blk w6 (gs + 1) #[.int .i64 b.me, .int .i64 b.rv, .int .i64 b.nx, .int .i64 b.mo, .int .i64 b.bo, .int .i64 b.fr, .slice pb lb cb] 55) := hU.keep Ha9.out (by have := HS0.out; omega)
  have Hb10 : Hid (Blk w6 (gs + 1 + 1) #[.int .i64 l.id, .int .i64 l.te, .int .i64 l.de, .int .i64 l.fe, .int .i64 l.pr, .int .i64 l.ch, .int .i64 l.un] 23) := hU.keep Hb9.out (by have := HS0.out; omega)
  have HB10 : Hid (Below w.heap.size w w6) := hU.bel _ _ (by have := HS0.out; omega) HB9.out
  have HF6 : Hid (deb.Fresh w6 W1.heap.size pb lb cb b.ds) := ⟨acc_upd HF5.out.came hU (fun hn y hy q => by have h1 := HF5.out.new hn y hy; have h2 := HS5.out; omega), HF5.out.new⟩
  have HW6 : Hid (w5.heap.size = w6.heap.size) := hU.size.symm
  clear hU kt0 kt1 kt2 kt3 kt4 kx0 kx1 kx2 kx3 kx4 kx5 kx6 kx7 kv0 kv1 kv2 kv3 kv4 kv5 kv6 kv7 kv8 kv9 kv10 kv11 kv12 ks0 ks1 ks2 ks3 ks4
  have HW1w : Hid (w.heap.size ≤ W1.heap.size) := by have h1 := HS5.out; have h2 := HS0.out; show _ ≤ _; omega
  have HSZ : Hid (W1.heap.size ≤ w6.heap.size) := by show _ ≤ _; have := HW1.out; have := HW3.out; have := HW4.out; have := HW5.out; have := HW6.out; omega
  by_cases hfz : f = 0
  · have HFZ : Hid (f = 0) := hfz
    have nf : (f != 0) = false := by simpa using hfz
    clear hfz
    by_cases hlb : l = billOf v
    · have HLB : Hid (l = billOf v) := hlb
      have qe : ∀ wz : World, (Op.equalIn 10000 23 (.agg #[.int .i64 l.id, .int .i64 l.te, .int .i64 l.de, .int .i64 l.fe, .int .i64 l.pr, .int .i64 l.ch, .int .i64 l.un]) (.agg #[.int .i64 v.id, .int .i64 v.te, .int .i64 v.de, .int .i64 v.fe, .int .i64 v.pr, .int .i64 v.ch, .int .i64 v.un])).run Try.prog wz = .ok true wz := fun wz => by rw [hlb, show (10000 : Nat) = 9998 + 2 from rfl, eqBi]; unfold billOf; simp
      clear hlb
      obtain ⟨kt0, kt1, kt2, kt3, kt4⟩ := scl5 Ht10
      obtain ⟨kx0, kx1, kx2, kx3, kx4, kx5, kx6, kx7⟩ := scl8 Hx10
      obtain ⟨kv0, kv1, kv2, kv3, kv4, kv5, kv6, kv7, kv8, kv9, kv10, kv11, kv12⟩ := scl13 Hv10
      obtain ⟨kb0, kb1, kb2, kb3, kb4, kb5, kb6⟩ := scl7 Hb10
      go_upto_region 20 with fail
      clear kt0 kt1 kt2 kt3 kt4 kx0 kx1 kx2 kx3 kx4 kx5 kx6 kx7 kv0 kv1 kv2 kv3 kv4 kv5 kv6 kv7 kv8 kv9 kv10 kv11 kv12 kb0 kb1 kb2 kb3 kb4 kb5 kb6
      have HSD : Hid ((fun u : World => Blk u (gs + 1) #[.int .i64 b.me, .int .i64 b.rv, .int .i64 b.nx, .int .i64 b.mo, .int .i64 b.bo, .int .i64 b.fr, .slice pb lb cb] 55 ∧ Blk u (w.heap.size + 1) #[.int .i64 a.me, .int .i64 a.rv, .int .i64 a.nx, .int .i64 a.mo, .int .i64 a.bo, .int .i64 a.fr, .slice dp dn dc, .slice sp sn sc] 58 ∧ Blk u gs #[.int .i64 v.id, .int .i64 2, .int .i64 (a.rv + 1), .int .i64 v.tg, .int .i64 a.rv] 103) w6.drew) := ⟨Ha10.out, Hx10.out, Hs10.out⟩
      refine wp_region_held_drew (S := (fun u : World => Blk u (gs + 1) #[.int .i64 b.me, .int .i64 b.rv, .int .i64 b.nx, .int .i64 b.mo, .int .i64 b.bo, .int .i64 b.fr, .slice pb lb cb] 55 ∧ Blk u (w.heap.size + 1) #[.int .i64 a.me, .int .i64 a.rv, .int .i64 a.nx, .int .i64 a.mo, .int .i64 a.bo, .int .i64 a.fr, .slice dp dn dc, .slice sp sn sc] 58 ∧ Blk u gs #[.int .i64 v.id, .int .i64 2, .int .i64 (a.rv + 1), .int .i64 v.tg, .int .i64 a.rv] 103)) (by kernel_rfl) HSD.out (fun hHeld => ?_)
      refine take_at 0 96 (.agg #[.int .i64 b.me, .int .i64 b.rv, .int .i64 b.nx, .int .i64 b.mo, .int .i64 b.bo, .int .i64 b.fr, .slice pb lb cb]) _ rfl rfl (by kernel_rfl) (by kernel_rfl) (by kernel_rfl) (fun _ _ _ h => h) (yieldsIf_whole (by rfl) 55 _ rfl (gs + 1) rfl 55 #[.int .i64 b.me, .int .i64 b.rv, .int .i64 b.nx, .int .i64 b.mo, .int .i64 b.bo, .int .i64 b.fr, .slice pb lb cb] _ (fun u hu => hu.1) Try.underlying55 rfl (by kernel_rfl)) hHeld ?_
      simp only [Act.put, List.setIfInBounds_toArray, List.set_cons_zero, List.set_cons_succ]
      refine take_at 1 97 (.pointer (some ⟨w.heap.size + 1, 7, none⟩)) _ rfl rfl (by kernel_rfl) (by kernel_rfl) (by kernel_rfl) (fun _ _ _ h => h) (Or.inl ⟨by rfl, fun v hv => by clear hv; go_simp⟩) hHeld ?_
      simp only [Act.put, List.setIfInBounds_toArray, List.set_cons_zero, List.set_cons_succ]
      refine take_at 2 98 (.slice sp sn sc) _ rfl rfl (by kernel_rfl) (by kernel_rfl) (by kernel_rfl) (fun _ _ _ h => h) (Or.inl ⟨by rfl, fun v hv => by have h2 := hv.2.1.cell 7; clear hv; go_simp⟩) hHeld ?_
      simp only [Act.put, List.setIfInBounds_toArray, List.set_cons_zero, List.set_cons_succ]
      refine take_at 3 99 (.agg #[.int .i64 v.id, .int .i64 2, .int .i64 (a.rv + 1), .int .i64 v.tg, .int .i64 a.rv]) _ rfl rfl (by kernel_rfl) (by kernel_rfl) (by kernel_rfl) (fun _ _ _ h => h) (yieldsIf_whole (by rfl) 103 _ rfl (gs) rfl 103 #[.int .i64 v.id, .int .i64 2, .int .i64 (a.rv + 1), .int .i64 v.tg, .int .i64 a.rv] _ (fun u hu => hu.2.2) Try.underlying103 rfl (by kernel_rfl)) hHeld ?_
      simp only [Act.put, List.setIfInBounds_toArray, List.set_cons_zero, List.set_cons_succ]
      have HA0 : Hid (Blk w6.drew (gs + 1) #[.int .i64 b.me, .int .i64 b.rv, .int .i64 b.nx, .int .i64 b.mo, .int .i64 b.bo, .int .i64 b.fr, .slice pb lb cb] 55 ∧ Blk w6.drew (w.heap.size + 1) #[.int .i64 a.me, .int .i64 a.rv, .int .i64 a.nx, .int .i64 a.mo, .int .i64 a.bo, .int .i64 a.fr, .slice dp dn dc, .slice sp sn sc] 58 ∧ Blk w6.drew gs #[.int .i64 v.id, .int .i64 2, .int .i64 (a.rv + 1), .int .i64 v.tg, .int .i64 a.rv] 103) := HSD.out
      have HR0 : Hid (Blk w6.drew (w.heap.size + 1 + 1 + 1) #[.int .i64 0, .int .i64 0, .int .i64 0, .int .i64 0, .int .i64 0, .int .i64 0, .slice none 0 0, .slice none 0 0] 58) := Hr10.out
      have HB0d : Hid (Below w.heap.size w w6.drew) := HB10.out.drew
      have HF0 : Hid (deb.Fresh w6.drew W1.heap.size pb lb cb b.ds) := drew_fresh HF6.out
      have HSU : Hid (W1.heap.size ≤ w6.drew.heap.size) := HSZ.out
      have HL0 : Hid (Lo w6.drew base (.slice sp sn sc) sol) := HH.out.so.next HB0d.out
      clear HSD
      generalize w6.drew = U at *
      refine wpAnyH_ready (rs := [4]) (by kernel_rfl) (by simp) (AllReadyH.cons rfl (fun K hK => ?_) AllReadyH.nil)
      rw [if_pos (by rfl)]
      have HAA : Hid (Blk (U.alloc (.cells #[.int .i64 v.id, .int .i64 2, .int .i64 (a.rv + 1), .int .i64 v.tg, .int .i64 a.rv] 103)) (gs + 1) #[.int .i64 b.me, .int .i64 b.rv, .int .i64 b.nx, .int .i64 b.mo, .int .i64 b.bo, .int .i64 b.fr, .slice pb lb cb] 55 ∧ Blk (U.alloc (.cells #[.int .i64 v.id, .int .i64 2, .int .i64 (a.rv + 1), .int .i64 v.tg, .int .i64 a.rv] 103)) (w.heap.size + 1) #[.int .i64 a.me, .int .i64 a.rv, .int .i64 a.nx, .int .i64 a.mo, .int .i64 a.bo, .int .i64 a.fr, .slice dp dn dc, .slice sp sn sc] 58 ∧ Blk (U.alloc (.cells #[.int .i64 v.id, .int .i64 2, .int .i64 (a.rv + 1), .int .i64 v.tg, .int .i64 a.rv] 103)) gs #[.int .i64 v.id, .int .i64 2, .int .i64 (a.rv + 1), .int .i64 v.tg, .int .i64 a.rv] 103) := ⟨HA0.out.1.alloc _, HA0.out.2.1.alloc _, HA0.out.2.2.alloc _⟩
      have HRA : Hid (Blk (U.alloc (.cells #[.int .i64 v.id, .int .i64 2, .int .i64 (a.rv + 1), .int .i64 v.tg, .int .i64 a.rv] 103)) (w.heap.size + 1 + 1 + 1) #[.int .i64 0, .int .i64 0, .int .i64 0, .int .i64 0, .int .i64 0, .int .i64 0, .slice none 0 0, .slice none 0 0] 58) := HR0.out.alloc _
      have HBA : Hid (Below w.heap.size w (U.alloc (.cells #[.int .i64 v.id, .int .i64 2, .int .i64 (a.rv + 1), .int .i64 v.tg, .int .i64 a.rv] 103))) := HB0d.out.alloc HB0d.out.size _
      have HFA : Hid (deb.Fresh (U.alloc (.cells #[.int .i64 v.id, .int .i64 2, .int .i64 (a.rv + 1), .int .i64 v.tg, .int .i64 a.rv] 103)) W1.heap.size pb lb cb b.ds) := HF0.out.below ((Below.refl _ _).alloc (Nat.le_refl _) _)
      have HLA : Hid (Lo (U.alloc (.cells #[.int .i64 v.id, .int .i64 2, .int .i64 (a.rv + 1), .int .i64 v.tg, .int .i64 a.rv] 103)) base (.slice sp sn sc) sol) := HL0.out.alloc _
      have HNA : Hid (Blk (U.alloc (.cells #[.int .i64 v.id, .int .i64 2, .int .i64 (a.rv + 1), .int .i64 v.tg, .int .i64 a.rv] 103)) U.heap.size #[.int .i64 v.id, .int .i64 2, .int .i64 (a.rv + 1), .int .i64 v.tg, .int .i64 a.rv] 103) := Blk.new _ _ _
      have HSA : Hid (W1.heap.size ≤ (U.alloc (.cells #[.int .i64 v.id, .int .i64 2, .int .i64 (a.rv + 1), .int .i64 v.tg, .int .i64 a.rv] 103)).heap.size) := cell.alloc_le HSU.out _
      refine wp_runOp (v := .slice (some ⟨U.heap.size, 0, none⟩) 1 1) (w' := (U.alloc (.cells #[.int .i64 v.id, .int .i64 2, .int .i64 (a.rv + 1), .int .i64 v.tg, .int .i64 a.rv] 103))) 100 rfl (by clear hK; go_simp) ?_
      refine hK.out _ _ HAA.out (fun hHeld => ?_)
      clear hK HA0 HR0 HB0d HF0 HL0 HSU
      simp only [Act.put, List.setIfInBounds_toArray, List.set_cons_zero, List.set_cons_succ]
      generalize U.heap.size = gn at *
      generalize U.alloc _ = U2 at *
      refine wpAnyH_ready (rs := [5]) (by kernel_rfl) (by simp) (AllReadyH.cons rfl (fun K hK => ?_) AllReadyH.nil)
      rw [if_pos (by rfl)]
      have HRL : Hid (w.heap.size + 1 + 1 + 1 < U2.heap.size) := HRA.out.lt
      refine step_sold 101 rfl _ _ rfl base gn _ sol ⟨v.id, 2, (a.rv + 1), v.tg, a.rv⟩ rfl rfl HLA.out HNA.out hsol (Nat.le_trans HBS.out HBA.out.size) ?_
      intro v3 w9 h3 hg3 ho3
      obtain ⟨p3, c3, rfl, _, _, _⟩ := h3.row
      have hown : ∀ g, w.heap.size ≤ g → some g ≠ (Value.slice sp sn sc).ownBlock := fun g hg q => by have := HOWN.out g q.symm; omega
      have hk9 : ∀ g cs ty, w.heap.size ≤ g → Blk U2 g cs ty → Blk w9 g cs ty := fun g cs ty hg hb => by show w9.heap[g]? = _; rw [hg3.block g hb.lt (hown g hg)]; exact hb
      have HA9 : Hid (Blk w9 (gs + 1) #[.int .i64 b.me, .int .i64 b.rv, .int .i64 b.nx, .int .i64 b.mo, .int .i64 b.bo, .int .i64 b.fr, .slice pb lb cb] 55 ∧ Blk w9 (w.heap.size + 1) #[.int .i64 a.me, .int .i64 a.rv, .int .i64 a.nx, .int .i64 a.mo, .int .i64 a.bo, .int .i64 a.fr, .slice dp dn dc, .slice sp sn sc] 58 ∧ Blk w9 gs #[.int .i64 v.id, .int .i64 2, .int .i64 (a.rv + 1), .int .i64 v.tg, .int .i64 a.rv] 103) := ⟨hk9 _ _ _ (by have := HS0.out; omega) HAA.out.1, hk9 _ _ _ (by omega) HAA.out.2.1, hk9 _ _ _ (by have := HS0.out; omega) HAA.out.2.2⟩
      have HR9 : Hid (Blk w9 (w.heap.size + 1 + 1 + 1) #[.int .i64 0, .int .i64 0, .int .i64 0, .int .i64 0, .int .i64 0, .int .i64 0, .slice none 0 0, .slice none 0 0] 58) := hk9 _ _ _ (by omega) HRA.out
      have HG9 : Hid (w.grownBy w9 (Value.slice sp sn sc).ownBlock) := (grown_of HBA.out _).trans hg3
      have HF9 : Hid (tar.Came w9 pb lb cb b.ds) := came_grown HFA.out.came hg3 (fun hn y hy => hown _ (Nat.le_trans HW1w.out (HFA.out.new hn y hy)))
      have HFN : Hid (0 < lb → ∀ y, pb = some y → W1.heap.size ≤ y.block ∧ y.block < U2.heap.size) := fun hn y hy => ⟨HFA.out.new hn y hy, by obtain ⟨bb, oo, e, lbb, _⟩ := HFA.out.came.row.at hn; rw [hy] at e; rw [Option.some.inj e]; exact lbb⟩
      have HL9 : Hid (Lo w9 base (.slice p3 (sol ++ [(⟨v.id, 2, (a.rv + 1), v.tg, a.rv⟩ : So)]).length c3) (sol ++ [⟨v.id, 2, (a.rv + 1), v.tg, a.rv⟩])) := h3
      have HO9 : Hid ((Value.slice p3 (sol ++ [(⟨v.id, 2, (a.rv + 1), v.tg, a.rv⟩ : So)]).length c3).ownBlock = (Value.slice sp sn sc).ownBlock ∨ (Value.slice p3 (sol ++ [(⟨v.id, 2, (a.rv + 1), v.tg, a.rv⟩ : So)]).length c3).ownBlock = some U2.heap.size) := ho3
      have HU2 : Hid (w.heap.size ≤ U2.heap.size) := HBA.out.size
      refine hK.out _ _ HA9.out (fun hHeld => ?_)
      clear hK h3 hg3 ho3 hown hk9 HAA HRA HBA HFA HLA HNA HSA
      simp only [Act.put, List.setIfInBounds_toArray, List.set_cons_zero, List.set_cons_succ]
      generalize (sol ++ [(⟨v.id, 2, (a.rv + 1), v.tg, a.rv⟩ : So)]).length = n3 at *
      refine take_at 6 102 (.agg #[.int .i64 b.me, .int .i64 b.rv, .int .i64 b.nx, .int .i64 b.mo, .int .i64 b.bo, .int .i64 b.fr, .slice pb lb cb, .slice p3 n3 c3]) _ rfl rfl (by kernel_rfl) (by kernel_rfl) (by kernel_rfl) (fun _ _ _ h => h) (Or.inl ⟨by rfl, fun v hv => by clear hv; go_simp⟩) hHeld ?_
      simp only [Act.put, List.setIfInBounds_toArray, List.set_cons_zero, List.set_cons_succ]
      refine wpAnyH_ready (rs := [7]) (by kernel_rfl) (by simp) (AllReadyH.cons rfl (fun K hK => ?_) AllReadyH.nil)
      rw [if_pos (by rfl)]
      refine wp_letOp 58 _ _ rfl (w.heap.size + 1 + 1 + 1) rfl #[.int .i64 b.me, .int .i64 b.rv, .int .i64 b.nx, .int .i64 b.mo, .int .i64 b.bo, .int .i64 b.fr, .slice pb lb cb, .slice p3 n3 c3] rfl (by kernel_rfl) (by simp [Value.oneCell']) #[.int .i64 0, .int .i64 0, .int .i64 0, .int .i64 0, .int .i64 0, .int .i64 0, .slice none 0 0, .slice none 0 0] 58 HR9.out rfl rfl ?_
      intro WF hU
      have HRF : Hid (Blk WF (w.heap.size + 1 + 1 + 1) #[.int .i64 b.me, .int .i64 b.rv, .int .i64 b.nx, .int .i64 b.mo, .int .i64 b.bo, .int .i64 b.fr, .slice pb lb cb, .slice p3 n3 c3] 58) := hU.blk
      have HUF : Hid (Upd w9 WF (w.heap.size + 1 + 1 + 1) #[.int .i64 b.me, .int .i64 b.rv, .int .i64 b.nx, .int .i64 b.mo, .int .i64 b.bo, .int .i64 b.fr, .slice pb lb cb, .slice p3 n3 c3] 58) := hU
      have HAF : Hid (Blk WF (gs + 1) #[.int .i64 b.me, .int .i64 b.rv, .int .i64 b.nx, .int .i64 b.mo, .int .i64 b.bo, .int .i64 b.fr, .slice pb lb cb] 55 ∧ Blk WF (w.heap.size + 1) #[.int .i64 a.me, .int .i64 a.rv, .int .i64 a.nx, .int .i64 a.mo, .int .i64 a.bo, .int .i64 a.fr, .slice dp dn dc, .slice sp sn sc] 58 ∧ Blk WF gs #[.int .i64 v.id, .int .i64 2, .int .i64 (a.rv + 1), .int .i64 v.tg, .int .i64 a.rv] 103) := ⟨hU.keep HA9.out.1 (by have := HS0.out; omega), hU.keep HA9.out.2.1 (by omega), hU.keep HA9.out.2.2 (by have := HS0.out; omega)⟩
      refine hK.out _ _ HAF.out (fun hHeld => ?_)
      clear hK hU HA9 HR9
      refine take_at 8 7 (.int .i64 0) _ rfl rfl (by kernel_rfl) (by kernel_rfl) (by kernel_rfl) (fun _ _ _ h => h) (Or.inl ⟨by rfl, fun v hv => by clear hv; go_simp⟩) hHeld ?_
      simp only [Act.put, List.setIfInBounds_toArray, List.set_cons_zero, List.set_cons_succ]
      refine wpAnyH_done (by kernel_rfl) ?_ _
      clear hHeld
      have R0 : Hid (WF.cell? ⟨w.heap.size + 1 + 1 + 1, 0, none⟩ = some (.int .i64 b.me)) := HRF.out.cell 0
      have R1 : Hid (WF.cell? ⟨w.heap.size + 1 + 1 + 1, 1, none⟩ = some (.int .i64 b.rv)) := HRF.out.cell 1
      have R2 : Hid (WF.cell? ⟨w.heap.size + 1 + 1 + 1, 2, none⟩ = some (.int .i64 b.nx)) := HRF.out.cell 2
      have R3 : Hid (WF.cell? ⟨w.heap.size + 1 + 1 + 1, 3, none⟩ = some (.int .i64 b.mo)) := HRF.out.cell 3
      have R4 : Hid (WF.cell? ⟨w.heap.size + 1 + 1 + 1, 4, none⟩ = some (.int .i64 b.bo)) := HRF.out.cell 4
      have R5 : Hid (WF.cell? ⟨w.heap.size + 1 + 1 + 1, 5, none⟩ = some (.int .i64 b.fr)) := HRF.out.cell 5
      have R6 : Hid (WF.cell? ⟨w.heap.size + 1 + 1 + 1, 6, none⟩ = some (.slice pb lb cb)) := HRF.out.cell 6
      have R7 : Hid (WF.cell? ⟨w.heap.size + 1 + 1 + 1, 7, none⟩ = some (.slice p3 n3 c3)) := HRF.out.cell 7
      have HFIN : Hid (HapPost w base t (cuA a dp dn dc sp sn sc) ⟨a, sol⟩ v (.returned (.tuple #[.agg #[.int .i64 b.me, .int .i64 b.rv, .int .i64 b.nx, .int .i64 b.mo, .int .i64 b.bo, .int .i64 b.fr, .slice pb lb cb, .slice p3 n3 c3], .int .i64 0])) WF) := by
        have hgf : w.grownBy WF (Value.slice sp sn sc).ownBlock := grown_upd HG9.out HUF.out (by omega)
        have hso : soldOf ⟨a, sol⟩ v = ⟨v.id, 2, (a.rv + 1), v.tg, a.rv⟩ := by unfold soldOf; rw [if_pos HKD.out]
        refine ⟨cuA b pb lb cb p3 n3 c3, ⟨b, sol ++ [soldOf ⟨a, sol⟩ v]⟩, 0, rfl, .inr ⟨HK5.out, b, l, f, .inr (.inr ⟨HKD.out, HI.out⟩), .inr (.inr ⟨HFZ.out, HLB.out, rfl, rfl⟩)⟩, fun _ => ?_, hgf⟩
        rw [hso]
        refine ⟨hgf, ⟨cuA_num _ _ _ _ _ _ _, ⟨acc_upd HF9.out HUF.out (fun hn y hy q => by have h1 := (HFN.out hn y hy).1; have h2 := HS5.out; have h3 := HS0.out; omega), fun hn y hy => by have h1 := (HFN.out hn y hy).1; have h2 := HW1w.out; have h3 := HBS.out; omega⟩, lo_upd HL9.out HUF.out (fun g hg q => ?_)⟩, fun g hg => ?_, fun hn y hy => Nat.le_trans HW1w.out (HFN.out hn y hy).1, fun g hg hn y hy q => ?_⟩
        · have h0 : (Value.slice p3 n3 c3).ownBlock = some g := hg
          rcases HO9.out with e | e
          · rw [e] at h0; have := HOWN.out g h0; omega
          · rw [e] at h0; have h1 := Option.some.inj h0; have h2 := HRL.out; omega
        · rcases HO9.out with e | e
          · exact .inl (e.symm.trans hg)
          · refine .inr ?_
            have h0 : (Value.slice p3 n3 c3).ownBlock = some g := hg
            rw [e] at h0
            have h1 := Option.some.inj h0
            have h2 := HU2.out
            omega
        · have h0 : (Value.slice p3 n3 c3).ownBlock = some g := hg
          have h1 := HFN.out hn y hy
          rcases HO9.out with e | e
          · rw [e] at h0; have h2 := HOWN.out g h0; have h3 := HW1w.out; omega
          · rw [e] at h0; have h2 := Option.some.inj h0; omega
      go_wp2_with fail
      exact bodyPost_ret (v := .tuple #[.agg #[.int .i64 b.me, .int .i64 b.rv, .int .i64 b.nx, .int .i64 b.mo, .int .i64 b.bo, .int .i64 b.fr, .slice pb lb cb, .slice p3 n3 c3], .int .i64 0]) (by simp [results, Try.results38, R0.out, R1.out, R2.out, R3.out, R4.out, R5.out, R6.out, R7.out, go_sem]) rfl HFIN.out
    · have HLB : Hid (l ≠ billOf v) := hlb
      have qe : ∀ wz : World, (Op.equalIn 10000 23 (.agg #[.int .i64 l.id, .int .i64 l.te, .int .i64 l.de, .int .i64 l.fe, .int .i64 l.pr, .int .i64 l.ch, .int .i64 l.un]) (.agg #[.int .i64 v.id, .int .i64 v.te, .int .i64 v.de, .int .i64 v.fe, .int .i64 v.pr, .int .i64 v.ch, .int .i64 v.un])).run Try.prog wz = .ok false wz := fun wz => by rw [show (10000 : Nat) = 9998 + 2 from rfl, eqBi]; exact congrArg (fun q => Result.ok q wz) (decide_eq_false (bill_ne hlb))
      clear hlb
      have HNZ : Hid (¬ (8 : Int) = 0) := by show ¬ (8 : Int) = 0; decide
      obtain ⟨kt0, kt1, kt2, kt3, kt4⟩ := scl5 Ht10
      obtain ⟨kx0, kx1, kx2, kx3, kx4, kx5, kx6, kx7⟩ := scl8 Hx10
      obtain ⟨kv0, kv1, kv2, kv3, kv4, kv5, kv6, kv7, kv8, kv9, kv10, kv11, kv12⟩ := scl13 Hv10
      have ks0 : w6.cell? ⟨gs, 0, none⟩ = some (.int .i64 v.id) := Hs10.out.cell 0
      have ks1 : w6.cell? ⟨gs, 1, none⟩ = some (.int .i64 2) := Hs10.out.cell 1
      have ks2 : w6.cell? ⟨gs, 2, none⟩ = some (.int .i64 (a.rv + 1)) := Hs10.out.cell 2
      have ks3 : w6.cell? ⟨gs, 3, none⟩ = some (.int .i64 v.tg) := Hs10.out.cell 3
      have ks4 : w6.cell? ⟨gs, 4, none⟩ = some (.int .i64 a.rv) := Hs10.out.cell 4
      obtain ⟨kb0, kb1, kb2, kb3, kb4, kb5, kb6⟩ := scl7 Hb10
      go_wp2_with (first | (refine wp_letAll rfl 58 _ _ rfl _ rfl _ rfl (by kernel_rfl) (by simp [Value.oneCell']) _ 58 Hr10.out rfl ?_) | fail)
      intro WF hU
      have HRF : Hid (Blk WF (w.heap.size + 1 + 1 + 1) #[.int .i64 0, .int .i64 0, .int .i64 0, .int .i64 0, .int .i64 0, .int .i64 0, .slice none 0 0, .slice none 0 0] 58) := hU.blk
      have HBF := shV hU HB10 (by omega)
      clear hU kt0 kt1 kt2 kt3 kt4 kx0 kx1 kx2 kx3 kx4 kx5 kx6 kx7 kv0 kv1 kv2 kv3 kv4 kv5 kv6 kv7 kv8 kv9 kv10 kv11 kv12 ks0 ks1 ks2 ks3 ks4 kb0 kb1 kb2 kb3 kb4 kb5 kb6
      obtain ⟨R0, R1, R2, R3, R4, R5, R6, R7⟩ := shc8 HRF
      have HFIN : Hid (HapPost w base t (cuA a dp dn dc sp sn sc) ⟨a, sol⟩ v (.returned (.tuple #[.agg #[.int .i64 0, .int .i64 0, .int .i64 0, .int .i64 0, .int .i64 0, .int .i64 0, .slice none 0 0, .slice none 0 0], .int .i64 8])) WF) := ⟨cu0, cm0, 8, rfl, .inr ⟨HK5.out, b, l, f, .inr (.inr ⟨HKD.out, HI.out⟩), .inr (.inl ⟨HFZ.out, HLB.out, rfl⟩)⟩, fun h => absurd h HNZ.out, grown_of HBF.out _⟩
      go_wp2_with fail
      exact bodyPost_ret (v := .tuple #[.agg #[.int .i64 0, .int .i64 0, .int .i64 0, .int .i64 0, .int .i64 0, .int .i64 0, .slice none 0 0, .slice none 0 0], .int .i64 8]) (by simp [results, Try.results38, R0.out, R1.out, R2.out, R3.out, R4.out, R5.out, R6.out, R7.out, go_sem]) rfl HFIN.out
  · have HNZ : Hid (¬ f = 0) := hfz
    have nf : (f != 0) = true := by simpa using hfz
    clear hfz
    obtain ⟨kt0, kt1, kt2, kt3, kt4⟩ := scl5 Ht10
    obtain ⟨kx0, kx1, kx2, kx3, kx4, kx5, kx6, kx7⟩ := scl8 Hx10
    obtain ⟨kv0, kv1, kv2, kv3, kv4, kv5, kv6, kv7, kv8, kv9, kv10, kv11, kv12⟩ := scl13 Hv10
    have ks0 : w6.cell? ⟨gs, 0, none⟩ = some (.int .i64 v.id) := Hs10.out.cell 0
    have ks1 : w6.cell? ⟨gs, 1, none⟩ = some (.int .i64 2) := Hs10.out.cell 1
    have ks2 : w6.cell? ⟨gs, 2, none⟩ = some (.int .i64 (a.rv + 1)) := Hs10.out.cell 2
    have ks3 : w6.cell? ⟨gs, 3, none⟩ = some (.int .i64 v.tg) := Hs10.out.cell 3
    have ks4 : w6.cell? ⟨gs, 4, none⟩ = some (.int .i64 a.rv) := Hs10.out.cell 4
    obtain ⟨kb0, kb1, kb2, kb3, kb4, kb5, kb6⟩ := scl7 Hb10
    go_wp2_with (first | (refine wp_letAll rfl 58 _ _ rfl _ rfl _ rfl (by kernel_rfl) (by simp [Value.oneCell']) _ 58 Hr10.out rfl ?_) | fail)
    intro WF hU
    have HRF : Hid (Blk WF (w.heap.size + 1 + 1 + 1) #[.int .i64 0, .int .i64 0, .int .i64 0, .int .i64 0, .int .i64 0, .int .i64 0, .slice none 0 0, .slice none 0 0] 58) := hU.blk
    have HBF := shV hU HB10 (by omega)
    clear hU kt0 kt1 kt2 kt3 kt4 kx0 kx1 kx2 kx3 kx4 kx5 kx6 kx7 kv0 kv1 kv2 kv3 kv4 kv5 kv6 kv7 kv8 kv9 kv10 kv11 kv12 ks0 ks1 ks2 ks3 ks4 kb0 kb1 kb2 kb3 kb4 kb5 kb6
    obtain ⟨R0, R1, R2, R3, R4, R5, R6, R7⟩ := shc8 HRF
    have HFIN : Hid (HapPost w base t (cuA a dp dn dc sp sn sc) ⟨a, sol⟩ v (.returned (.tuple #[.agg #[.int .i64 0, .int .i64 0, .int .i64 0, .int .i64 0, .int .i64 0, .int .i64 0, .slice none 0 0, .slice none 0 0], .int .i64 f])) WF) := ⟨cu0, cm0, f, rfl, .inr ⟨HK5.out, b, l, f, .inr (.inr ⟨HKD.out, HI.out⟩), .inl ⟨HNZ.out, rfl⟩⟩, fun h => absurd h HNZ.out, grown_of HBF.out _⟩
    go_wp2_with fail
    exact bodyPost_ret (v := .tuple #[.agg #[.int .i64 0, .int .i64 0, .int .i64 0, .int .i64 0, .int .i64 0, .int .i64 0, .slice none 0 0, .slice none 0 0], .int .i64 f]) (by simp [results, Try.results38, R0.out, R1.out, R2.out, R3.out, R4.out, R5.out, R6.out, R7.out, go_sem]) rfl HFIN.out

end Go.Proofs.Ytfhlokjpdkmdjaa.book

/- What an event does to a customer, as the document has it. -/
namespace Go.Proofs.Ytfhlokjpdkmdjaa.book
open Go.RowKit
open Go.Proofs.Ytfhlokjpdkmdjaa.acc (Ac Tm Bi APost BPost OweIs SellIs GrantIs RekeyIs)
set_option maxRecDepth 100000
set_option linter.unusedVariables false
set_option linter.unusedSimpArgs false

theorem rhap (a : Ac) (sol : List So) (dp : Option Addr) (dn dc : Nat) (sp : Option Addr) (sn sc : Nat) (t : Tm) (pt : Option Addr) (lt ct : Nat) (v : Ev) (base : Nat) (w : World) (hx : Has w base (cuA a dp dn dc sp sn sc) ⟨a, sol⟩) (ht : tar.RowD w pt lt t.ts) (htl : lt ≤ maxLen) (hbase : base ≤ w.heap.size) (hkd : v.kd = 2 ∨ v.kd = 3 ∨ v.kd = 4 ∨ v.kd = 5) (hsol : sol.length ≤ 2000000) (hrv : 0 ≤ a.rv ∧ a.rv ≤ 15) :
    Calls Try.prog 38 #[.agg #[.slice pt lt ct, .int .i64 t.ff, .int .i64 t.fb, .int .i64 t.db, .int .i64 t.al], .agg #[.int .i64 a.me, .int .i64 a.rv, .int .i64 a.nx, .int .i64 a.mo, .int .i64 a.bo, .int .i64 a.fr, .slice dp dn dc, .slice sp sn sc], .agg #[.int .i64 v.kd, .int .i64 v.me, .int .i64 v.mo, .int .i64 v.id, .int .i64 v.te, .int .i64 v.de, .int .i64 v.fe, .int .i64 v.pr, .int .i64 v.ch, .int .i64 v.un, .int .i64 v.tg, .int .i64 v.ow, .int .i64 v.bp]] w fun e w' => HapPost w base t (cuA a dp dn dc sp sn sc) ⟨a, sol⟩ v e w' := by
  rcases hkd with h | h | h | h
  · exact rhap2 a sol dp dn dc sp sn sc t pt lt ct v base w hx ht htl hbase h hsol
  · exact rhap3 a sol dp dn dc sp sn sc t pt lt ct v base w hx ht htl hbase h hsol
  · exact rhap4 a sol dp dn dc sp sn sc t pt lt ct v base w hx ht htl hbase h hsol hrv
  · exact rhap5 a sol dp dn dc sp sn sc t pt lt ct v base w hx ht htl hbase h

end Go.Proofs.Ytfhlokjpdkmdjaa.book

/- Two structs are compared, where what comes of it is known. -/
namespace Go.Proofs.Ytfhlokjpdkmdjaa
open Go.RowKit

theorem run_eqOp {P : Program} {o : Oper} {a : Act} {w : World} (ty rt : TypeId) (x y : Operand) (ho : o.op = .binOp .eql ty x y rt) (ca cb : Array Value) (hx : a.eval x = .agg ca) (hy : a.eval y = .agg cb) (hg : P.eqGuardType P.depth ty = false) (b : Bool)
    (hr : (Op.equalIn 10000 ty (.agg ca) (.agg cb)).run P w = .ok b w) : (execOp a.eval o).run P w = .ok (.value (.bool b)) w := by
  have hr' : (Op.equal ty (.agg ca) (.agg cb)).run P w = .ok b w := hr
  unfold execOp
  simp only [ho, hx, hy]
  have hp : ∀ w' : World, (program : Sem Program).run P w' = .ok P w' := fun _ => rfl
  simp [eqGuard, hg, binOp, hr', hp, Sem.run_bind]
theorem wp_eqE {P : Program} {ops : Array Oper} {rest : List Oper} {o : Oper} {a : Act} {w : World} {Q : Exit → Act → World → Prop} (hw : Region.wanted o (yielded ops a.tmps) = true) (ty rt : TypeId) (x y : Operand) (ho : o.op = .binOp .eql ty x y rt) (ca cb : Array Value) (hx : a.eval x = .agg ca) (hy : a.eval y = .agg cb) (hg : P.eqGuardType P.depth ty = false) (b : Bool)
    (hr : (Op.equalIn 10000 ty (.agg ca) (.agg cb)).run P w = .ok b w) (d : Nat) (hd : o.dst = some d) (h : wpList P ops Q rest (a.put (some d) (.bool b)) w) : wpList P ops Q (o :: rest) a w :=
  wpList_step fun K hK => by
    rw [if_pos hw]
    exact wp_runOp d hd (run_eqOp ty rt x y ho ca cb hx hy hg b hr) (hK _ _ h)

end Go.Proofs.Ytfhlokjpdkmdjaa

/- Whether an event may be, as the document has it. -/
namespace Go.Proofs.Ytfhlokjpdkmdjaa.book
open Go.RowKit
set_option maxRecDepth 100000
set_option linter.unusedVariables false
set_option linter.unusedSimpArgs false

def qrB (v : Ev) : Bool := decide (v.kd = 1 ∧ v.me = v.me ∧ v.mo = 0 ∧ v.id = 0 ∧ v.te = 0 ∧ v.de = 0 ∧ v.fe = 0 ∧ v.pr = 0 ∧ v.ch = 0 ∧ v.un = 0 ∧ v.tg = 0 ∧ v.ow = 0 ∧ v.bp = 0)
theorem qrB_iff (v : Ev) : qrB v = true ↔ (v.kd = 1 ∧ v.me = v.me ∧ v.mo = 0 ∧ v.id = 0 ∧ v.te = 0 ∧ v.de = 0 ∧ v.fe = 0 ∧ v.pr = 0 ∧ v.ch = 0 ∧ v.un = 0 ∧ v.tg = 0 ∧ v.ow = 0 ∧ v.bp = 0) := by unfold qrB; rw [decide_eq_true_iff]
theorem qr_run (v : Ev) : ∀ wz : World, (Op.equalIn 10000 27 (.agg #[.int .i64 v.kd, .int .i64 v.me, .int .i64 v.mo, .int .i64 v.id, .int .i64 v.te, .int .i64 v.de, .int .i64 v.fe, .int .i64 v.pr, .int .i64 v.ch, .int .i64 v.un, .int .i64 v.tg, .int .i64 v.ow, .int .i64 v.bp]) (.agg #[.int .i64 1, .int .i64 v.me, .int .i64 0, .int .i64 0, .int .i64 0, .int .i64 0, .int .i64 0, .int .i64 0, .int .i64 0, .int .i64 0, .int .i64 0, .int .i64 0, .int .i64 0])).run Try.prog wz = .ok (qrB v) wz := fun wz => by unfold qrB; rw [show (10000 : Nat) = 9997 + 3 from rfl, eqEv]
def qcB (v : Ev) : Bool := decide (v.kd = 5 ∧ v.me = v.me ∧ v.mo = 0 ∧ v.id = 0 ∧ v.te = 0 ∧ v.de = 0 ∧ v.fe = 0 ∧ v.pr = 0 ∧ v.ch = 0 ∧ v.un = 0 ∧ v.tg = 0 ∧ v.ow = v.ow ∧ v.bp = v.bp)
theorem qcB_iff (v : Ev) : qcB v = true ↔ (v.kd = 5 ∧ v.me = v.me ∧ v.mo = 0 ∧ v.id = 0 ∧ v.te = 0 ∧ v.de = 0 ∧ v.fe = 0 ∧ v.pr = 0 ∧ v.ch = 0 ∧ v.un = 0 ∧ v.tg = 0 ∧ v.ow = v.ow ∧ v.bp = v.bp) := by unfold qcB; rw [decide_eq_true_iff]
theorem qc_run (v : Ev) : ∀ wz : World, (Op.equalIn 10000 27 (.agg #[.int .i64 v.kd, .int .i64 v.me, .int .i64 v.mo, .int .i64 v.id, .int .i64 v.te, .int .i64 v.de, .int .i64 v.fe, .int .i64 v.pr, .int .i64 v.ch, .int .i64 v.un, .int .i64 v.tg, .int .i64 v.ow, .int .i64 v.bp]) (.agg #[.int .i64 5, .int .i64 v.me, .int .i64 0, .int .i64 0, .int .i64 0, .int .i64 0, .int .i64 0, .int .i64 0, .int .i64 0, .int .i64 0, .int .i64 0, .int .i64 v.ow, .int .i64 v.bp])).run Try.prog wz = .ok (qcB v) wz := fun wz => by unfold qcB; rw [show (10000 : Nat) = 9997 + 3 from rfl, eqEv]
def qkB (v : Ev) : Bool := decide (v.id = v.id ∧ v.te = 0 ∧ v.de = 0 ∧ v.fe = 0 ∧ v.pr = 0 ∧ v.ch = 0 ∧ v.un = 0)
theorem qkB_iff (v : Ev) : qkB v = true ↔ (v.id = v.id ∧ v.te = 0 ∧ v.de = 0 ∧ v.fe = 0 ∧ v.pr = 0 ∧ v.ch = 0 ∧ v.un = 0) := by unfold qkB; rw [decide_eq_true_iff]
theorem qk_run (v : Ev) : ∀ wz : World, (Op.equalIn 10000 23 (.agg #[.int .i64 v.id, .int .i64 v.te, .int .i64 v.de, .int .i64 v.fe, .int .i64 v.pr, .int .i64 v.ch, .int .i64 v.un]) (.agg #[.int .i64 v.id, .int .i64 0, .int .i64 0, .int .i64 0, .int .i64 0, .int .i64 0, .int .i64 0])).run Try.prog wz = .ok (qkB v) wz := fun wz => by unfold qkB; rw [show (10000 : Nat) = 9998 + 2 from rfl, eqBi]
def qgB (v : Ev) : Bool := decide (v.id = v.id ∧ v.te = 0 ∧ v.de = 0 ∧ v.fe = 0 ∧ v.pr = 0 ∧ v.ch = 0 ∧ v.un = v.un)
theorem qgB_iff (v : Ev) : qgB v = true ↔ (v.id = v.id ∧ v.te = 0 ∧ v.de = 0 ∧ v.fe = 0 ∧ v.pr = 0 ∧ v.ch = 0 ∧ v.un = v.un) := by unfold qgB; rw [decide_eq_true_iff]
theorem qg_run (v : Ev) : ∀ wz : World, (Op.equalIn 10000 23 (.agg #[.int .i64 v.id, .int .i64 v.te, .int .i64 v.de, .int .i64 v.fe, .int .i64 v.pr, .int .i64 v.ch, .int .i64 v.un]) (.agg #[.int .i64 v.id, .int .i64 0, .int .i64 0, .int .i64 0, .int .i64 0, .int .i64 0, .int .i64 v.un])).run Try.prog wz = .ok (qgB v) wz := fun wz => by unfold qgB; rw [show (10000 : Nat) = 9998 + 2 from rfl, eqBi]
def qdB (v : Ev) : Bool := decide (v.ow = 0 ∧ v.bp = 0)
theorem qdB_iff (v : Ev) : qdB v = true ↔ (v.ow = 0 ∧ v.bp = 0) := by unfold qdB; rw [decide_eq_true_iff]
theorem qd_run (v : Ev) : ∀ wz : World, (Op.equalIn 10000 25 (.agg #[.int .i64 v.ow, .int .i64 v.bp]) (.agg #[.int .i64 0, .int .i64 0])).run Try.prog wz = .ok (qdB v) wz := fun wz => by unfold qdB; rw [show (10000 : Nat) = 9998 + 2 from rfl, eqDe]
def Says (B : Bool) (v : Ev) : Prop := B = true ↔ EMay v
/-- What EventMay gives back. -/
def MayPost (w : World) (v : Ev) (e : Ending) (w' : World) : Prop := ∃ B : Bool, e = .returned (.bool B) ∧ Says B v ∧ Below w.heap.size w w'
set_option maxHeartbeats 4000000 in
theorem rmay (v : Ev) (w : World) : Calls Try.prog 29 #[v.v] w fun e w' => MayPost w v e w' := by
  unfold Ev.v
  have HIme : Hid (∀ W, Calls Try.prog 47 #[.int .i64 v.me, .int .i64 0, .int .i64 49] W fun e w' => e = .returned (.bool (decide (0 ≤ v.me ∧ v.me ≤ 49))) ∧ w' = W) := fun W => cal.cin v.me 0 49 W
  have HIow : Hid (∀ W, Calls Try.prog 47 #[.int .i64 v.ow, .int .i64 1, .int .i64 1000000000] W fun e w' => e = .returned (.bool (decide (1 ≤ v.ow ∧ v.ow ≤ 1000000000))) ∧ w' = W) := fun W => cal.cin v.ow 1 1000000000 W
  have HIbp : Hid (∀ W, Calls Try.prog 47 #[.int .i64 v.bp, .int .i64 0, .int .i64 10000] W fun e w' => e = .returned (.bool (decide (0 ≤ v.bp ∧ v.bp ≤ 10000))) ∧ w' = W) := fun W => cal.cin v.bp 0 10000 W
  have HIkd : Hid (∀ W, Calls Try.prog 47 #[.int .i64 v.kd, .int .i64 2, .int .i64 4] W fun e w' => e = .returned (.bool (decide (2 ≤ v.kd ∧ v.kd ≤ 4))) ∧ w' = W) := fun W => cal.cin v.kd 2 4 W
  have HIid : Hid (∀ W, Calls Try.prog 47 #[.int .i64 v.id, .int .i64 1, .int .i64 1048575] W fun e w' => e = .returned (.bool (decide (1 ≤ v.id ∧ v.id ≤ 1048575))) ∧ w' = W) := fun W => cal.cin v.id 1 1048575 W
  have HItg : Hid (∀ W, Calls Try.prog 47 #[.int .i64 v.tg, .int .i64 0, .int .i64 65535] W fun e w' => e = .returned (.bool (decide (0 ≤ v.tg ∧ v.tg ≤ 65535))) ∧ w' = W) := fun W => cal.cin v.tg 0 65535 W
  have HImo : Hid (∀ W, Calls Try.prog 47 #[.int .i64 v.mo, .int .i64 0, .int .i64 2399] W fun e w' => e = .returned (.bool (decide (0 ≤ v.mo ∧ v.mo ≤ 2399))) ∧ w' = W) := fun W => cal.cin v.mo 0 2399 W
  have HIun : Hid (∀ W, Calls Try.prog 47 #[.int .i64 v.un, .int .i64 1, .int .i64 2097151] W fun e w' => e = .returned (.bool (decide (1 ≤ v.un ∧ v.un ≤ 2097151))) ∧ w' = W) := fun W => cal.cin v.un 1 2097151 W
  have HIte : Hid (∀ W, Calls Try.prog 47 #[.int .i64 v.te, .int .i64 1, .int .i64 100000000] W fun e w' => e = .returned (.bool (decide (1 ≤ v.te ∧ v.te ≤ 100000000))) ∧ w' = W) := fun W => cal.cin v.te 1 100000000 W
  have HIde : Hid (∀ W, Calls Try.prog 47 #[.int .i64 v.de, .int .i64 0, .int .i64 v.te] W fun e w' => e = .returned (.bool (decide (0 ≤ v.de ∧ v.de ≤ v.te))) ∧ w' = W) := fun W => cal.cin v.de 0 v.te W
  have HIfe : Hid (∀ W, Calls Try.prog 47 #[.int .i64 v.fe, .int .i64 0, .int .i64 v.te] W fun e w' => e = .returned (.bool (decide (0 ≤ v.fe ∧ v.fe ≤ v.te))) ∧ w' = W) := fun W => cal.cin v.fe 0 v.te W
  have HIpr : Hid (∀ W, Calls Try.prog 47 #[.int .i64 v.pr, .int .i64 0, .int .i64 v.te] W fun e w' => e = .returned (.bool (decide (0 ≤ v.pr ∧ v.pr ≤ v.te))) ∧ w' = W) := fun W => cal.cin v.pr 0 v.te W
  have HIch : Hid (∀ W, Calls Try.prog 47 #[.int .i64 v.ch, .int .i64 0, .int .i64 v.te] W fun e w' => e = .returned (.bool (decide (0 ≤ v.ch ∧ v.ch ≤ v.te))) ∧ w' = W) := fun W => cal.cin v.ch 0 v.te W
  have Hqr : Hid (∀ wz : World, (Op.equalIn 10000 27 (.agg #[.int .i64 v.kd, .int .i64 v.me, .int .i64 v.mo, .int .i64 v.id, .int .i64 v.te, .int .i64 v.de, .int .i64 v.fe, .int .i64 v.pr, .int .i64 v.ch, .int .i64 v.un, .int .i64 v.tg, .int .i64 v.ow, .int .i64 v.bp]) (.agg #[.int .i64 1, .int .i64 v.me, .int .i64 0, .int .i64 0, .int .i64 0, .int .i64 0, .int .i64 0, .int .i64 0, .int .i64 0, .int .i64 0, .int .i64 0, .int .i64 0, .int .i64 0])).run Try.prog wz = .ok (qrB v) wz) := qr_run v
  have Hqc : Hid (∀ wz : World, (Op.equalIn 10000 27 (.agg #[.int .i64 v.kd, .int .i64 v.me, .int .i64 v.mo, .int .i64 v.id, .int .i64 v.te, .int .i64 v.de, .int .i64 v.fe, .int .i64 v.pr, .int .i64 v.ch, .int .i64 v.un, .int .i64 v.tg, .int .i64 v.ow, .int .i64 v.bp]) (.agg #[.int .i64 5, .int .i64 v.me, .int .i64 0, .int .i64 0, .int .i64 0, .int .i64 0, .int .i64 0, .int .i64 0, .int .i64 0, .int .i64 0, .int .i64 0, .int .i64 v.ow, .int .i64 v.bp])).run Try.prog wz = .ok (qcB v) wz) := qc_run v
  have Hqk : Hid (∀ wz : World, (Op.equalIn 10000 23 (.agg #[.int .i64 v.id, .int .i64 v.te, .int .i64 v.de, .int .i64 v.fe, .int .i64 v.pr, .int .i64 v.ch, .int .i64 v.un]) (.agg #[.int .i64 v.id, .int .i64 0, .int .i64 0, .int .i64 0, .int .i64 0, .int .i64 0, .int .i64 0])).run Try.prog wz = .ok (qkB v) wz) := qk_run v
  have Hqg : Hid (∀ wz : World, (Op.equalIn 10000 23 (.agg #[.int .i64 v.id, .int .i64 v.te, .int .i64 v.de, .int .i64 v.fe, .int .i64 v.pr, .int .i64 v.ch, .int .i64 v.un]) (.agg #[.int .i64 v.id, .int .i64 0, .int .i64 0, .int .i64 0, .int .i64 0, .int .i64 0, .int .i64 v.un])).run Try.prog wz = .ok (qgB v) wz) := qg_run v
  have Hqd : Hid (∀ wz : World, (Op.equalIn 10000 25 (.agg #[.int .i64 v.ow, .int .i64 v.bp]) (.agg #[.int .i64 0, .int .i64 0])).run Try.prog wz = .ok (qdB v) wz) := qd_run v
  have HX0 : Hid (Blk (w.alloc (.cells #[.int .i64 v.kd, .int .i64 v.me, .int .i64 v.mo, .int .i64 v.id, .int .i64 v.te, .int .i64 v.de, .int .i64 v.fe, .int .i64 v.pr, .int .i64 v.ch, .int .i64 v.un, .int .i64 v.tg, .int .i64 v.ow, .int .i64 v.bp] 27)) w.heap.size #[.int .i64 v.kd, .int .i64 v.me, .int .i64 v.mo, .int .i64 v.id, .int .i64 v.te, .int .i64 v.de, .int .i64 v.fe, .int .i64 v.pr, .int .i64 v.ch, .int .i64 v.un, .int .i64 v.tg, .int .i64 v.ow, .int .i64 v.bp] 27) := Blk.new w _ _
  have HB0 : Hid (Below w.heap.size w (w.alloc (.cells #[.int .i64 v.kd, .int .i64 v.me, .int .i64 v.mo, .int .i64 v.id, .int .i64 v.te, .int .i64 v.de, .int .i64 v.fe, .int .i64 v.pr, .int .i64 v.ch, .int .i64 v.un, .int .i64 v.tg, .int .i64 v.ow, .int .i64 v.bp] 27))) := (Below.refl _ _).alloc (Nat.le_refl _) _
  have k0 : (w.alloc (.cells #[.int .i64 v.kd, .int .i64 v.me, .int .i64 v.mo, .int .i64 v.id, .int .i64 v.te, .int .i64 v.de, .int .i64 v.fe, .int .i64 v.pr, .int .i64 v.ch, .int .i64 v.un, .int .i64 v.tg, .int .i64 v.ow, .int .i64 v.bp] 27)).cell? ⟨w.heap.size, 3, none⟩ = some (.int .i64 v.id) := (Blk.new w _ _).cell 3
  have k1 : (w.alloc (.cells #[.int .i64 v.kd, .int .i64 v.me, .int .i64 v.mo, .int .i64 v.id, .int .i64 v.te, .int .i64 v.de, .int .i64 v.fe, .int .i64 v.pr, .int .i64 v.ch, .int .i64 v.un, .int .i64 v.tg, .int .i64 v.ow, .int .i64 v.bp] 27)).cell? ⟨w.heap.size, 4, none⟩ = some (.int .i64 v.te) := (Blk.new w _ _).cell 4
  have k2 : (w.alloc (.cells #[.int .i64 v.kd, .int .i64 v.me, .int .i64 v.mo, .int .i64 v.id, .int .i64 v.te, .int .i64 v.de, .int .i64 v.fe, .int .i64 v.pr, .int .i64 v.ch, .int .i64 v.un, .int .i64 v.tg, .int .i64 v.ow, .int .i64 v.bp] 27)).cell? ⟨w.heap.size, 5, none⟩ = some (.int .i64 v.de) := (Blk.new w _ _).cell 5
  have k3 : (w.alloc (.cells #[.int .i64 v.kd, .int .i64 v.me, .int .i64 v.mo, .int .i64 v.id, .int .i64 v.te, .int .i64 v.de, .int .i64 v.fe, .int .i64 v.pr, .int .i64 v.ch, .int .i64 v.un, .int .i64 v.tg, .int .i64 v.ow, .int .i64 v.bp] 27)).cell? ⟨w.heap.size, 6, none⟩ = some (.int .i64 v.fe) := (Blk.new w _ _).cell 6
  have k4 : (w.alloc (.cells #[.int .i64 v.kd, .int .i64 v.me, .int .i64 v.mo, .int .i64 v.id, .int .i64 v.te, .int .i64 v.de, .int .i64 v.fe, .int .i64 v.pr, .int .i64 v.ch, .int .i64 v.un, .int .i64 v.tg, .int .i64 v.ow, .int .i64 v.bp] 27)).cell? ⟨w.heap.size, 7, none⟩ = some (.int .i64 v.pr) := (Blk.new w _ _).cell 7
  have k5 : (w.alloc (.cells #[.int .i64 v.kd, .int .i64 v.me, .int .i64 v.mo, .int .i64 v.id, .int .i64 v.te, .int .i64 v.de, .int .i64 v.fe, .int .i64 v.pr, .int .i64 v.ch, .int .i64 v.un, .int .i64 v.tg, .int .i64 v.ow, .int .i64 v.bp] 27)).cell? ⟨w.heap.size, 8, none⟩ = some (.int .i64 v.ch) := (Blk.new w _ _).cell 8
  have k6 : (w.alloc (.cells #[.int .i64 v.kd, .int .i64 v.me, .int .i64 v.mo, .int .i64 v.id, .int .i64 v.te, .int .i64 v.de, .int .i64 v.fe, .int .i64 v.pr, .int .i64 v.ch, .int .i64 v.un, .int .i64 v.tg, .int .i64 v.ow, .int .i64 v.bp] 27)).cell? ⟨w.heap.size, 9, none⟩ = some (.int .i64 v.un) := (Blk.new w _ _).cell 9
  generalize hWW : (w.alloc (.cells #[.int .i64 v.kd, .int .i64 v.me, .int .i64 v.mo, .int .i64 v.id, .int .i64 v.te, .int .i64 v.de, .int .i64 v.fe, .int .i64 v.pr, .int .i64 v.ch, .int .i64 v.un, .int .i64 v.tg, .int .i64 v.ow, .int .i64 v.bp] 27)) = W0 at *
  have HWW : Hid ((w.alloc (.cells #[.int .i64 v.kd, .int .i64 v.me, .int .i64 v.mo, .int .i64 v.id, .int .i64 v.te, .int .i64 v.de, .int .i64 v.fe, .int .i64 v.pr, .int .i64 v.ch, .int .i64 v.un, .int .i64 v.tg, .int .i64 v.ow, .int .i64 v.bp] 27)) = W0) := hWW
  clear hWW
  go_enter Try.func29, Try.ntmps29
  go_upto_region 1 with fail
  rw [HWW.out]
  clear HWW
  have HV1 : Hid (Blk (W0.alloc (.cells #[.int .i64 v.id, .int .i64 v.te, .int .i64 v.de, .int .i64 v.fe, .int .i64 v.pr, .int .i64 v.ch, .int .i64 v.un] 23)) w.heap.size #[.int .i64 v.kd, .int .i64 v.me, .int .i64 v.mo, .int .i64 v.id, .int .i64 v.te, .int .i64 v.de, .int .i64 v.fe, .int .i64 v.pr, .int .i64 v.ch, .int .i64 v.un, .int .i64 v.tg, .int .i64 v.ow, .int .i64 v.bp] 27) := HX0.out.alloc _
  have HBB : Hid (Blk (W0.alloc (.cells #[.int .i64 v.id, .int .i64 v.te, .int .i64 v.de, .int .i64 v.fe, .int .i64 v.pr, .int .i64 v.ch, .int .i64 v.un] 23)) W0.heap.size #[.int .i64 v.id, .int .i64 v.te, .int .i64 v.de, .int .i64 v.fe, .int .i64 v.pr, .int .i64 v.ch, .int .i64 v.un] 23) := Blk.new W0 _ _
  have HB1 : Hid (Below w.heap.size w (W0.alloc (.cells #[.int .i64 v.id, .int .i64 v.te, .int .i64 v.de, .int .i64 v.fe, .int .i64 v.pr, .int .i64 v.ch, .int .i64 v.un] 23))) := HB0.out.alloc HB0.out.size _
  go_upto_region 2 with fail
  generalize (W0.alloc (.cells #[.int .i64 v.id, .int .i64 v.te, .int .i64 v.de, .int .i64 v.fe, .int .i64 v.pr, .int .i64 v.ch, .int .i64 v.un] 23)) = W1 at *
  generalize W0.heap.size = gb at *
  clear k0 k1 k2 k3 k4 k5 k6 HX0 HB0
  have ckd : W1.cell? ⟨w.heap.size, 0, none⟩ = some (.int .i64 v.kd) := HV1.out.cell 0
  have cme : W1.cell? ⟨w.heap.size, 1, none⟩ = some (.int .i64 v.me) := HV1.out.cell 1
  have cmo : W1.cell? ⟨w.heap.size, 2, none⟩ = some (.int .i64 v.mo) := HV1.out.cell 2
  have cid : W1.cell? ⟨w.heap.size, 3, none⟩ = some (.int .i64 v.id) := HV1.out.cell 3
  have cte : W1.cell? ⟨w.heap.size, 4, none⟩ = some (.int .i64 v.te) := HV1.out.cell 4
  have cde : W1.cell? ⟨w.heap.size, 5, none⟩ = some (.int .i64 v.de) := HV1.out.cell 5
  have cfe : W1.cell? ⟨w.heap.size, 6, none⟩ = some (.int .i64 v.fe) := HV1.out.cell 6
  have cpr : W1.cell? ⟨w.heap.size, 7, none⟩ = some (.int .i64 v.pr) := HV1.out.cell 7
  have cch : W1.cell? ⟨w.heap.size, 8, none⟩ = some (.int .i64 v.ch) := HV1.out.cell 8
  have cun : W1.cell? ⟨w.heap.size, 9, none⟩ = some (.int .i64 v.un) := HV1.out.cell 9
  have ctg : W1.cell? ⟨w.heap.size, 10, none⟩ = some (.int .i64 v.tg) := HV1.out.cell 10
  have cow : W1.cell? ⟨w.heap.size, 11, none⟩ = some (.int .i64 v.ow) := HV1.out.cell 11
  have cbp : W1.cell? ⟨w.heap.size, 12, none⟩ = some (.int .i64 v.bp) := HV1.out.cell 12
  have bid : W1.cell? ⟨gb, 0, none⟩ = some (.int .i64 v.id) := HBB.out.cell 0
  have bte : W1.cell? ⟨gb, 1, none⟩ = some (.int .i64 v.te) := HBB.out.cell 1
  have bde : W1.cell? ⟨gb, 2, none⟩ = some (.int .i64 v.de) := HBB.out.cell 2
  have bfe : W1.cell? ⟨gb, 3, none⟩ = some (.int .i64 v.fe) := HBB.out.cell 3
  have bpr : W1.cell? ⟨gb, 4, none⟩ = some (.int .i64 v.pr) := HBB.out.cell 4
  have bch : W1.cell? ⟨gb, 5, none⟩ = some (.int .i64 v.ch) := HBB.out.cell 5
  have bun : W1.cell? ⟨gb, 6, none⟩ = some (.int .i64 v.un) := HBB.out.cell 6
  clear HV1 HBB
  by_cases hme : 0 ≤ v.me ∧ v.me ≤ 49
  · skip
    rw [decide_eq_true hme] at HIme
    go_wp2_with fail
    refine (HIme.out _).mono ?_
    rintro e wz ⟨rfl, hwz⟩
    subst wz
    clear HIme
    by_cases hk1 : v.kd = 1
    · have n1 : (v.kd == 1) = true := by simpa using hk1
      have Pk1 : Hid (v.kd = 1) := hk1
      clear hk1
      rcases Bool.eq_false_or_eq_true (qrB v) with hqr | hqr
      · skip
        have pqr := qrB_iff v
        rw [hqr] at pqr
        have qr : ∀ wz : World, (Op.equalIn 10000 27 (.agg #[.int .i64 v.kd, .int .i64 v.me, .int .i64 v.mo, .int .i64 v.id, .int .i64 v.te, .int .i64 v.de, .int .i64 v.fe, .int .i64 v.pr, .int .i64 v.ch, .int .i64 v.un, .int .i64 v.tg, .int .i64 v.ow, .int .i64 v.bp]) (.agg #[.int .i64 1, .int .i64 v.me, .int .i64 0, .int .i64 0, .int .i64 0, .int .i64 0, .int .i64 0, .int .i64 0, .int .i64 0, .int .i64 0, .int .i64 0, .int .i64 0, .int .i64 0])).run Try.prog wz = .ok true wz := fun wz => (Hqr.out wz).trans (congrArg (fun b => Result.ok b wz) hqr)
        clear Hqr
        have Pqr : Hid ((v.kd = 1 ∧ v.me = v.me ∧ v.mo = 0 ∧ v.id = 0 ∧ v.te = 0 ∧ v.de = 0 ∧ v.fe = 0 ∧ v.pr = 0 ∧ v.ch = 0 ∧ v.un = 0 ∧ v.tg = 0 ∧ v.ow = 0 ∧ v.bp = 0)) := pqr.1 rfl
        clear hqr pqr
        have HV : Hid (Says true v) := by
          show (true = true) ↔ _
          have zk1 := Pk1.out
          have zqr := Pqr.out
          simp only [true_iff]
          unfold EMay
          first | omega | (constructor <;> intro hh <;> first | omega | (exfalso; omega) | cases hh)
        go_wp2_with (first | (refine wp_eqE (by rfl) 27 _ _ _ rfl #[.int .i64 v.kd, .int .i64 v.me, .int .i64 v.mo, .int .i64 v.id, .int .i64 v.te, .int .i64 v.de, .int .i64 v.fe, .int .i64 v.pr, .int .i64 v.ch, .int .i64 v.un, .int .i64 v.tg, .int .i64 v.ow, .int .i64 v.bp] #[.int .i64 1, .int .i64 v.me, .int .i64 0, .int .i64 0, .int .i64 0, .int .i64 0, .int .i64 0, .int .i64 0, .int .i64 0, .int .i64 0, .int .i64 0, .int .i64 0, .int .i64 0] rfl rfl (by kernel_rfl) true (qr _) _ rfl ?_) | fail)
        all_goals first
          | (rename_i q1 q2; exact absurd q1 (by simp [undef]))
          | (go_ret; exact ⟨_, rfl, HV.out, HB1.out⟩)
      · skip
        have pqr := qrB_iff v
        rw [hqr] at pqr
        have qr : ∀ wz : World, (Op.equalIn 10000 27 (.agg #[.int .i64 v.kd, .int .i64 v.me, .int .i64 v.mo, .int .i64 v.id, .int .i64 v.te, .int .i64 v.de, .int .i64 v.fe, .int .i64 v.pr, .int .i64 v.ch, .int .i64 v.un, .int .i64 v.tg, .int .i64 v.ow, .int .i64 v.bp]) (.agg #[.int .i64 1, .int .i64 v.me, .int .i64 0, .int .i64 0, .int .i64 0, .int .i64 0, .int .i64 0, .int .i64 0, .int .i64 0, .int .i64 0, .int .i64 0, .int .i64 0, .int .i64 0])).run Try.prog wz = .ok false wz := fun wz => (Hqr.out wz).trans (congrArg (fun b => Result.ok b wz) hqr)
        clear Hqr
        have Pqr : Hid (¬ (v.kd = 1 ∧ v.me = v.me ∧ v.mo = 0 ∧ v.id = 0 ∧ v.te = 0 ∧ v.de = 0 ∧ v.fe = 0 ∧ v.pr = 0 ∧ v.ch = 0 ∧ v.un = 0 ∧ v.tg = 0 ∧ v.ow = 0 ∧ v.bp = 0)) := fun hq => absurd (pqr.2 hq) (by decide)
        clear hqr pqr
        have HV : Hid (Says false v) := by
          show (false = true) ↔ _
          have zk1 := Pk1.out
          have zqr := Pqr.out
          simp only [Bool.false_eq_true, false_iff]
          unfold EMay
          first | omega | (constructor <;> intro hh <;> first | omega | (exfalso; omega) | cases hh)
        go_wp2_with (first | (refine wp_eqE (by rfl) 27 _ _ _ rfl #[.int .i64 v.kd, .int .i64 v.me, .int .i64 v.mo, .int .i64 v.id, .int .i64 v.te, .int .i64 v.de, .int .i64 v.fe, .int .i64 v.pr, .int .i64 v.ch, .int .i64 v.un, .int .i64 v.tg, .int .i64 v.ow, .int .i64 v.bp] #[.int .i64 1, .int .i64 v.me, .int .i64 0, .int .i64 0, .int .i64 0, .int .i64 0, .int .i64 0, .int .i64 0, .int .i64 0, .int .i64 0, .int .i64 0, .int .i64 0, .int .i64 0] rfl rfl (by kernel_rfl) false (qr _) _ rfl ?_) | fail)
        all_goals first
          | (rename_i q1 q2; exact absurd q1 (by simp [undef]))
          | (go_ret; exact ⟨_, rfl, HV.out, HB1.out⟩)
    · have n1 : (v.kd == 1) = false := by simpa using hk1
      have Pk1 : Hid (v.kd ≠ 1) := hk1
      clear hk1
      by_cases hk5 : v.kd = 5
      · have n5 : (v.kd == 5) = true := by simpa using hk5
        have Pk5 : Hid (v.kd = 5) := hk5
        clear hk5
        rcases Bool.eq_false_or_eq_true (qcB v) with hqc | hqc
        · skip
          have pqc := qcB_iff v
          rw [hqc] at pqc
          have qc : ∀ wz : World, (Op.equalIn 10000 27 (.agg #[.int .i64 v.kd, .int .i64 v.me, .int .i64 v.mo, .int .i64 v.id, .int .i64 v.te, .int .i64 v.de, .int .i64 v.fe, .int .i64 v.pr, .int .i64 v.ch, .int .i64 v.un, .int .i64 v.tg, .int .i64 v.ow, .int .i64 v.bp]) (.agg #[.int .i64 5, .int .i64 v.me, .int .i64 0, .int .i64 0, .int .i64 0, .int .i64 0, .int .i64 0, .int .i64 0, .int .i64 0, .int .i64 0, .int .i64 0, .int .i64 v.ow, .int .i64 v.bp])).run Try.prog wz = .ok true wz := fun wz => (Hqc.out wz).trans (congrArg (fun b => Result.ok b wz) hqc)
          clear Hqc
          have Pqc : Hid ((v.kd = 5 ∧ v.me = v.me ∧ v.mo = 0 ∧ v.id = 0 ∧ v.te = 0 ∧ v.de = 0 ∧ v.fe = 0 ∧ v.pr = 0 ∧ v.ch = 0 ∧ v.un = 0 ∧ v.tg = 0 ∧ v.ow = v.ow ∧ v.bp = v.bp)) := pqc.1 rfl
          clear hqc pqc
          by_cases how : 1 ≤ v.ow ∧ v.ow ≤ 1000000000
          · skip
            rw [decide_eq_true how] at HIow
            go_wp2_with (first | (refine wp_eqE (by rfl) 27 _ _ _ rfl #[.int .i64 v.kd, .int .i64 v.me, .int .i64 v.mo, .int .i64 v.id, .int .i64 v.te, .int .i64 v.de, .int .i64 v.fe, .int .i64 v.pr, .int .i64 v.ch, .int .i64 v.un, .int .i64 v.tg, .int .i64 v.ow, .int .i64 v.bp] #[.int .i64 5, .int .i64 v.me, .int .i64 0, .int .i64 0, .int .i64 0, .int .i64 0, .int .i64 0, .int .i64 0, .int .i64 0, .int .i64 0, .int .i64 0, .int .i64 v.ow, .int .i64 v.bp] rfl rfl (by kernel_rfl) true (qc _) _ rfl ?_) | fail)
            refine (HIow.out _).mono ?_
            rintro e wz ⟨rfl, hwz⟩
            subst wz
            clear HIow
            by_cases hbp : 0 ≤ v.bp ∧ v.bp ≤ 10000
            · skip
              rw [decide_eq_true hbp] at HIbp
              go_wp2_with (first | (refine wp_eqE (by rfl) 27 _ _ _ rfl #[.int .i64 v.kd, .int .i64 v.me, .int .i64 v.mo, .int .i64 v.id, .int .i64 v.te, .int .i64 v.de, .int .i64 v.fe, .int .i64 v.pr, .int .i64 v.ch, .int .i64 v.un, .int .i64 v.tg, .int .i64 v.ow, .int .i64 v.bp] #[.int .i64 5, .int .i64 v.me, .int .i64 0, .int .i64 0, .int .i64 0, .int .i64 0, .int .i64 0, .int .i64 0, .int .i64 0, .int .i64 0, .int .i64 0, .int .i64 v.ow, .int .i64 v.bp] rfl rfl (by kernel_rfl) true (qc _) _ rfl ?_) | fail)
              refine (HIbp.out _).mono ?_
              rintro e wz ⟨rfl, hwz⟩
              subst wz
              clear HIbp
              have HV : Hid (Says true v) := by
                show (true = true) ↔ _
                have zk1 := Pk1.out
                have zk5 := Pk5.out
                have zqc := Pqc.out
                simp only [true_iff]
                unfold EMay
                first | omega | (constructor <;> intro hh <;> first | omega | (exfalso; omega) | cases hh)
              go_wp2_with (first | (refine wp_eqE (by rfl) 27 _ _ _ rfl #[.int .i64 v.kd, .int .i64 v.me, .int .i64 v.mo, .int .i64 v.id, .int .i64 v.te, .int .i64 v.de, .int .i64 v.fe, .int .i64 v.pr, .int .i64 v.ch, .int .i64 v.un, .int .i64 v.tg, .int .i64 v.ow, .int .i64 v.bp] #[.int .i64 5, .int .i64 v.me, .int .i64 0, .int .i64 0, .int .i64 0, .int .i64 0, .int .i64 0, .int .i64 0, .int .i64 0, .int .i64 0, .int .i64 0, .int .i64 v.ow, .int .i64 v.bp] rfl rfl (by kernel_rfl) true (qc _) _ rfl ?_) | fail)
              all_goals first
                | (rename_i q1 q2; exact absurd q1 (by simp [undef]))
                | (go_ret; exact ⟨_, rfl, HV.out, HB1.out⟩)
            · skip
              have HV : Hid (Says false v) := by
                show (false = true) ↔ _
                have zk1 := Pk1.out
                have zk5 := Pk5.out
                have zqc := Pqc.out
                simp only [Bool.false_eq_true, false_iff]
                unfold EMay
                first | omega | (constructor <;> intro hh <;> first | omega | (exfalso; omega) | cases hh)
              rw [decide_eq_false hbp] at HIbp
              go_wp2_with (first | (refine wp_eqE (by rfl) 27 _ _ _ rfl #[.int .i64 v.kd, .int .i64 v.me, .int .i64 v.mo, .int .i64 v.id, .int .i64 v.te, .int .i64 v.de, .int .i64 v.fe, .int .i64 v.pr, .int .i64 v.ch, .int .i64 v.un, .int .i64 v.tg, .int .i64 v.ow, .int .i64 v.bp] #[.int .i64 5, .int .i64 v.me, .int .i64 0, .int .i64 0, .int .i64 0, .int .i64 0, .int .i64 0, .int .i64 0, .int .i64 0, .int .i64 0, .int .i64 0, .int .i64 v.ow, .int .i64 v.bp] rfl rfl (by kernel_rfl) true (qc _) _ rfl ?_) | fail)
              refine (HIbp.out _).mono ?_
              rintro e wz ⟨rfl, hwz⟩
              subst wz
              clear HIbp
              go_wp2_with (first | (refine wp_eqE (by rfl) 27 _ _ _ rfl #[.int .i64 v.kd, .int .i64 v.me, .int .i64 v.mo, .int .i64 v.id, .int .i64 v.te, .int .i64 v.de, .int .i64 v.fe, .int .i64 v.pr, .int .i64 v.ch, .int .i64 v.un, .int .i64 v.tg, .int .i64 v.ow, .int .i64 v.bp] #[.int .i64 5, .int .i64 v.me, .int .i64 0, .int .i64 0, .int .i64 0, .int .i64 0, .int .i64 0, .int .i64 0, .int .i64 0, .int .i64 0, .int .i64 0, .int .i64 v.ow, .int .i64 v.bp] rfl rfl (by kernel_rfl) true (qc _) _ rfl ?_) | fail)
              all_goals first
                | (rename_i q1 q2; exact absurd q1 (by simp [undef]))
                | (go_ret; exact ⟨_, rfl, HV.out, HB1.out⟩)
          · skip
            have HV : Hid (Says false v) := by
              show (false = true) ↔ _
              have zk1 := Pk1.out
              have zk5 := Pk5.out
              have zqc := Pqc.out
              simp only [Bool.false_eq_true, false_iff]
              unfold EMay
              first | omega | (constructor <;> intro hh <;> first | omega | (exfalso; omega) | cases hh)
            rw [decide_eq_false how] at HIow
            go_wp2_with (first | (refine wp_eqE (by rfl) 27 _ _ _ rfl #[.int .i64 v.kd, .int .i64 v.me, .int .i64 v.mo, .int .i64 v.id, .int .i64 v.te, .int .i64 v.de, .int .i64 v.fe, .int .i64 v.pr, .int .i64 v.ch, .int .i64 v.un, .int .i64 v.tg, .int .i64 v.ow, .int .i64 v.bp] #[.int .i64 5, .int .i64 v.me, .int .i64 0, .int .i64 0, .int .i64 0, .int .i64 0, .int .i64 0, .int .i64 0, .int .i64 0, .int .i64 0, .int .i64 0, .int .i64 v.ow, .int .i64 v.bp] rfl rfl (by kernel_rfl) true (qc _) _ rfl ?_) | fail)
            refine (HIow.out _).mono ?_
            rintro e wz ⟨rfl, hwz⟩
            subst wz
            clear HIow
            go_wp2_with (first | (refine wp_eqE (by rfl) 27 _ _ _ rfl #[.int .i64 v.kd, .int .i64 v.me, .int .i64 v.mo, .int .i64 v.id, .int .i64 v.te, .int .i64 v.de, .int .i64 v.fe, .int .i64 v.pr, .int .i64 v.ch, .int .i64 v.un, .int .i64 v.tg, .int .i64 v.ow, .int .i64 v.bp] #[.int .i64 5, .int .i64 v.me, .int .i64 0, .int .i64 0, .int .i64 0, .int .i64 0, .int .i64 0, .int .i64 0, .int .i64 0, .int .i64 0, .int .i64 0, .int .i64 v.ow, .int .i64 v.bp] rfl rfl (by kernel_rfl) true (qc _) _ rfl ?_) | fail)
            all_goals first
              | (rename_i q1 q2; exact absurd q1 (by simp [undef]))
              | (go_ret; exact ⟨_, rfl, HV.out, HB1.out⟩)
        · skip
          have pqc := qcB_iff v
          rw [hqc] at pqc
          have qc : ∀ wz : World, (Op.equalIn 10000 27 (.agg #[.int .i64 v.kd, .int .i64 v.me, .int .i64 v.mo, .int .i64 v.id, .int .i64 v.te, .int .i64 v.de, .int .i64 v.fe, .int .i64 v.pr, .int .i64 v.ch, .int .i64 v.un, .int .i64 v.tg, .int .i64 v.ow, .int .i64 v.bp]) (.agg #[.int .i64 5, .int .i64 v.me, .int .i64 0, .int .i64 0, .int .i64 0, .int .i64 0, .int .i64 0, .int .i64 0, .int .i64 0, .int .i64 0, .int .i64 0, .int .i64 v.ow, .int .i64 v.bp])).run Try.prog wz = .ok false wz := fun wz => (Hqc.out wz).trans (congrArg (fun b => Result.ok b wz) hqc)
          clear Hqc
          have Pqc : Hid (¬ (v.kd = 5 ∧ v.me = v.me ∧ v.mo = 0 ∧ v.id = 0 ∧ v.te = 0 ∧ v.de = 0 ∧ v.fe = 0 ∧ v.pr = 0 ∧ v.ch = 0 ∧ v.un = 0 ∧ v.tg = 0 ∧ v.ow = v.ow ∧ v.bp = v.bp)) := fun hq => absurd (pqc.2 hq) (by decide)
          clear hqc pqc
          have HV : Hid (Says false v) := by
            show (false = true) ↔ _
            have zk1 := Pk1.out
            have zk5 := Pk5.out
            have zqc := Pqc.out
            simp only [Bool.false_eq_true, false_iff]
            unfold EMay
            first | omega | (constructor <;> intro hh <;> first | omega | (exfalso; omega) | cases hh)
          go_wp2_with (first | (refine wp_eqE (by rfl) 27 _ _ _ rfl #[.int .i64 v.kd, .int .i64 v.me, .int .i64 v.mo, .int .i64 v.id, .int .i64 v.te, .int .i64 v.de, .int .i64 v.fe, .int .i64 v.pr, .int .i64 v.ch, .int .i64 v.un, .int .i64 v.tg, .int .i64 v.ow, .int .i64 v.bp] #[.int .i64 5, .int .i64 v.me, .int .i64 0, .int .i64 0, .int .i64 0, .int .i64 0, .int .i64 0, .int .i64 0, .int .i64 0, .int .i64 0, .int .i64 0, .int .i64 v.ow, .int .i64 v.bp] rfl rfl (by kernel_rfl) false (qc _) _ rfl ?_) | fail)
          all_goals first
            | (rename_i q1 q2; exact absurd q1 (by simp [undef]))
            | (go_ret; exact ⟨_, rfl, HV.out, HB1.out⟩)
      · have n5 : (v.kd == 5) = false := by simpa using hk5
        have Pk5 : Hid (v.kd ≠ 5) := hk5
        clear hk5
        by_cases hkd : 2 ≤ v.kd ∧ v.kd ≤ 4
        · skip
          rw [decide_eq_true hkd] at HIkd
          go_wp2_with fail
          refine (HIkd.out _).mono ?_
          rintro e wz ⟨rfl, hwz⟩
          subst wz
          clear HIkd
          by_cases hid : 1 ≤ v.id ∧ v.id ≤ 1048575
          · skip
            rw [decide_eq_true hid] at HIid
            go_wp2_with fail
            refine (HIid.out _).mono ?_
            rintro e wz ⟨rfl, hwz⟩
            subst wz
            clear HIid
            by_cases htg : 0 ≤ v.tg ∧ v.tg ≤ 65535
            · skip
              rw [decide_eq_true htg] at HItg
              go_wp2_with fail
              refine (HItg.out _).mono ?_
              rintro e wz ⟨rfl, hwz⟩
              subst wz
              clear HItg
              rcases Bool.eq_false_or_eq_true (qdB v) with hqd | hqd
              · skip
                have pqd := qdB_iff v
                rw [hqd] at pqd
                have qd : ∀ wz : World, (Op.equalIn 10000 25 (.agg #[.int .i64 v.ow, .int .i64 v.bp]) (.agg #[.int .i64 0, .int .i64 0])).run Try.prog wz = .ok true wz := fun wz => (Hqd.out wz).trans (congrArg (fun b => Result.ok b wz) hqd)
                clear Hqd
                have Pqd : Hid ((v.ow = 0 ∧ v.bp = 0)) := pqd.1 rfl
                clear hqd pqd
                by_cases hk4 : v.kd = 4
                · have n4 : (v.kd == 4) = true := by simpa using hk4
                  have Pk4 : Hid (v.kd = 4) := hk4
                  clear hk4
                  by_cases hmz : v.mo = 0
                  · have n0 : (v.mo == 0) = true := by simpa using hmz
                    have Pm : Hid (v.mo = 0) := hmz
                    clear hmz
                    rcases Bool.eq_false_or_eq_true (qkB v) with hqk | hqk
                    · skip
                      have pqk := qkB_iff v
                      rw [hqk] at pqk
                      have qk : ∀ wz : World, (Op.equalIn 10000 23 (.agg #[.int .i64 v.id, .int .i64 v.te, .int .i64 v.de, .int .i64 v.fe, .int .i64 v.pr, .int .i64 v.ch, .int .i64 v.un]) (.agg #[.int .i64 v.id, .int .i64 0, .int .i64 0, .int .i64 0, .int .i64 0, .int .i64 0, .int .i64 0])).run Try.prog wz = .ok true wz := fun wz => (Hqk.out wz).trans (congrArg (fun b => Result.ok b wz) hqk)
                      clear Hqk
                      have Pqk : Hid ((v.id = v.id ∧ v.te = 0 ∧ v.de = 0 ∧ v.fe = 0 ∧ v.pr = 0 ∧ v.ch = 0 ∧ v.un = 0)) := pqk.1 rfl
                      clear hqk pqk
                      have HV : Hid (Says true v) := by
                        show (true = true) ↔ _
                        have zk1 := Pk1.out
                        have zk5 := Pk5.out
                        have zqd := Pqd.out
                        have zk4 := Pk4.out
                        have zm := Pm.out
                        have zqk := Pqk.out
                        simp only [true_iff]
                        unfold EMay
                        first | omega | (constructor <;> intro hh <;> first | omega | (exfalso; omega) | cases hh)
                      go_wp2_with fail
                      all_goals first
                        | (rename_i q1 q2; exact absurd q1 (by simp [undef]))
                        | (go_ret; exact ⟨_, rfl, HV.out, HB1.out⟩)
                    · skip
                      have pqk := qkB_iff v
                      rw [hqk] at pqk
                      have qk : ∀ wz : World, (Op.equalIn 10000 23 (.agg #[.int .i64 v.id, .int .i64 v.te, .int .i64 v.de, .int .i64 v.fe, .int .i64 v.pr, .int .i64 v.ch, .int .i64 v.un]) (.agg #[.int .i64 v.id, .int .i64 0, .int .i64 0, .int .i64 0, .int .i64 0, .int .i64 0, .int .i64 0])).run Try.prog wz = .ok false wz := fun wz => (Hqk.out wz).trans (congrArg (fun b => Result.ok b wz) hqk)
                      clear Hqk
                      have Pqk : Hid (¬ (v.id = v.id ∧ v.te = 0 ∧ v.de = 0 ∧ v.fe = 0 ∧ v.pr = 0 ∧ v.ch = 0 ∧ v.un = 0)) := fun hq => absurd (pqk.2 hq) (by decide)
                      clear hqk pqk
                      have HV : Hid (Says false v) := by
                        show (false = true) ↔ _
                        have zk1 := Pk1.out
                        have zk5 := Pk5.out
                        have zqd := Pqd.out
                        have zk4 := Pk4.out
                        have zm := Pm.out
                        have zqk := Pqk.out
                        simp only [Bool.false_eq_true, false_iff]
                        unfold EMay
                        first | omega | (constructor <;> intro hh <;> first | omega | (exfalso; omega) | cases hh)
                      go_wp2_with fail
                      all_goals first
                        | (rename_i q1 q2; exact absurd q1 (by simp [undef]))
                        | (go_ret; exact ⟨_, rfl, HV.out, HB1.out⟩)
                  · have n0 : (v.mo == 0) = false := by simpa using hmz
                    have HV : Hid (Says false v) := by
                      show (false = true) ↔ _
                      have zk1 := Pk1.out
                      have zk5 := Pk5.out
                      have zqd := Pqd.out
                      have zk4 := Pk4.out
                      simp only [Bool.false_eq_true, false_iff]
                      unfold EMay
                      first | omega | (constructor <;> intro hh <;> first | omega | (exfalso; omega) | cases hh)
                    go_wp2_with fail
                    all_goals first
                      | (rename_i q1 q2; exact absurd q1 (by simp [undef]))
                      | (go_ret; exact ⟨_, rfl, HV.out, HB1.out⟩)
                · have n4 : (v.kd == 4) = false := by simpa using hk4
                  have Pk4 : Hid (v.kd ≠ 4) := hk4
                  clear hk4
                  by_cases hmo : 0 ≤ v.mo ∧ v.mo ≤ 2399
                  · skip
                    rw [decide_eq_true hmo] at HImo
                    go_wp2_with fail
                    refine (HImo.out _).mono ?_
                    rintro e wz ⟨rfl, hwz⟩
                    subst wz
                    clear HImo
                    by_cases hun : 1 ≤ v.un ∧ v.un ≤ 2097151
                    · skip
                      rw [decide_eq_true hun] at HIun
                      go_wp2_with fail
                      refine (HIun.out _).mono ?_
                      rintro e wz ⟨rfl, hwz⟩
                      subst wz
                      clear HIun
                      by_cases hk3 : v.kd = 3
                      · have n3 : (v.kd == 3) = true := by simpa using hk3
                        have Pk3 : Hid (v.kd = 3) := hk3
                        clear hk3
                        rcases Bool.eq_false_or_eq_true (qgB v) with hqg | hqg
                        · skip
                          have pqg := qgB_iff v
                          rw [hqg] at pqg
                          have qg : ∀ wz : World, (Op.equalIn 10000 23 (.agg #[.int .i64 v.id, .int .i64 v.te, .int .i64 v.de, .int .i64 v.fe, .int .i64 v.pr, .int .i64 v.ch, .int .i64 v.un]) (.agg #[.int .i64 v.id, .int .i64 0, .int .i64 0, .int .i64 0, .int .i64 0, .int .i64 0, .int .i64 v.un])).run Try.prog wz = .ok true wz := fun wz => (Hqg.out wz).trans (congrArg (fun b => Result.ok b wz) hqg)
                          clear Hqg
                          have Pqg : Hid ((v.id = v.id ∧ v.te = 0 ∧ v.de = 0 ∧ v.fe = 0 ∧ v.pr = 0 ∧ v.ch = 0 ∧ v.un = v.un)) := pqg.1 rfl
                          clear hqg pqg
                          have HV : Hid (Says true v) := by
                            show (true = true) ↔ _
                            have zk1 := Pk1.out
                            have zk5 := Pk5.out
                            have zqd := Pqd.out
                            have zk4 := Pk4.out
                            have zk3 := Pk3.out
                            have zqg := Pqg.out
                            simp only [true_iff]
                            unfold EMay
                            first | omega | (constructor <;> intro hh <;> first | omega | (exfalso; omega) | cases hh)
                          go_wp2_with fail
                          all_goals first
                            | (rename_i q1 q2; exact absurd q1 (by simp [undef]))
                            | (go_ret; exact ⟨_, rfl, HV.out, HB1.out⟩)
                        · skip
                          have pqg := qgB_iff v
                          rw [hqg] at pqg
                          have qg : ∀ wz : World, (Op.equalIn 10000 23 (.agg #[.int .i64 v.id, .int .i64 v.te, .int .i64 v.de, .int .i64 v.fe, .int .i64 v.pr, .int .i64 v.ch, .int .i64 v.un]) (.agg #[.int .i64 v.id, .int .i64 0, .int .i64 0, .int .i64 0, .int .i64 0, .int .i64 0, .int .i64 v.un])).run Try.prog wz = .ok false wz := fun wz => (Hqg.out wz).trans (congrArg (fun b => Result.ok b wz) hqg)
                          clear Hqg
                          have Pqg : Hid (¬ (v.id = v.id ∧ v.te = 0 ∧ v.de = 0 ∧ v.fe = 0 ∧ v.pr = 0 ∧ v.ch = 0 ∧ v.un = v.un)) := fun hq => absurd (pqg.2 hq) (by decide)
                          clear hqg pqg
                          have HV : Hid (Says false v) := by
                            show (false = true) ↔ _
                            have zk1 := Pk1.out
                            have zk5 := Pk5.out
                            have zqd := Pqd.out
                            have zk4 := Pk4.out
                            have zk3 := Pk3.out
                            have zqg := Pqg.out
                            simp only [Bool.false_eq_true, false_iff]
                            unfold EMay
                            first | omega | (constructor <;> intro hh <;> first | omega | (exfalso; omega) | cases hh)
                          go_wp2_with fail
                          all_goals first
                            | (rename_i q1 q2; exact absurd q1 (by simp [undef]))
                            | (go_ret; exact ⟨_, rfl, HV.out, HB1.out⟩)
                      · have n3 : (v.kd == 3) = false := by simpa using hk3
                        have Pk3 : Hid (v.kd ≠ 3) := hk3
                        clear hk3
                        by_cases hte : 1 ≤ v.te ∧ v.te ≤ 100000000
                        · skip
                          rw [decide_eq_true hte] at HIte
                          go_wp2_with fail
                          refine (HIte.out _).mono ?_
                          rintro e wz ⟨rfl, hwz⟩
                          subst wz
                          clear HIte
                          by_cases hde : 0 ≤ v.de ∧ v.de ≤ v.te
                          · skip
                            rw [decide_eq_true hde] at HIde
                            go_wp2_with fail
                            refine (HIde.out _).mono ?_
                            rintro e wz ⟨rfl, hwz⟩
                            subst wz
                            clear HIde
                            by_cases hfe : 0 ≤ v.fe ∧ v.fe ≤ v.te
                            · skip
                              rw [decide_eq_true hfe] at HIfe
                              go_wp2_with fail
                              refine (HIfe.out _).mono ?_
                              rintro e wz ⟨rfl, hwz⟩
                              subst wz
                              clear HIfe
                              by_cases hpr : 0 ≤ v.pr ∧ v.pr ≤ v.te
                              · skip
                                rw [decide_eq_true hpr] at HIpr
                                go_wp2_with fail
                                refine (HIpr.out _).mono ?_
                                rintro e wz ⟨rfl, hwz⟩
                                subst wz
                                clear HIpr
                                by_cases hch : 0 ≤ v.ch ∧ v.ch ≤ v.te
                                · skip
                                  rw [decide_eq_true hch] at HIch
                                  go_wp2_with fail
                                  refine (HIch.out _).mono ?_
                                  rintro e wz ⟨rfl, hwz⟩
                                  subst wz
                                  clear HIch
                                  by_cases hsm : v.de + v.fe + v.pr + v.ch = v.te
                                  · have n9 : (v.de + v.fe + v.pr + v.ch == v.te) = true := by simpa using hsm
                                    have HV : Hid (Says true v) := by
                                      show (true = true) ↔ _
                                      have zk1 := Pk1.out
                                      have zk5 := Pk5.out
                                      have zqd := Pqd.out
                                      have zk4 := Pk4.out
                                      have zk3 := Pk3.out
                                      simp only [true_iff]
                                      unfold EMay
                                      first | omega | (constructor <;> intro hh <;> first | omega | (exfalso; omega) | cases hh)
                                    clear hsm
                                    go_wp2_with fail
                                    all_goals first
                                      | (rename_i q1 q2; exact absurd q1 (by simp [undef]))
                                      | (go_ret; exact ⟨_, rfl, HV.out, HB1.out⟩)
                                  · have n9 : (v.de + v.fe + v.pr + v.ch == v.te) = false := by simpa using hsm
                                    have HV : Hid (Says false v) := by
                                      show (false = true) ↔ _
                                      have zk1 := Pk1.out
                                      have zk5 := Pk5.out
                                      have zqd := Pqd.out
                                      have zk4 := Pk4.out
                                      have zk3 := Pk3.out
                                      simp only [Bool.false_eq_true, false_iff]
                                      unfold EMay
                                      first | omega | (constructor <;> intro hh <;> first | omega | (exfalso; omega) | cases hh)
                                    clear hsm
                                    go_wp2_with fail
                                    all_goals first
                                      | (rename_i q1 q2; exact absurd q1 (by simp [undef]))
                                      | (go_ret; exact ⟨_, rfl, HV.out, HB1.out⟩)
                                · skip
                                  have HV : Hid (Says false v) := by
                                    show (false = true) ↔ _
                                    have zk1 := Pk1.out
                                    have zk5 := Pk5.out
                                    have zqd := Pqd.out
                                    have zk4 := Pk4.out
                                    have zk3 := Pk3.out
                                    simp only [Bool.false_eq_true, false_iff]
                                    unfold EMay
                                    first | omega | (constructor <;> intro hh <;> first | omega | (exfalso; omega) | cases hh)
                                  rw [decide_eq_false hch] at HIch
                                  go_wp2_with fail
                                  refine (HIch.out _).mono ?_
                                  rintro e wz ⟨rfl, hwz⟩
                                  subst wz
                                  clear HIch
                                  go_wp2_with fail
                                  all_goals first
                                    | (rename_i q1 q2; exact absurd q1 (by simp [undef]))
                                    | (go_ret; exact ⟨_, rfl, HV.out, HB1.out⟩)
                              · skip
                                have HV : Hid (Says false v) := by
                                  show (false = true) ↔ _
                                  have zk1 := Pk1.out
                                  have zk5 := Pk5.out
                                  have zqd := Pqd.out
                                  have zk4 := Pk4.out
                                  have zk3 := Pk3.out
                                  simp only [Bool.false_eq_true, false_iff]
                                  unfold EMay
                                  first | omega | (constructor <;> intro hh <;> first | omega | (exfalso; omega) | cases hh)
                                rw [decide_eq_false hpr] at HIpr
                                go_wp2_with fail
                                refine (HIpr.out _).mono ?_
                                rintro e wz ⟨rfl, hwz⟩
                                subst wz
                                clear HIpr
                                go_wp2_with fail
                                all_goals first
                                  | (rename_i q1 q2; exact absurd q1 (by simp [undef]))
                                  | (go_ret; exact ⟨_, rfl, HV.out, HB1.out⟩)
                            · skip
                              have HV : Hid (Says false v) := by
                                show (false = true) ↔ _
                                have zk1 := Pk1.out
                                have zk5 := Pk5.out
                                have zqd := Pqd.out
                                have zk4 := Pk4.out
                                have zk3 := Pk3.out
                                simp only [Bool.false_eq_true, false_iff]
                                unfold EMay
                                first | omega | (constructor <;> intro hh <;> first | omega | (exfalso; omega) | cases hh)
                              rw [decide_eq_false hfe] at HIfe
                              go_wp2_with fail
                              refine (HIfe.out _).mono ?_
                              rintro e wz ⟨rfl, hwz⟩
                              subst wz
                              clear HIfe
                              go_wp2_with fail
                              all_goals first
                                | (rename_i q1 q2; exact absurd q1 (by simp [undef]))
                                | (go_ret; exact ⟨_, rfl, HV.out, HB1.out⟩)
                          · skip
                            have HV : Hid (Says false v) := by
                              show (false = true) ↔ _
                              have zk1 := Pk1.out
                              have zk5 := Pk5.out
                              have zqd := Pqd.out
                              have zk4 := Pk4.out
                              have zk3 := Pk3.out
                              simp only [Bool.false_eq_true, false_iff]
                              unfold EMay
                              first | omega | (constructor <;> intro hh <;> first | omega | (exfalso; omega) | cases hh)
                            rw [decide_eq_false hde] at HIde
                            go_wp2_with fail
                            refine (HIde.out _).mono ?_
                            rintro e wz ⟨rfl, hwz⟩
                            subst wz
                            clear HIde
                            go_wp2_with fail
                            all_goals first
                              | (rename_i q1 q2; exact absurd q1 (by simp [undef]))
                              | (go_ret; exact ⟨_, rfl, HV.out, HB1.out⟩)
                        · skip
                          have HV : Hid (Says false v) := by
                            show (false = true) ↔ _
                            have zk1 := Pk1.out
                            have zk5 := Pk5.out
                            have zqd := Pqd.out
                            have zk4 := Pk4.out
                            have zk3 := Pk3.out
                            simp only [Bool.false_eq_true, false_iff]
                            unfold EMay
                            first | omega | (constructor <;> intro hh <;> first | omega | (exfalso; omega) | cases hh)
                          rw [decide_eq_false hte] at HIte
                          go_wp2_with fail
                          refine (HIte.out _).mono ?_
                          rintro e wz ⟨rfl, hwz⟩
                          subst wz
                          clear HIte
                          go_wp2_with fail
                          all_goals first
                            | (rename_i q1 q2; exact absurd q1 (by simp [undef]))
                            | (go_ret; exact ⟨_, rfl, HV.out, HB1.out⟩)
                    · skip
                      have HV : Hid (Says false v) := by
                        show (false = true) ↔ _
                        have zk1 := Pk1.out
                        have zk5 := Pk5.out
                        have zqd := Pqd.out
                        have zk4 := Pk4.out
                        simp only [Bool.false_eq_true, false_iff]
                        unfold EMay
                        first | omega | (constructor <;> intro hh <;> first | omega | (exfalso; omega) | cases hh)
                      rw [decide_eq_false hun] at HIun
                      go_wp2_with fail
                      refine (HIun.out _).mono ?_
                      rintro e wz ⟨rfl, hwz⟩
                      subst wz
                      clear HIun
                      go_wp2_with fail
                      all_goals first
                        | (rename_i q1 q2; exact absurd q1 (by simp [undef]))
                        | (go_ret; exact ⟨_, rfl, HV.out, HB1.out⟩)
                  · skip
                    have HV : Hid (Says false v) := by
                      show (false = true) ↔ _
                      have zk1 := Pk1.out
                      have zk5 := Pk5.out
                      have zqd := Pqd.out
                      have zk4 := Pk4.out
                      simp only [Bool.false_eq_true, false_iff]
                      unfold EMay
                      first | omega | (constructor <;> intro hh <;> first | omega | (exfalso; omega) | cases hh)
                    rw [decide_eq_false hmo] at HImo
                    go_wp2_with fail
                    refine (HImo.out _).mono ?_
                    rintro e wz ⟨rfl, hwz⟩
                    subst wz
                    clear HImo
                    go_wp2_with fail
                    all_goals first
                      | (rename_i q1 q2; exact absurd q1 (by simp [undef]))
                      | (go_ret; exact ⟨_, rfl, HV.out, HB1.out⟩)
              · skip
                have pqd := qdB_iff v
                rw [hqd] at pqd
                have qd : ∀ wz : World, (Op.equalIn 10000 25 (.agg #[.int .i64 v.ow, .int .i64 v.bp]) (.agg #[.int .i64 0, .int .i64 0])).run Try.prog wz = .ok false wz := fun wz => (Hqd.out wz).trans (congrArg (fun b => Result.ok b wz) hqd)
                clear Hqd
                have Pqd : Hid (¬ (v.ow = 0 ∧ v.bp = 0)) := fun hq => absurd (pqd.2 hq) (by decide)
                clear hqd pqd
                have HV : Hid (Says false v) := by
                  show (false = true) ↔ _
                  have zk1 := Pk1.out
                  have zk5 := Pk5.out
                  have zqd := Pqd.out
                  simp only [Bool.false_eq_true, false_iff]
                  unfold EMay
                  first | omega | (constructor <;> intro hh <;> first | omega | (exfalso; omega) | cases hh)
                go_wp2_with fail
                all_goals first
                  | (rename_i q1 q2; exact absurd q1 (by simp [undef]))
                  | (go_ret; exact ⟨_, rfl, HV.out, HB1.out⟩)
            · skip
              have HV : Hid (Says false v) := by
                show (false = true) ↔ _
                have zk1 := Pk1.out
                have zk5 := Pk5.out
                simp only [Bool.false_eq_true, false_iff]
                unfold EMay
                first | omega | (constructor <;> intro hh <;> first | omega | (exfalso; omega) | cases hh)
              rw [decide_eq_false htg] at HItg
              go_wp2_with fail
              refine (HItg.out _).mono ?_
              rintro e wz ⟨rfl, hwz⟩
              subst wz
              clear HItg
              go_wp2_with fail
              all_goals first
                | (rename_i q1 q2; exact absurd q1 (by simp [undef]))
                | (go_ret; exact ⟨_, rfl, HV.out, HB1.out⟩)
          · skip
            have HV : Hid (Says false v) := by
              show (false = true) ↔ _
              have zk1 := Pk1.out
              have zk5 := Pk5.out
              simp only [Bool.false_eq_true, false_iff]
              unfold EMay
              first | omega | (constructor <;> intro hh <;> first | omega | (exfalso; omega) | cases hh)
            rw [decide_eq_false hid] at HIid
            go_wp2_with fail
            refine (HIid.out _).mono ?_
            rintro e wz ⟨rfl, hwz⟩
            subst wz
            clear HIid
            go_wp2_with fail
            all_goals first
              | (rename_i q1 q2; exact absurd q1 (by simp [undef]))
              | (go_ret; exact ⟨_, rfl, HV.out, HB1.out⟩)
        · skip
          have HV : Hid (Says false v) := by
            show (false = true) ↔ _
            have zk1 := Pk1.out
            have zk5 := Pk5.out
            simp only [Bool.false_eq_true, false_iff]
            unfold EMay
            first | omega | (constructor <;> intro hh <;> first | omega | (exfalso; omega) | cases hh)
          rw [decide_eq_false hkd] at HIkd
          go_wp2_with fail
          refine (HIkd.out _).mono ?_
          rintro e wz ⟨rfl, hwz⟩
          subst wz
          clear HIkd
          go_wp2_with fail
          all_goals first
            | (rename_i q1 q2; exact absurd q1 (by simp [undef]))
            | (go_ret; exact ⟨_, rfl, HV.out, HB1.out⟩)
  · skip
    have HV : Hid (Says false v) := by
      show (false = true) ↔ _
      simp only [Bool.false_eq_true, false_iff]
      unfold EMay
      first | omega | (constructor <;> intro hh <;> first | omega | (exfalso; omega) | cases hh)
    rw [decide_eq_false hme] at HIme
    go_wp2_with fail
    refine (HIme.out _).mono ?_
    rintro e wz ⟨rfl, hwz⟩
    subst wz
    clear HIme
    go_wp2_with fail
    all_goals first
      | (rename_i q1 q2; exact absurd q1 (by simp [undef]))
      | (go_ret; exact ⟨_, rfl, HV.out, HB1.out⟩)

end Go.Proofs.Ytfhlokjpdkmdjaa.book

/- The first customer with a meter, as the document has it. -/
namespace Go.Proofs.Ytfhlokjpdkmdjaa.book
open Go.RowKit
set_option maxRecDepth 100000
set_option linter.unusedVariables false
set_option linter.unusedSimpArgs false

set_option maxHeartbeats 2000000 in
theorem rfound (p : Option Addr) (n cap : Nat) (l : List Cu) (me : Int) (w : World) (h : RowC w p n l) (hn : n ≤ 9223372036854775807) : Calls Try.prog 22 #[.agg #[.slice p n cap], .int .i64 me] w fun e w' => ∃ x, e = .returned (.int .i64 x) ∧ FoundIs l me x ∧ Below w.heap.size w w' := by
  have HX : Hid (Blk (w.alloc (.cells #[.slice p n cap] 45)) w.heap.size #[.slice p n cap] 45) := Blk.new w _ _
  have HB : Hid (Below w.heap.size w (w.alloc (.cells #[.slice p n cap] 45))) := (Below.refl _ _).alloc (Nat.le_refl _) _
  have HR : Hid (RowC (w.alloc (.cells #[.slice p n cap] 45)) p n l) := h.below ((Below.refl _ _).alloc (Nat.le_refl _) _)
  have HL : Hid (l.length = n) := h.1
  clear h
  go_enter Try.func22, Try.ntmps22
  go_upto_region 1 with fail
  generalize (w.alloc (.cells #[.slice p n cap] 45)) = W at *
  have k0 : W.cell? ⟨w.heap.size, 0, none⟩ = some (.slice p n cap) := HX.out.cell 0
  go_wp2_with fail
  go_loopw [5] (fun i wr => ∃ k : Nat, k ≤ n ∧ i = .int .i64 (k : Int) ∧ (∀ j, j < k → (l.getD j cu0).me ≠ me) ∧ wr = W) (fun i _ => n - (intOf i).toNat)
  case atStart => exact ⟨0, Nat.zero_le _, rfl, fun j hj => absurd hj (Nat.not_lt_zero _), rfl⟩
  case round =>
    obtain ⟨k, hk, rfl, hf, hwr⟩ := hrel
    subst hwr
    have HF : Hid (∀ j, j < k → (l.getD j cu0).me ≠ me) := hf
    clear hf
    by_cases hlt : k < n
    · obtain ⟨b, off, rfl, lb, hc⟩ := HR.out.2.resolve_left (by omega)
      have c0 : wr.cell? ⟨b, off + k * 8, none⟩ = some (.int .i64 (l.getD k cu0).me) := hc k 0 hlt (by decide)
      have HK : Hid ((l.getD k cu0).me = (l.getD k cu0).me) := rfl
      have hdl : decide ((k : Int) < (n : Int)) = true := by simp; omega
      by_cases he : (l.getD k cu0).me = me
      · have n1 : ((l.getD k cu0).me == me) = true := by simpa using he
        have HI : Hid (FoundIs l me (k : Int)) := .inl ⟨k, by rw [HL.out]; exact hlt, he, HF.out, rfl⟩
        clear hc HF HK he
        generalize (l.getD k cu0).me = z at *
        go_wp2_with fail
        go_ret
        exact ⟨_, rfl, HI.out, HB.out⟩
      · have n1 : ((l.getD k cu0).me == me) = false := by simpa using he
        have HF2 : Hid (∀ j, j < k + 1 → (l.getD j cu0).me ≠ me) := fun j hj => by
          by_cases e : j = k
          · subst e; exact he
          · exact HF.out j (by omega)
        clear hc HF HK he
        generalize (l.getD k cu0).me = z at *
        go_wp2_with fail
        go_roundw
        case rel => exact ⟨k + 1, by omega, by go_num, HF2.out, by first | rfl | trivial⟩
        case measure => simp [intOf]; omega
    · obtain rfl : k = n := by omega
      have hdl : decide ((k : Int) < (k : Int)) = false := by simp
      have HI : Hid (FoundIs l me (-1)) := .inr ⟨fun j hj => HF.out j (by rw [HL.out] at hj; exact hj), rfl⟩
      clear HF
      go_wp2_with fail
      go_ret
      exact ⟨_, rfl, HI.out, HB.out⟩

end Go.Proofs.Ytfhlokjpdkmdjaa.book

/- Books as they grow: what stays small. -/
namespace Go.Proofs.Ytfhlokjpdkmdjaa.book
open Go.RowKit
open Go.Proofs.Ytfhlokjpdkmdjaa.acc (Ac Tm Bi APost BPost OweIs SellIs GrantIs RekeyIs)
set_option maxRecDepth 100000
set_option linter.unusedVariables false
set_option linter.unusedSimpArgs false

/-- So much at most, behind k events. -/
def Small (bk : List Cm) (k : Nat) : Prop := bk.length ≤ k ∧ ∀ c ∈ bk, c.so.length ≤ k ∧ 0 ≤ c.a.rv ∧ c.a.rv ≤ 15
theorem Small.zero : Small [] 0 := ⟨Nat.le_refl _, fun c hc => by cases hc⟩
theorem owe_rv {a b : Ac} {d : tar.Du} (h : OweIs a d b 0) (hr : 0 ≤ a.rv ∧ a.rv ≤ 15) : 0 ≤ b.rv ∧ b.rv ≤ 15 := by
  rcases h with ⟨_, _, e⟩ | ⟨_, _, _, e⟩ | ⟨_, _, _, _, e⟩ | ⟨_, _, _, rfl, _⟩
  · cases e
  · cases e
  · cases e
  · exact hr
theorem tells_rv {t : Tm} {c : Cm} {v : Ev} {b : Ac} {l : Bi} (h : Tells t c v b l 0) (hr : 0 ≤ c.a.rv ∧ c.a.rv ≤ 15) : 0 ≤ b.rv ∧ b.rv ≤ 15 := by
  rcases h with ⟨_, h⟩ | ⟨_, h⟩ | ⟨_, h⟩
  · rcases h with ⟨p, rfl, _⟩ | ⟨_, _, e, _⟩ | ⟨_, _, _, e, _⟩ | ⟨_, _, _, _, u, _, rfl, _⟩
    · exact ⟨Int.le_refl _, by show (0 : Int) ≤ 15; decide⟩
    · cases e
    · cases e
    · exact hr
  · rcases h with ⟨p, rfl, _⟩ | ⟨_, _, e, _⟩ | ⟨_, _, _, e, _⟩ | ⟨_, _, _, _, e, _⟩ | ⟨_, _, _, _, _, rfl, _⟩
    · exact ⟨Int.le_refl _, by show (0 : Int) ≤ 15; decide⟩
    · cases e
    · cases e
    · cases e
    · exact hr
  · rcases h with ⟨_, _, _, e⟩ | ⟨_, _, _, _, e⟩ | ⟨_, _, _, _, _, e⟩ | ⟨_, q, _, rfl, _, _⟩
    · cases e
    · cases e
    · cases e
    · exact ⟨by show 0 ≤ c.a.rv + 1; omega, by show c.a.rv + 1 ≤ 15; omega⟩
theorem hap_small {t : Tm} {c c' : Cm} {v : Ev} {k : Nat} (h : HapIs t c v c' 0) (hs : c.so.length ≤ k ∧ 0 ≤ c.a.rv ∧ c.a.rv ≤ 15) : c'.so.length ≤ k + 1 ∧ 0 ≤ c'.a.rv ∧ c'.a.rv ≤ 15 := by
  rcases h with ⟨_, b, q, r⟩ | ⟨_, b, l, e, q, r⟩
  · rw [r rfl]
    exact ⟨by show c.so.length ≤ k + 1; omega, owe_rv q hs.2⟩
  · rcases r with ⟨x, y⟩ | ⟨_, _, y⟩ | ⟨x, _, _, rfl⟩
    · exact absurd y.symm x
    · cases y
    · subst x
      refine ⟨?_, tells_rv q hs.2⟩
      show (c.so ++ [_]).length ≤ k + 1
      rw [List.length_append]; exact Nat.succ_le_succ hs.1
theorem step_small {t : Tm} {bk bk' : List Cm} {v : Ev} {k : Nat} (h : StepIs t bk v bk' 0) (hs : Small bk k) : Small bk' (k + 1) := by
  rcases h with ⟨_, e⟩ | ⟨_, _, _, e⟩ | ⟨_, _, _, _, rfl⟩ | ⟨_, _, _, e⟩ | ⟨_, _, j, c', hj, hh, he⟩
  · cases e
  · cases e
  · refine ⟨by rw [List.length_append]; exact Nat.succ_le_succ hs.1, fun c hc => ?_⟩
    rcases List.mem_append.1 hc with h | h
    · have := hs.2 c h; omega
    · rw [List.mem_singleton.1 h]; exact ⟨Nat.zero_le _, Int.le_refl _, by show (0 : Int) ≤ 15; decide⟩
  · cases e
  · rw [he rfl]
    have hm : bk.getD j cm0 ∈ bk := by
      have : bk.getD j cm0 = bk[j]'hj.1 := by simp [List.getD, List.getElem?_eq_getElem hj.1]
      rw [this]; exact List.getElem_mem _
    refine ⟨by rw [List.length_set]; have := hs.1; omega, fun c hc => ?_⟩
    rcases List.mem_or_eq_of_mem_set hc with h | rfl
    · have := hs.2 c h; omega
    · exact hap_small hh (hs.2 _ hm)

end Go.Proofs.Ytfhlokjpdkmdjaa.book

/- Rows of events; a customer stored anew; one more, in plain order. -/
namespace Go.Proofs.Ytfhlokjpdkmdjaa.book
open Go.RowKit
open Go.Proofs.Ytfhlokjpdkmdjaa.acc (Ac Tm Bi APost BPost TFault TRight OpenIs)
set_option maxRecDepth 100000
set_option linter.unusedVariables false
set_option linter.unusedSimpArgs false

def Ev.cl (x : Ev) : List Value := [.int .i64 x.kd, .int .i64 x.me, .int .i64 x.mo, .int .i64 x.id, .int .i64 x.te, .int .i64 x.de, .int .i64 x.fe, .int .i64 x.pr, .int .i64 x.ch, .int .i64 x.un, .int .i64 x.tg, .int .i64 x.ow, .int .i64 x.bp]
/-- This slice of events reads so. -/
def RowE (w : World) (a : Option Addr) (n : Nat) (l : List Ev) : Prop := l.length = n ∧ (n = 0 ∨ ∃ b off, a = some ⟨b, off, none⟩ ∧ b < w.heap.size ∧ ∀ i j, i < n → j < 13 → w.cell? ⟨b, off + i * 13 + j, none⟩ = (l.getD i ev0).cl[j]?)
theorem RowE.below {w w' : World} {a : Option Addr} {n : Nat} {l : List Ev} (h : RowE w a n l) (hb : Below w.heap.size w w') : RowE w' a n l := by
  refine ⟨h.1, ?_⟩
  rcases h.2 with h0 | ⟨b, off, rfl, lb, hc⟩
  · exact .inl h0
  · exact .inr ⟨b, off, rfl, Nat.lt_of_lt_of_le lb hb.size, fun i j hi hj => (hb.cell (p := ⟨b, off + i * 13 + j, none⟩) lb).trans (hc i j hi hj)⟩
theorem RowE.low {w w' : World} {a : Option Addr} {n : Nat} {l : List Ev} {B : Nat} (h : RowE w a n l) (hB : B = w.heap.size) (hb : Below B w w') : RowE w' a n l := h.below (hB ▸ hb)
theorem putAll_get (vs : List Value) : ∀ (o : Nat) (cs : Array Value) (j : Nat), o + vs.length ≤ cs.size → (putAll cs o vs)[j]? = if o ≤ j ∧ j < o + vs.length then vs[j - o]? else cs[j]? := by
  induction vs with
  | nil => intro o cs j _; rw [if_neg (by simp only [List.length_nil]; omega)]; rfl
  | cons v r ih =>
    intro o cs j h
    simp only [List.length_cons] at h
    rw [putAll, ih (o + 1) _ j (by simp; omega)]
    by_cases h1 : o + 1 ≤ j ∧ j < o + 1 + r.length
    · rw [if_pos h1, if_pos (by simp; omega), show j - o = (j - (o + 1)) + 1 by omega, List.getElem?_cons_succ]
    · rw [if_neg h1]
      by_cases h2 : j = o
      · subst h2
        rw [if_pos (by simp only [List.length_cons]; omega), Nat.sub_self]
        simp [show j < cs.size by omega]
      · rw [if_neg (by simp; omega), Array.getElem?_setIfInBounds_ne (by omega)]
theorem putAll_size (vs : List Value) : ∀ (o : Nat) (cs : Array Value), (putAll cs o vs).size = cs.size := by
  induction vs with
  | nil => intro o cs; rfl
  | cons v r ih => intro o cs; rw [putAll, ih]; simp
theorem cellsC_get (xs : List Cu) (j : Nat) : (cellsC xs)[j]? = if j < xs.length * 8 then (xs.getD (j / 8) cu0).cs[j % 8]? else none := by
  by_cases h : j < xs.length * 8
  · rw [if_pos h]
    have := cellsC_at xs (j / 8) (j % 8) (by omega) (by omega)
    rw [show j / 8 * 8 + j % 8 = j by omega] at this
    exact this
  · rw [if_neg h, List.getElem?_eq_none (by rw [cellsC_len]; omega)]
/-- A customer is stored anew. -/
theorem lc_put {w W : World} {base g n cap k : Nat} {xs : List Cu} {x' : Cu} {cur : Array Value} (h : Lc w base (.slice (some ⟨g, 0, none⟩) n cap) xs) (hB : Blk w g cur 58) (hk : k < xs.length) (hU : Upd w W g (putAll cur (k * 8) x'.cs) 58) : Lc W base (.slice (some ⟨g, 0, none⟩) n cap) (xs.set k x') := by
  unfold Lc at *
  rw [List.length_set]
  refine ⟨by rw [cellsC_len, List.length_set], ?_⟩
  rcases h.2 with ⟨h', _⟩ | ⟨g', cap', cur', hv, hg, hc, hn, hm, hz, ht⟩
  · cases h'
  · simp only [Value.slice.injEq, Option.some.injEq, Addr.mk.injEq, and_true] at hv
    obtain ⟨rfl, rfl, rfl⟩ := hv
    have e : cur' = cur := by
      have h1 : w.heap[g]? = some (.cells cur 58 (0, 0)) := hB
      rw [h1] at hc
      injection hc with hc
      injection hc with hc
      exact hc.symm
    subst e
    refine .inr ⟨g, cap, _, rfl, hg, hU.blk, hn, hm, by rw [putAll_size]; exact hz, ?_⟩
    apply List.ext_getElem?
    intro j
    have h8 : x'.cs.length = 8 := rfl
    rw [cellsC_get, List.length_set, getD_put xs x' cu0 k (j / 8) hk]
    by_cases hj : j < xs.length * 8
    · rw [if_pos hj, List.getElem?_take_of_lt hj, Array.getElem?_toList, putAll_get _ _ _ _ (by rw [hz, h8]; omega), h8]
      by_cases h1 : k * 8 ≤ j ∧ j < k * 8 + 8
      · rw [if_pos h1, if_pos (by omega), show j - k * 8 = j % 8 by omega]
      · rw [if_neg h1, if_neg (by omega)]
        have h2 : cur'.toList[j]? = (cellsC xs)[j]? := by rw [← ht, List.getElem?_take_of_lt hj]
        rw [Array.getElem?_toList] at h2
        rw [h2, cellsC_get, if_pos hj]
    · rw [if_neg hj, List.getElem?_eq_none (by rw [List.length_take]; omega)]
/-- One customer is put behind the others. -/
theorem wp_cust {w : World} {ops : Array Oper} {rest : List Oper} {o : Oper} {a : Act} {Q : Exit → Act → World → Prop} (hgd : o.guard = none) (s x : Operand)
    (ho : o.op = .call { callee := .builtin .append, args := #[s, x], argTypes := #[43, 43] })
    (base G : Nat) (v : Value) (l : List Cu) (r : Cu) (hs : a.eval s = v) (hx : a.eval x = .slice (some ⟨G, 0, none⟩) 1 1) (hv : Lc w base v l) (hu : Blk w G r.cs.toArray 58) (hn : l.length ≤ 2000000) (hbase : base ≤ w.heap.size)
    (h : ∀ v' w', Lc w' base v' (l ++ [r]) → w.grownBy w' v.ownBlock → (v'.ownBlock = v.ownBlock ∨ v'.ownBlock = some w.heap.size) → wpList Try.prog ops Q rest (a.put o.dst v') w') : wpList Try.prog ops Q (o :: rest) a w :=
  wpList_plain hgd fun K hK => step_cust s x ho base G v l r hs hx hv hu hn hbase (fun v' w' h1 h2 h3 => hK _ _ (h v' w' h1 h2 h3))
theorem lc_lies {w : World} {base n cap : Nat} {a : Option Addr} {xs : List Cu} (h : Lc w base (.slice a n cap) xs) (hn : 0 < n) : ∃ g cur, a = some ⟨g, 0, none⟩ ∧ base ≤ g ∧ Blk w g cur 58 ∧ n * 8 ≤ cur.size ∧ ∀ i j, i < xs.length → j < 8 → cur[i * 8 + j]? = (xs.getD i cu0).cs[j]? := by
  rcases h.2 with ⟨h', h0⟩ | ⟨g, cap', cur, hv, hg, hc, hle, hm, hz, ht⟩
  · simp only [Value.slice.injEq] at h'; omega
  · simp only [Value.slice.injEq] at hv
    obtain ⟨rfl, rfl, rfl⟩ := hv
    refine ⟨g, cur, rfl, hg, hc, by omega, fun i j hi hj => ?_⟩
    have h1 : cur.toList[i * 8 + j]? = (cellsC xs)[i * 8 + j]? := by rw [← ht, List.getElem?_take_of_lt (by omega)]
    rw [Array.getElem?_toList] at h1
    rw [h1]; exact cellsC_at xs i j hi hj
theorem cuA_of {x : Cu} {a : Ac} (h : Nums x a) : ∃ dp dn dc sp sn sc, x = ⟨a.me, a.rv, a.nx, a.mo, a.bo, a.fr, dp, dn, dc, sp, sn, sc⟩ := by
  cases x
  obtain ⟨h1, h2, h3, h4, h5, h6⟩ := h
  simp only at h1 h2 h3 h4 h5 h6
  subst h1 h2 h3 h4 h5 h6
  exact ⟨_, _, _, _, _, _, rfl⟩
theorem first_of {xs : List Cu} {bk : List Cm} {me at_ : Int} (hl : xs.length = bk.length) (hn : ∀ i, i < xs.length → Nums (xs.getD i cu0) (bk.getD i cm0).a) (h : FoundIs xs me at_) : (∃ k, FirstAt bk me k ∧ at_ = (k : Int)) ∨ (NoneAt bk me ∧ at_ = -1) := by
  rcases h with ⟨k, hk, e, hb, rfl⟩ | ⟨hb, rfl⟩
  · exact .inl ⟨k, ⟨by rw [← hl]; exact hk, by rw [← (hn k hk).1]; exact e, fun j hj => by rw [← (hn j (by omega)).1]; exact hb j hj⟩, rfl⟩
  · exact .inr ⟨fun j hj => by rw [← (hn j (by rw [hl]; exact hj)).1]; exact hb j (by rw [hl]; exact hj), rfl⟩

end Go.Proofs.Ytfhlokjpdkmdjaa.book

/- Where it stands while the events are gone through. -/
namespace Go.Proofs.Ytfhlokjpdkmdjaa.book
open Go.RowKit
open Go.Proofs.Ytfhlokjpdkmdjaa.acc (Ac Tm Bi APost BPost TFault TRight OpenIs)
set_option maxRecDepth 100000
set_option linter.unusedVariables false
set_option linter.unusedSimpArgs false

theorem lc_upd2 {w W : World} {base g : Nat} {cs : Array Value} {t : TypeId} {v : Value} {l : List Cu} (h : Lc w base v l) (hU : Upd w W g cs t) (hg : g < base) : Lc W base v l := by
  refine ⟨h.1, ?_⟩
  rcases h.2 with hn | ⟨g', cap, cur, hv, hb, hc, rest⟩
  · exact .inl hn
  · exact .inr ⟨g', cap, cur, hv, hb, by rw [hU.oth g' (by omega)]; exact hc, rest⟩
/-- Something older is stored. -/
theorem Holds.upd {w W : World} {base g : Nat} {cs : Array Value} {t : TypeId} {V : Value} {xs : List Cu} {bk : List Cm} (h : Holds w base V xs bk) (hU : Upd w W g cs t) (hg : g < base) : Holds W base V xs bk :=
  ⟨lc_upd2 h.row hU hg, h.len, fun i hi => ⟨(h.has i hi).num, ⟨acc_upd (h.has i hi).ds.came hU (fun hn y hy q => by have := (h.has i hi).ds.new hn y hy; omega), (h.has i hi).ds.new⟩, lo_upd (h.has i hi).so hU (fun k hk q => by have := (World.ownsRow.lt (h.has i hi).so k hk).1; omega)⟩, h.off, h.self, h.apart⟩
theorem Turned.next {w w' w'' : World} {base : Nat} {x x' : Cu} {c' : Cm} (h : Turned w w' base x x' c') (hb : Below w'.heap.size w' w'') : Turned w w'' base x x' c' := ⟨h.grown.trans (grown_of hb _), h.has.next hb, h.own, h.new, h.self⟩
theorem Turned.upd {w w' w'' : World} {base g : Nat} {cs : Array Value} {ty : TypeId} {x x' : Cu} {c' : Cm} (h : Turned w w' base x x' c') (hU : Upd w' w'' g cs ty) (hg : w.heap.size ≤ g) (h1 : ∀ k, x'.sold.ownBlock = some k → k ≠ g) (h2 : 0 < x'.dn → ∀ p, x'.dp = some p → p.block ≠ g) : Turned w w'' base x x' c' := ⟨grown_upd h.grown hU hg, ⟨h.has.num, ⟨acc_upd h.has.ds.came hU h2, h.has.ds.new⟩, lo_upd h.has.so hU h1⟩, h.own, h.new, h.self⟩
theorem Turned.prev {w0 w w' : World} {base : Nat} {x x' : Cu} {c' : Cm} (h : Turned w w' base x x' c') (hb : Below w0.heap.size w0 w) : Turned w0 w' base x x' c' := ⟨(grown_of hb _).trans h.grown, h.has, fun g hg => (h.own g hg).imp id (fun q => Nat.le_trans hb.size q), fun hn p hp => Nat.le_trans hb.size (h.new hn p hp), h.self⟩
theorem Turned.lt {w w' : World} {base : Nat} {x x' : Cu} {c' : Cm} (h : Turned w w' base x x' c') : (∀ k, x'.sold.ownBlock = some k → k < w'.heap.size) ∧ (0 < x'.dn → ∀ p, x'.dp = some p → p.block < w'.heap.size) := ⟨fun k hk => (World.ownsRow.lt h.has.so k hk).2, fun hn p hp => by
  obtain ⟨b, off, e, lb, _⟩ := h.has.ds.came.row.at hn
  rw [hp] at e
  rw [Option.some.inj e]; exact lb⟩
theorem blk_kept {w w' : World} {own : Option Nat} {g : Nat} {cs : Array Value} {ty : TypeId} (h : Blk w g cs ty) (hg : w.grownBy w' own) (hne : some g ≠ own) : Blk w' g cs ty := by
  show w'.heap[g]? = _
  rw [hg.block g h.lt hne]; exact h
theorem lc_kept {w w' : World} {base : Nat} {own : Option Nat} {v : Value} {l : List Cu} (h : Lc w base v l) (hg : w.grownBy w' own) (hne : ∀ g, v.ownBlock = some g → own ≠ some g) : Lc w' base v l := by
  refine World.ownsRow.kept h hg ?_
  cases e : v.ownBlock with
  | none => exact .inl rfl
  | some g => exact .inr (fun q => hne g e q.symm)
theorem upd_grown {w W : World} {g : Nat} {cs : Array Value} {t : TypeId} (hU : Upd w W g cs t) : w.grownBy W (some g) := by
  have hb := hU.bel 0 w (Nat.zero_le _) (Below.refl _ _)
  exact ⟨hb.os, hb.tape, hb.output, by rw [hU.size]; exact Nat.le_refl _, fun k hk hne => hU.oth k (fun e => hne (by rw [e]))⟩
/-- Older memory, behind a call that turned a customer. -/
theorem bel_turned {w0 w w' : World} {B : Nat} {own : Option Nat} (h : Below B w0 w) (hg : w.grownBy w' own) (hs : B ≤ w.heap.size) (ho : ∀ k, own = some k → B ≤ k) : Below B w0 w' := h.grown hg hs ho
/-- What Of gives back. -/
def BookPost (w : World) (t : Tm) (l : List Ev) (e : Ending) (w' : World) : Prop := ∃ p m cap xs bk at_ f, e = .returned (.tuple #[.agg #[.slice p m cap], .int .i64 at_, .int .i64 f]) ∧ BookIs t l bk at_ f ∧ Sees w' p m xs bk ∧ m ≤ 120 ∧ Below w.heap.size w w'
theorem getD_mem {bk : List Cm} {j : Nat} (h : j < bk.length) : bk.getD j cm0 ∈ bk := by
  have e : bk.getD j cm0 = bk[j] := by simp [List.getD, List.getElem?_eq_getElem h]
  rw [e]; exact List.getElem_mem _
theorem sees_nil (w : World) : Sees w none 0 [] [] := ⟨⟨rfl, .inl rfl⟩, rfl, (fun i hi => by cases hi), (fun i hi => by cases hi), (fun i hi => by cases hi)⟩
/-- The book as it stands behind k events. -/
structure Mid (w : World) (t : Tm) (pt : Option Addr) (lt ct : Nat) (l : List Ev) (g8 base k : Nat) (st : Nat → List Cm) (xs : List Cu) (pa : Option Addr) (pc : Nat) (wr : World) : Prop where
  s0 : st 0 = []
  steps : ∀ i, i < k → StepIs t (st i) (l.getD i ev0) (st (i + 1)) 0
  small : Small (st k) k
  bt : Blk wr w.heap.size #[.slice pt lt ct, .int .i64 t.ff, .int .i64 t.fb, .int .i64 t.db, .int .i64 t.al] 40
  br : Blk wr (w.heap.size + 1) #[.slice none 0 0] 45
  bb : Blk wr g8 #[.slice pa xs.length pc] 45
  hold : Holds wr base (.slice pa xs.length pc) xs (st k)
  bel : Below w.heap.size w wr
  sz : base ≤ wr.heap.size
theorem Mid.next {w : World} {t : Tm} {pt : Option Addr} {lt ct : Nat} {l : List Ev} {g8 base k : Nat} {st : Nat → List Cm} {xs : List Cu} {pa : Option Addr} {pc : Nat} {wr wr' : World} (h : Mid w t pt lt ct l g8 base k st xs pa pc wr) (hb : Below wr.heap.size wr wr') : Mid w t pt lt ct l g8 base k st xs pa pc wr' := ⟨h.s0, h.steps, h.small, h.bt.next hb, h.br.next hb, h.bb.next hb, h.hold.next hb, h.bel.trans (hb.mono h.bel.size), Nat.le_trans h.sz hb.size⟩
theorem Mid.few {w : World} {t : Tm} {pt : Option Addr} {lt ct : Nat} {l : List Ev} {g8 base k : Nat} {st : Nat → List Cm} {xs : List Cu} {pa : Option Addr} {pc : Nat} {wr : World} (h : Mid w t pt lt ct l g8 base k st xs pa pc wr) : xs.length ≤ k := by rw [h.hold.len]; exact h.small.1
/-- An event that does not happen ends it. -/
theorem Mid.stop {w : World} {t : Tm} {pt : Option Addr} {lt ct : Nat} {l : List Ev} {g8 base k : Nat} {st : Nat → List Cm} {xs : List Cu} {pa : Option Addr} {pc : Nat} {wr : World} (h : Mid w t pt lt ct l g8 base k st xs pa pc wr) (hT : TRight t) (hl : l.length ≤ 120) (hk : k < l.length) {x : List Cm} {f : Int} (hs : StepIs t (st k) (l.getD k ev0) x f) (hf : f ≠ 0) : BookIs t l [] (k : Int) f := .inr (.inr ⟨hT, hl, k, st, h.s0, h.steps, .inr ⟨hk, ⟨x, hs⟩, hf, rfl, rfl⟩⟩)

end Go.Proofs.Ytfhlokjpdkmdjaa.book
