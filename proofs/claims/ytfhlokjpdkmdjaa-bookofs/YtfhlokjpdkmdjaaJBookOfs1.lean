import Derived.Test.YtfhlokjpdkmdjaaBkJ
import Derived.Test.YtfhlokjpdkmdjaaAcOw
import Derived.Test.YtfhlokjpdkmdjaaLet
import Derived.Deep.DeepCutAuto
import Derived.Test.YtfhlokjpdkmdjaaBkP
import Derived.Test.YtfhlokjpdkmdjaaAcSo
import Derived.Test.YtfhlokjpdkmdjaaBkE
import Derived.Test.YtfhlokjpdkmdjaaCallFirst
import Derived.Deep.RegionHeld
import Derived.Test.YtfhlokjpdkmdjaaAcRl
import Derived.Test.YtfhlokjpdkmdjaaAcTf

/- A charge, as the document has it. -/
namespace Go.Proofs.Ytfhlokjpdkmdjaa.book
open Go.RowKit
open Go.Proofs.Ytfhlokjpdkmdjaa.acc (Ac Tm Bi APost BPost OweIs SellIs GrantIs RekeyIs)
set_option maxRecDepth 100000
set_option linter.unusedVariables false
set_option linter.unusedSimpArgs false

theorem acc_upd {w W : World} {g : Nat} {cs : Array Value} {ty : TypeId} {a : Option Addr} {n cap : Nat} {zs : List tar.Du} (h : tar.Came w a n cap zs) (hU : Upd w W g cs ty) (hne : 0 < n → ∀ x, a = some x → x.block ≠ g) : tar.Came W a n cap zs := by
  refine ⟨⟨h.row.1, ?_⟩, h.nil, h.room, h.bytes, h.wf⟩
  rcases h.row.2 with h0 | ⟨b, off, rfl, hc⟩
  · exact .inl h0
  · refine .inr ⟨b, off, rfl, fun i hi => ?_⟩
    have h1 := hc i hi
    have hb : b ≠ g := hne (by omega) ⟨b, off, none⟩ rfl
    rw [hU.cell ⟨b, off + i * 2, none⟩ hb rfl, hU.cell ⟨b, off + i * 2 + 1, none⟩ hb rfl]
    exact h1
set_option maxHeartbeats 4000000 in
theorem rhap5 (a : Ac) (sol : List So) (dp : Option Addr) (dn dc : Nat) (sp : Option Addr) (sn sc : Nat) (t : Tm) (pt : Option Addr) (lt ct : Nat) (v : Ev) (base : Nat) (w : World) (hx : Has w base (cuA a dp dn dc sp sn sc) ⟨a, sol⟩) (ht : tar.RowD w pt lt t.ts) (htl : lt ≤ maxLen) (hbase : base ≤ w.heap.size) (hkd : v.kd = 5) :
    Calls Try.prog 38 #[.agg #[.slice pt lt ct, .int .i64 t.ff, .int .i64 t.fb, .int .i64 t.db, .int .i64 t.al], .agg #[.int .i64 a.me, .int .i64 a.rv, .int .i64 a.nx, .int .i64 a.mo, .int .i64 a.bo, .int .i64 a.fr, .slice dp dn dc, .slice sp sn sc], .agg #[.int .i64 v.kd, .int .i64 v.me, .int .i64 v.mo, .int .i64 v.id, .int .i64 v.te, .int .i64 v.de, .int .i64 v.fe, .int .i64 v.pr, .int .i64 v.ch, .int .i64 v.un, .int .i64 v.tg, .int .i64 v.ow, .int .i64 v.bp]] w fun e w' => HapPost w base t (cuA a dp dn dc sp sn sc) ⟨a, sol⟩ v e w' := by
  have n5 : (v.kd == 5) = true := by simpa using hkd
  have HKD : Hid (v.kd = 5) := hkd
  clear hkd
  have HB0 : Hid (Below w.heap.size w w) := Below.refl _ _
  have HH : Hid (Has w base (cuA a dp dn dc sp sn sc) ⟨a, sol⟩) := hx
  have HBS : Hid (base ≤ w.heap.size) := hbase
  have HOW : Hid (∀ W, Below w.heap.size w W → Calls Try.prog 55 #[.agg #[.int .i64 a.me, .int .i64 a.rv, .int .i64 a.nx, .int .i64 a.mo, .int .i64 a.bo, .int .i64 a.fr, .slice dp dn dc], .agg #[.int .i64 v.ow, .int .i64 v.bp]] W fun e w' => APost W (OweIs a ⟨v.ow, v.bp⟩) e w') := fun W hB => acc.rowes a dp dn dc ⟨v.ow, v.bp⟩ W (hx.ds.came.below hB).row hx.ds.came.most
  clear hx ht htl hbase
  have Ht1 : Hid (Blk (w.alloc (.cells #[.slice pt lt ct, .int .i64 t.ff, .int .i64 t.fb, .int .i64 t.db, .int .i64 t.al] 40)) (w.heap.size) #[.slice pt lt ct, .int .i64 t.ff, .int .i64 t.fb, .int .i64 t.db, .int .i64 t.al] 40) := Blk.new _ _ _
  have HB1 : Hid (Below w.heap.size w (w.alloc (.cells #[.slice pt lt ct, .int .i64 t.ff, .int .i64 t.fb, .int .i64 t.db, .int .i64 t.al] 40))) := HB0.out.alloc HB0.out.size _
  have Ht2 : Hid (Blk ((w.alloc (.cells #[.slice pt lt ct, .int .i64 t.ff, .int .i64 t.fb, .int .i64 t.db, .int .i64 t.al] 40)).alloc (.cells #[.int .i64 a.me, .int .i64 a.rv, .int .i64 a.nx, .int .i64 a.mo, .int .i64 a.bo, .int .i64 a.fr, .slice dp dn dc, .slice sp sn sc] 58)) (w.heap.size) #[.slice pt lt ct, .int .i64 t.ff, .int .i64 t.fb, .int .i64 t.db, .int .i64 t.al] 40) := Ht1.out.alloc _
  have Hx2 : Hid (Blk ((w.alloc (.cells #[.slice pt lt ct, .int .i64 t.ff, .int .i64 t.fb, .int .i64 t.db, .int .i64 t.al] 40)).alloc (.cells #[.int .i64 a.me, .int .i64 a.rv, .int .i64 a.nx, .int .i64 a.mo, .int .i64 a.bo, .int .i64 a.fr, .slice dp dn dc, .slice sp sn sc] 58)) ((w.alloc (.cells #[.slice pt lt ct, .int .i64 t.ff, .int .i64 t.fb, .int .i64 t.db, .int .i64 t.al] 40)).heap.size) #[.int .i64 a.me, .int .i64 a.rv, .int .i64 a.nx, .int .i64 a.mo, .int .i64 a.bo, .int .i64 a.fr, .slice dp dn dc, .slice sp sn sc] 58) := Blk.new _ _ _
  have HB2 : Hid (Below w.heap.size w ((w.alloc (.cells #[.slice pt lt ct, .int .i64 t.ff, .int .i64 t.fb, .int .i64 t.db, .int .i64 t.al] 40)).alloc (.cells #[.int .i64 a.me, .int .i64 a.rv, .int .i64 a.nx, .int .i64 a.mo, .int .i64 a.bo, .int .i64 a.fr, .slice dp dn dc, .slice sp sn sc] 58))) := HB1.out.alloc HB1.out.size _
  have Ht3 : Hid (Blk (((w.alloc (.cells #[.slice pt lt ct, .int .i64 t.ff, .int .i64 t.fb, .int .i64 t.db, .int .i64 t.al] 40)).alloc (.cells #[.int .i64 a.me, .int .i64 a.rv, .int .i64 a.nx, .int .i64 a.mo, .int .i64 a.bo, .int .i64 a.fr, .slice dp dn dc, .slice sp sn sc] 58)).alloc (.cells #[.int .i64 v.kd, .int .i64 v.me, .int .i64 v.mo, .int .i64 v.id, .int .i64 v.te, .int .i64 v.de, .int .i64 v.fe, .int .i64 v.pr, .int .i64 v.ch, .int .i64 v.un, .int .i64 v.tg, .int .i64 v.ow, .int .i64 v.bp] 27)) (w.heap.size) #[.slice pt lt ct, .int .i64 t.ff, .int .i64 t.fb, .int .i64 t.db, .int .i64 t.al] 40) := Ht2.out.alloc _
  have Hx3 : Hid (Blk (((w.alloc (.cells #[.slice pt lt ct, .int .i64 t.ff, .int .i64 t.fb, .int .i64 t.db, .int .i64 t.al] 40)).alloc (.cells #[.int .i64 a.me, .int .i64 a.rv, .int .i64 a.nx, .int .i64 a.mo, .int .i64 a.bo, .int .i64 a.fr, .slice dp dn dc, .slice sp sn sc] 58)).alloc (.cells #[.int .i64 v.kd, .int .i64 v.me, .int .i64 v.mo, .int .i64 v.id, .int .i64 v.te, .int .i64 v.de, .int .i64 v.fe, .int .i64 v.pr, .int .i64 v.ch, .int .i64 v.un, .int .i64 v.tg, .int .i64 v.ow, .int .i64 v.bp] 27)) ((w.alloc (.cells #[.slice pt lt ct, .int .i64 t.ff, .int .i64 t.fb, .int .i64 t.db, .int .i64 t.al] 40)).heap.size) #[.int .i64 a.me, .int .i64 a.rv, .int .i64 a.nx, .int .i64 a.mo, .int .i64 a.bo, .int .i64 a.fr, .slice dp dn dc, .slice sp sn sc] 58) := Hx2.out.alloc _
  have Hv3 : Hid (Blk (((w.alloc (.cells #[.slice pt lt ct, .int .i64 t.ff, .int .i64 t.fb, .int .i64 t.db, .int .i64 t.al] 40)).alloc (.cells #[.int .i64 a.me, .int .i64 a.rv, .int .i64 a.nx, .int .i64 a.mo, .int .i64 a.bo, .int .i64 a.fr, .slice dp dn dc, .slice sp sn sc] 58)).alloc (.cells #[.int .i64 v.kd, .int .i64 v.me, .int .i64 v.mo, .int .i64 v.id, .int .i64 v.te, .int .i64 v.de, .int .i64 v.fe, .int .i64 v.pr, .int .i64 v.ch, .int .i64 v.un, .int .i64 v.tg, .int .i64 v.ow, .int .i64 v.bp] 27)) (((w.alloc (.cells #[.slice pt lt ct, .int .i64 t.ff, .int .i64 t.fb, .int .i64 t.db, .int .i64 t.al] 40)).alloc (.cells #[.int .i64 a.me, .int .i64 a.rv, .int .i64 a.nx, .int .i64 a.mo, .int .i64 a.bo, .int .i64 a.fr, .slice dp dn dc, .slice sp sn sc] 58)).heap.size) #[.int .i64 v.kd, .int .i64 v.me, .int .i64 v.mo, .int .i64 v.id, .int .i64 v.te, .int .i64 v.de, .int .i64 v.fe, .int .i64 v.pr, .int .i64 v.ch, .int .i64 v.un, .int .i64 v.tg, .int .i64 v.ow, .int .i64 v.bp] 27) := Blk.new _ _ _
  have HB3 : Hid (Below w.heap.size w (((w.alloc (.cells #[.slice pt lt ct, .int .i64 t.ff, .int .i64 t.fb, .int .i64 t.db, .int .i64 t.al] 40)).alloc (.cells #[.int .i64 a.me, .int .i64 a.rv, .int .i64 a.nx, .int .i64 a.mo, .int .i64 a.bo, .int .i64 a.fr, .slice dp dn dc, .slice sp sn sc] 58)).alloc (.cells #[.int .i64 v.kd, .int .i64 v.me, .int .i64 v.mo, .int .i64 v.id, .int .i64 v.te, .int .i64 v.de, .int .i64 v.fe, .int .i64 v.pr, .int .i64 v.ch, .int .i64 v.un, .int .i64 v.tg, .int .i64 v.ow, .int .i64 v.bp] 27))) := HB2.out.alloc HB2.out.size _
  have Ht4 : Hid (Blk ((((w.alloc (.cells #[.slice pt lt ct, .int .i64 t.ff, .int .i64 t.fb, .int .i64 t.db, .int .i64 t.al] 40)).alloc (.cells #[.int .i64 a.me, .int .i64 a.rv, .int .i64 a.nx, .int .i64 a.mo, .int .i64 a.bo, .int .i64 a.fr, .slice dp dn dc, .slice sp sn sc] 58)).alloc (.cells #[.int .i64 v.kd, .int .i64 v.me, .int .i64 v.mo, .int .i64 v.id, .int .i64 v.te, .int .i64 v.de, .int .i64 v.fe, .int .i64 v.pr, .int .i64 v.ch, .int .i64 v.un, .int .i64 v.tg, .int .i64 v.ow, .int .i64 v.bp] 27)).alloc (.cells #[.int .i64 0, .int .i64 0, .int .i64 0, .int .i64 0, .int .i64 0, .int .i64 0, .slice none 0 0, .slice none 0 0] 58)) (w.heap.size) #[.slice pt lt ct, .int .i64 t.ff, .int .i64 t.fb, .int .i64 t.db, .int .i64 t.al] 40) := Ht3.out.alloc _
  have Hx4 : Hid (Blk ((((w.alloc (.cells #[.slice pt lt ct, .int .i64 t.ff, .int .i64 t.fb, .int .i64 t.db, .int .i64 t.al] 40)).alloc (.cells #[.int .i64 a.me, .int .i64 a.rv, .int .i64 a.nx, .int .i64 a.mo, .int .i64 a.bo, .int .i64 a.fr, .slice dp dn dc, .slice sp sn sc] 58)).alloc (.cells #[.int .i64 v.kd, .int .i64 v.me, .int .i64 v.mo, .int .i64 v.id, .int .i64 v.te, .int .i64 v.de, .int .i64 v.fe, .int .i64 v.pr, .int .i64 v.ch, .int .i64 v.un, .int .i64 v.tg, .int .i64 v.ow, .int .i64 v.bp] 27)).alloc (.cells #[.int .i64 0, .int .i64 0, .int .i64 0, .int .i64 0, .int .i64 0, .int .i64 0, .slice none 0 0, .slice none 0 0] 58)) ((w.alloc (.cells #[.slice pt lt ct, .int .i64 t.ff, .int .i64 t.fb, .int .i64 t.db, .int .i64 t.al] 40)).heap.size) #[.int .i64 a.me, .int .i64 a.rv, .int .i64 a.nx, .int .i64 a.mo, .int .i64 a.bo, .int .i64 a.fr, .slice dp dn dc, .slice sp sn sc] 58) := Hx3.out.alloc _
  have Hv4 : Hid (Blk ((((w.alloc (.cells #[.slice pt lt ct, .int .i64 t.ff, .int .i64 t.fb, .int .i64 t.db, .int .i64 t.al] 40)).alloc (.cells #[.int .i64 a.me, .int .i64 a.rv, .int .i64 a.nx, .int .i64 a.mo, .int .i64 a.bo, .int .i64 a.fr, .slice dp dn dc, .slice sp sn sc] 58)).alloc (.cells #[.int .i64 v.kd, .int .i64 v.me, .int .i64 v.mo, .int .i64 v.id, .int .i64 v.te, .int .i64 v.de, .int .i64 v.fe, .int .i64 v.pr, .int .i64 v.ch, .int .i64 v.un, .int .i64 v.tg, .int .i64 v.ow, .int .i64 v.bp] 27)).alloc (.cells #[.int .i64 0, .int .i64 0, .int .i64 0, .int .i64 0, .int .i64 0, .int .i64 0, .slice none 0 0, .slice none 0 0] 58)) (((w.alloc (.cells #[.slice pt lt ct, .int .i64 t.ff, .int .i64 t.fb, .int .i64 t.db, .int .i64 t.al] 40)).alloc (.cells #[.int .i64 a.me, .int .i64 a.rv, .int .i64 a.nx, .int .i64 a.mo, .int .i64 a.bo, .int .i64 a.fr, .slice dp dn dc, .slice sp sn sc] 58)).heap.size) #[.int .i64 v.kd, .int .i64 v.me, .int .i64 v.mo, .int .i64 v.id, .int .i64 v.te, .int .i64 v.de, .int .i64 v.fe, .int .i64 v.pr, .int .i64 v.ch, .int .i64 v.un, .int .i64 v.tg, .int .i64 v.ow, .int .i64 v.bp] 27) := Hv3.out.alloc _
  have Hr4 : Hid (Blk ((((w.alloc (.cells #[.slice pt lt ct, .int .i64 t.ff, .int .i64 t.fb, .int .i64 t.db, .int .i64 t.al] 40)).alloc (.cells #[.int .i64 a.me, .int .i64 a.rv, .int .i64 a.nx, .int .i64 a.mo, .int .i64 a.bo, .int .i64 a.fr, .slice dp dn dc, .slice sp sn sc] 58)).alloc (.cells #[.int .i64 v.kd, .int .i64 v.me, .int .i64 v.mo, .int .i64 v.id, .int .i64 v.te, .int .i64 v.de, .int .i64 v.fe, .int .i64 v.pr, .int .i64 v.ch, .int .i64 v.un, .int .i64 v.tg, .int .i64 v.ow, .int .i64 v.bp] 27)).alloc (.cells #[.int .i64 0, .int .i64 0, .int .i64 0, .int .i64 0, .int .i64 0, .int .i64 0, .slice none 0 0, .slice none 0 0] 58)) ((((w.alloc (.cells #[.slice pt lt ct, .int .i64 t.ff, .int .i64 t.fb, .int .i64 t.db, .int .i64 t.al] 40)).alloc (.cells #[.int .i64 a.me, .int .i64 a.rv, .int .i64 a.nx, .int .i64 a.mo, .int .i64 a.bo, .int .i64 a.fr, .slice dp dn dc, .slice sp sn sc] 58)).alloc (.cells #[.int .i64 v.kd, .int .i64 v.me, .int .i64 v.mo, .int .i64 v.id, .int .i64 v.te, .int .i64 v.de, .int .i64 v.fe, .int .i64 v.pr, .int .i64 v.ch, .int .i64 v.un, .int .i64 v.tg, .int .i64 v.ow, .int .i64 v.bp] 27)).heap.size) #[.int .i64 0, .int .i64 0, .int .i64 0, .int .i64 0, .int .i64 0, .int .i64 0, .slice none 0 0, .slice none 0 0] 58) := Blk.new _ _ _
  have HB4 : Hid (Below w.heap.size w ((((w.alloc (.cells #[.slice pt lt ct, .int .i64 t.ff, .int .i64 t.fb, .int .i64 t.db, .int .i64 t.al] 40)).alloc (.cells #[.int .i64 a.me, .int .i64 a.rv, .int .i64 a.nx, .int .i64 a.mo, .int .i64 a.bo, .int .i64 a.fr, .slice dp dn dc, .slice sp sn sc] 58)).alloc (.cells #[.int .i64 v.kd, .int .i64 v.me, .int .i64 v.mo, .int .i64 v.id, .int .i64 v.te, .int .i64 v.de, .int .i64 v.fe, .int .i64 v.pr, .int .i64 v.ch, .int .i64 v.un, .int .i64 v.tg, .int .i64 v.ow, .int .i64 v.bp] 27)).alloc (.cells #[.int .i64 0, .int .i64 0, .int .i64 0, .int .i64 0, .int .i64 0, .int .i64 0, .slice none 0 0, .slice none 0 0] 58))) := HB3.out.alloc HB3.out.size _
  go_enter Try.func38, Try.ntmps38
  go_upto_region 1 with fail
  have HS3 : Hid ((w.alloc (.cells #[.slice pt lt ct, .int .i64 t.ff, .int .i64 t.fb, .int .i64 t.db, .int .i64 t.al] 40)).heap.size = w.heap.size + 1 ∧ ((w.alloc (.cells #[.slice pt lt ct, .int .i64 t.ff, .int .i64 t.fb, .int .i64 t.db, .int .i64 t.al] 40)).alloc (.cells #[.int .i64 a.me, .int .i64 a.rv, .int .i64 a.nx, .int .i64 a.mo, .int .i64 a.bo, .int .i64 a.fr, .slice dp dn dc, .slice sp sn sc] 58)).heap.size = w.heap.size + 1 + 1 ∧ (((w.alloc (.cells #[.slice pt lt ct, .int .i64 t.ff, .int .i64 t.fb, .int .i64 t.db, .int .i64 t.al] 40)).alloc (.cells #[.int .i64 a.me, .int .i64 a.rv, .int .i64 a.nx, .int .i64 a.mo, .int .i64 a.bo, .int .i64 a.fr, .slice dp dn dc, .slice sp sn sc] 58)).alloc (.cells #[.int .i64 v.kd, .int .i64 v.me, .int .i64 v.mo, .int .i64 v.id, .int .i64 v.te, .int .i64 v.de, .int .i64 v.fe, .int .i64 v.pr, .int .i64 v.ch, .int .i64 v.un, .int .i64 v.tg, .int .i64 v.ow, .int .i64 v.bp] 27)).heap.size = w.heap.size + 1 + 1 + 1) := by refine ⟨?_, ?_, ?_⟩ <;> simp
  have Qx : Hid (Blk ((((w.alloc (.cells #[.slice pt lt ct, .int .i64 t.ff, .int .i64 t.fb, .int .i64 t.db, .int .i64 t.al] 40)).alloc (.cells #[.int .i64 a.me, .int .i64 a.rv, .int .i64 a.nx, .int .i64 a.mo, .int .i64 a.bo, .int .i64 a.fr, .slice dp dn dc, .slice sp sn sc] 58)).alloc (.cells #[.int .i64 v.kd, .int .i64 v.me, .int .i64 v.mo, .int .i64 v.id, .int .i64 v.te, .int .i64 v.de, .int .i64 v.fe, .int .i64 v.pr, .int .i64 v.ch, .int .i64 v.un, .int .i64 v.tg, .int .i64 v.ow, .int .i64 v.bp] 27)).alloc (.cells #[.int .i64 0, .int .i64 0, .int .i64 0, .int .i64 0, .int .i64 0, .int .i64 0, .slice none 0 0, .slice none 0 0] 58)) (w.heap.size + 1) #[.int .i64 a.me, .int .i64 a.rv, .int .i64 a.nx, .int .i64 a.mo, .int .i64 a.bo, .int .i64 a.fr, .slice dp dn dc, .slice sp sn sc] 58) := by have q := Hx4.out; rw [HS3.out.1] at q; exact q
  have Qv : Hid (Blk ((((w.alloc (.cells #[.slice pt lt ct, .int .i64 t.ff, .int .i64 t.fb, .int .i64 t.db, .int .i64 t.al] 40)).alloc (.cells #[.int .i64 a.me, .int .i64 a.rv, .int .i64 a.nx, .int .i64 a.mo, .int .i64 a.bo, .int .i64 a.fr, .slice dp dn dc, .slice sp sn sc] 58)).alloc (.cells #[.int .i64 v.kd, .int .i64 v.me, .int .i64 v.mo, .int .i64 v.id, .int .i64 v.te, .int .i64 v.de, .int .i64 v.fe, .int .i64 v.pr, .int .i64 v.ch, .int .i64 v.un, .int .i64 v.tg, .int .i64 v.ow, .int .i64 v.bp] 27)).alloc (.cells #[.int .i64 0, .int .i64 0, .int .i64 0, .int .i64 0, .int .i64 0, .int .i64 0, .slice none 0 0, .slice none 0 0] 58)) (w.heap.size + 1 + 1) #[.int .i64 v.kd, .int .i64 v.me, .int .i64 v.mo, .int .i64 v.id, .int .i64 v.te, .int .i64 v.de, .int .i64 v.fe, .int .i64 v.pr, .int .i64 v.ch, .int .i64 v.un, .int .i64 v.tg, .int .i64 v.ow, .int .i64 v.bp] 27) := by have q := Hv4.out; rw [HS3.out.2.1] at q; exact q
  have Qr : Hid (Blk ((((w.alloc (.cells #[.slice pt lt ct, .int .i64 t.ff, .int .i64 t.fb, .int .i64 t.db, .int .i64 t.al] 40)).alloc (.cells #[.int .i64 a.me, .int .i64 a.rv, .int .i64 a.nx, .int .i64 a.mo, .int .i64 a.bo, .int .i64 a.fr, .slice dp dn dc, .slice sp sn sc] 58)).alloc (.cells #[.int .i64 v.kd, .int .i64 v.me, .int .i64 v.mo, .int .i64 v.id, .int .i64 v.te, .int .i64 v.de, .int .i64 v.fe, .int .i64 v.pr, .int .i64 v.ch, .int .i64 v.un, .int .i64 v.tg, .int .i64 v.ow, .int .i64 v.bp] 27)).alloc (.cells #[.int .i64 0, .int .i64 0, .int .i64 0, .int .i64 0, .int .i64 0, .int .i64 0, .slice none 0 0, .slice none 0 0] 58)) (w.heap.size + 1 + 1 + 1) #[.int .i64 0, .int .i64 0, .int .i64 0, .int .i64 0, .int .i64 0, .int .i64 0, .slice none 0 0, .slice none 0 0] 58) := by have q := Hr4.out; rw [HS3.out.2.2] at q; exact q
  have HS0 : Hid (w.heap.size + 1 + 1 + 1 < ((((w.alloc (.cells #[.slice pt lt ct, .int .i64 t.ff, .int .i64 t.fb, .int .i64 t.db, .int .i64 t.al] 40)).alloc (.cells #[.int .i64 a.me, .int .i64 a.rv, .int .i64 a.nx, .int .i64 a.mo, .int .i64 a.bo, .int .i64 a.fr, .slice dp dn dc, .slice sp sn sc] 58)).alloc (.cells #[.int .i64 v.kd, .int .i64 v.me, .int .i64 v.mo, .int .i64 v.id, .int .i64 v.te, .int .i64 v.de, .int .i64 v.fe, .int .i64 v.pr, .int .i64 v.ch, .int .i64 v.un, .int .i64 v.tg, .int .i64 v.ow, .int .i64 v.bp] 27)).alloc (.cells #[.int .i64 0, .int .i64 0, .int .i64 0, .int .i64 0, .int .i64 0, .int .i64 0, .slice none 0 0, .slice none 0 0] 58)).heap.size) := Qr.out.lt
  generalize ((((w.alloc (.cells #[.slice pt lt ct, .int .i64 t.ff, .int .i64 t.fb, .int .i64 t.db, .int .i64 t.al] 40)).alloc (.cells #[.int .i64 a.me, .int .i64 a.rv, .int .i64 a.nx, .int .i64 a.mo, .int .i64 a.bo, .int .i64 a.fr, .slice dp dn dc, .slice sp sn sc] 58)).alloc (.cells #[.int .i64 v.kd, .int .i64 v.me, .int .i64 v.mo, .int .i64 v.id, .int .i64 v.te, .int .i64 v.de, .int .i64 v.fe, .int .i64 v.pr, .int .i64 v.ch, .int .i64 v.un, .int .i64 v.tg, .int .i64 v.ow, .int .i64 v.bp] 27)).alloc (.cells #[.int .i64 0, .int .i64 0, .int .i64 0, .int .i64 0, .int .i64 0, .int .i64 0, .slice none 0 0, .slice none 0 0] 58)) = W0 at *
  have kx0 : W0.cell? ⟨w.heap.size + 1, 0, none⟩ = some (.int .i64 a.me) := Qx.out.cell 0
  have kx1 : W0.cell? ⟨w.heap.size + 1, 1, none⟩ = some (.int .i64 a.rv) := Qx.out.cell 1
  have kx2 : W0.cell? ⟨w.heap.size + 1, 2, none⟩ = some (.int .i64 a.nx) := Qx.out.cell 2
  have kx3 : W0.cell? ⟨w.heap.size + 1, 3, none⟩ = some (.int .i64 a.mo) := Qx.out.cell 3
  have kx4 : W0.cell? ⟨w.heap.size + 1, 4, none⟩ = some (.int .i64 a.bo) := Qx.out.cell 4
  have kx5 : W0.cell? ⟨w.heap.size + 1, 5, none⟩ = some (.int .i64 a.fr) := Qx.out.cell 5
  have kx6 : W0.cell? ⟨w.heap.size + 1, 6, none⟩ = some (.slice dp dn dc) := Qx.out.cell 6
  have kx7 : W0.cell? ⟨w.heap.size + 1, 7, none⟩ = some (.slice sp sn sc) := Qx.out.cell 7
  have kv0 : W0.cell? ⟨w.heap.size + 1 + 1, 0, none⟩ = some (.int .i64 v.kd) := Qv.out.cell 0
  have kv1 : W0.cell? ⟨w.heap.size + 1 + 1, 1, none⟩ = some (.int .i64 v.me) := Qv.out.cell 1
  have kv2 : W0.cell? ⟨w.heap.size + 1 + 1, 2, none⟩ = some (.int .i64 v.mo) := Qv.out.cell 2
  have kv3 : W0.cell? ⟨w.heap.size + 1 + 1, 3, none⟩ = some (.int .i64 v.id) := Qv.out.cell 3
  have kv4 : W0.cell? ⟨w.heap.size + 1 + 1, 4, none⟩ = some (.int .i64 v.te) := Qv.out.cell 4
  have kv5 : W0.cell? ⟨w.heap.size + 1 + 1, 5, none⟩ = some (.int .i64 v.de) := Qv.out.cell 5
  have kv6 : W0.cell? ⟨w.heap.size + 1 + 1, 6, none⟩ = some (.int .i64 v.fe) := Qv.out.cell 6
  have kv7 : W0.cell? ⟨w.heap.size + 1 + 1, 7, none⟩ = some (.int .i64 v.pr) := Qv.out.cell 7
  have kv8 : W0.cell? ⟨w.heap.size + 1 + 1, 8, none⟩ = some (.int .i64 v.ch) := Qv.out.cell 8
  have kv9 : W0.cell? ⟨w.heap.size + 1 + 1, 9, none⟩ = some (.int .i64 v.un) := Qv.out.cell 9
  have kv10 : W0.cell? ⟨w.heap.size + 1 + 1, 10, none⟩ = some (.int .i64 v.tg) := Qv.out.cell 10
  have kv11 : W0.cell? ⟨w.heap.size + 1 + 1, 11, none⟩ = some (.int .i64 v.ow) := Qv.out.cell 11
  have kv12 : W0.cell? ⟨w.heap.size + 1 + 1, 12, none⟩ = some (.int .i64 v.bp) := Qv.out.cell 12
  have HO1 : Hid (Calls Try.prog 55 #[.agg #[.int .i64 a.me, .int .i64 a.rv, .int .i64 a.nx, .int .i64 a.mo, .int .i64 a.bo, .int .i64 a.fr, .slice dp dn dc], .agg #[.int .i64 v.ow, .int .i64 v.bp]] W0 fun e w' => APost W0 (OweIs a ⟨v.ow, v.bp⟩) e w') := HOW.out W0 HB4.out
  clear HOW
  go_wp2_with fail
  refine HO1.out.mono ?_
  rintro e w1 ⟨b, pb, lb, cb, f, rfl, hi, hf, hb1⟩
  have HI : Hid (OweIs a ⟨v.ow, v.bp⟩ b f) := hi
  have Ht5 : Hid (Blk w1 (w.heap.size) #[.slice pt lt ct, .int .i64 t.ff, .int .i64 t.fb, .int .i64 t.db, .int .i64 t.al] 40) := Ht4.out.next hb1
  have Hx5 : Hid (Blk w1 (w.heap.size + 1) #[.int .i64 a.me, .int .i64 a.rv, .int .i64 a.nx, .int .i64 a.mo, .int .i64 a.bo, .int .i64 a.fr, .slice dp dn dc, .slice sp sn sc] 58) := Qx.out.next hb1
  have Hv5 : Hid (Blk w1 (w.heap.size + 1 + 1) #[.int .i64 v.kd, .int .i64 v.me, .int .i64 v.mo, .int .i64 v.id, .int .i64 v.te, .int .i64 v.de, .int .i64 v.fe, .int .i64 v.pr, .int .i64 v.ch, .int .i64 v.un, .int .i64 v.tg, .int .i64 v.ow, .int .i64 v.bp] 27) := Qv.out.next hb1
  have Hr5 : Hid (Blk w1 (w.heap.size + 1 + 1 + 1) #[.int .i64 0, .int .i64 0, .int .i64 0, .int .i64 0, .int .i64 0, .int .i64 0, .slice none 0 0, .slice none 0 0] 58) := Qr.out.next hb1
  have HB5 : Hid (Below w.heap.size w w1) := HB4.out.trans (hb1.mono HB4.out.size)
  have HF1 : Hid (deb.Fresh w1 W0.heap.size pb lb cb b.ds) := hf
  have HW0 : Hid (w.heap.size ≤ W0.heap.size) := HB4.out.size
  clear hb1 hf hi HO1 kx0 kx1 kx2 kx3 kx4 kx5 kx6 kx7 kv0 kv1 kv2 kv3 kv4 kv5 kv6 kv7 kv8 kv9 kv10 kv11 kv12
  unfold acc.Ac.v acc.Ac.cs
  have Ht6 : Hid (Blk (w1.alloc (.cells #[.int .i64 b.me, .int .i64 b.rv, .int .i64 b.nx, .int .i64 b.mo, .int .i64 b.bo, .int .i64 b.fr, .slice pb lb cb] 55)) (w.heap.size) #[.slice pt lt ct, .int .i64 t.ff, .int .i64 t.fb, .int .i64 t.db, .int .i64 t.al] 40) := Ht5.out.alloc _
  have Hx6 : Hid (Blk (w1.alloc (.cells #[.int .i64 b.me, .int .i64 b.rv, .int .i64 b.nx, .int .i64 b.mo, .int .i64 b.bo, .int .i64 b.fr, .slice pb lb cb] 55)) (w.heap.size + 1) #[.int .i64 a.me, .int .i64 a.rv, .int .i64 a.nx, .int .i64 a.mo, .int .i64 a.bo, .int .i64 a.fr, .slice dp dn dc, .slice sp sn sc] 58) := Hx5.out.alloc _
  have Hv6 : Hid (Blk (w1.alloc (.cells #[.int .i64 b.me, .int .i64 b.rv, .int .i64 b.nx, .int .i64 b.mo, .int .i64 b.bo, .int .i64 b.fr, .slice pb lb cb] 55)) (w.heap.size + 1 + 1) #[.int .i64 v.kd, .int .i64 v.me, .int .i64 v.mo, .int .i64 v.id, .int .i64 v.te, .int .i64 v.de, .int .i64 v.fe, .int .i64 v.pr, .int .i64 v.ch, .int .i64 v.un, .int .i64 v.tg, .int .i64 v.ow, .int .i64 v.bp] 27) := Hv5.out.alloc _
  have Hr6 : Hid (Blk (w1.alloc (.cells #[.int .i64 b.me, .int .i64 b.rv, .int .i64 b.nx, .int .i64 b.mo, .int .i64 b.bo, .int .i64 b.fr, .slice pb lb cb] 55)) (w.heap.size + 1 + 1 + 1) #[.int .i64 0, .int .i64 0, .int .i64 0, .int .i64 0, .int .i64 0, .int .i64 0, .slice none 0 0, .slice none 0 0] 58) := Hr5.out.alloc _
  have Ha6 : Hid (Blk (w1.alloc (.cells #[.int .i64 b.me, .int .i64 b.rv, .int .i64 b.nx, .int .i64 b.mo, .int .i64 b.bo, .int .i64 b.fr, .slice pb lb cb] 55)) (w1.heap.size) #[.int .i64 b.me, .int .i64 b.rv, .int .i64 b.nx, .int .i64 b.mo, .int .i64 b.bo, .int .i64 b.fr, .slice pb lb cb] 55) := Blk.new _ _ _
  have HB6 : Hid (Below w.heap.size w (w1.alloc (.cells #[.int .i64 b.me, .int .i64 b.rv, .int .i64 b.nx, .int .i64 b.mo, .int .i64 b.bo, .int .i64 b.fr, .slice pb lb cb] 55))) := HB5.out.alloc HB5.out.size _
  have HF2 : Hid (deb.Fresh (w1.alloc (.cells #[.int .i64 b.me, .int .i64 b.rv, .int .i64 b.nx, .int .i64 b.mo, .int .i64 b.bo, .int .i64 b.fr, .slice pb lb cb] 55)) W0.heap.size pb lb cb b.ds) := HF1.out.below ((Below.refl _ _).alloc (Nat.le_refl _) _)
  go_upto_region 3 with fail
  generalize (w1.alloc (.cells #[.int .i64 b.me, .int .i64 b.rv, .int .i64 b.nx, .int .i64 b.mo, .int .i64 b.bo, .int .i64 b.fr, .slice pb lb cb] 55)) = W1 at *
  generalize hga : w1.heap.size = ga at *
  have ka0 : W1.cell? ⟨ga, 0, none⟩ = some (.int .i64 b.me) := Ha6.out.cell 0
  have ka1 : W1.cell? ⟨ga, 1, none⟩ = some (.int .i64 b.rv) := Ha6.out.cell 1
  have ka2 : W1.cell? ⟨ga, 2, none⟩ = some (.int .i64 b.nx) := Ha6.out.cell 2
  have ka3 : W1.cell? ⟨ga, 3, none⟩ = some (.int .i64 b.mo) := Ha6.out.cell 3
  have ka4 : W1.cell? ⟨ga, 4, none⟩ = some (.int .i64 b.bo) := Ha6.out.cell 4
  have ka5 : W1.cell? ⟨ga, 5, none⟩ = some (.int .i64 b.fr) := Ha6.out.cell 5
  have ka6 : W1.cell? ⟨ga, 6, none⟩ = some (.slice pb lb cb) := Ha6.out.cell 6
  have kx0 : W1.cell? ⟨w.heap.size + 1, 0, none⟩ = some (.int .i64 a.me) := Hx6.out.cell 0
  have kx1 : W1.cell? ⟨w.heap.size + 1, 1, none⟩ = some (.int .i64 a.rv) := Hx6.out.cell 1
  have kx2 : W1.cell? ⟨w.heap.size + 1, 2, none⟩ = some (.int .i64 a.nx) := Hx6.out.cell 2
  have kx3 : W1.cell? ⟨w.heap.size + 1, 3, none⟩ = some (.int .i64 a.mo) := Hx6.out.cell 3
  have kx4 : W1.cell? ⟨w.heap.size + 1, 4, none⟩ = some (.int .i64 a.bo) := Hx6.out.cell 4
  have kx5 : W1.cell? ⟨w.heap.size + 1, 5, none⟩ = some (.int .i64 a.fr) := Hx6.out.cell 5
  have kx6 : W1.cell? ⟨w.heap.size + 1, 6, none⟩ = some (.slice dp dn dc) := Hx6.out.cell 6
  have kx7 : W1.cell? ⟨w.heap.size + 1, 7, none⟩ = some (.slice sp sn sc) := Hx6.out.cell 7
  go_wp2_with (first | (refine wp_letAll rfl 58 _ _ rfl (w.heap.size + 1 + 1 + 1) rfl #[.int .i64 b.me, .int .i64 b.rv, .int .i64 b.nx, .int .i64 b.mo, .int .i64 b.bo, .int .i64 b.fr, .slice pb lb cb, .slice sp sn sc] rfl (by kernel_rfl) (by simp [Value.oneCell']) #[.int .i64 0, .int .i64 0, .int .i64 0, .int .i64 0, .int .i64 0, .int .i64 0, .slice none 0 0, .slice none 0 0] 58 Hr6.out rfl ?_) | fail)
  intro W2 hU
  have HR2 : Hid (Blk W2 (w.heap.size + 1 + 1 + 1) #[.int .i64 b.me, .int .i64 b.rv, .int .i64 b.nx, .int .i64 b.mo, .int .i64 b.bo, .int .i64 b.fr, .slice pb lb cb, .slice sp sn sc] 58) := hU.blk
  have HB9 : Hid (Below w.heap.size w W2) := hU.bel _ _ (by omega) HB6.out
  have HUU : Hid (Upd W1 W2 (w.heap.size + 1 + 1 + 1) #[.int .i64 b.me, .int .i64 b.rv, .int .i64 b.nx, .int .i64 b.mo, .int .i64 b.bo, .int .i64 b.fr, .slice pb lb cb, .slice sp sn sc] 58) := hU
  clear hU ka0 ka1 ka2 ka3 ka4 ka5 ka6 kx0 kx1 kx2 kx3 kx4 kx5 kx6 kx7
  have R0 : Hid (W2.cell? ⟨w.heap.size + 1 + 1 + 1, 0, none⟩ = some (.int .i64 b.me)) := HR2.out.cell 0
  have R1 : Hid (W2.cell? ⟨w.heap.size + 1 + 1 + 1, 1, none⟩ = some (.int .i64 b.rv)) := HR2.out.cell 1
  have R2 : Hid (W2.cell? ⟨w.heap.size + 1 + 1 + 1, 2, none⟩ = some (.int .i64 b.nx)) := HR2.out.cell 2
  have R3 : Hid (W2.cell? ⟨w.heap.size + 1 + 1 + 1, 3, none⟩ = some (.int .i64 b.mo)) := HR2.out.cell 3
  have R4 : Hid (W2.cell? ⟨w.heap.size + 1 + 1 + 1, 4, none⟩ = some (.int .i64 b.bo)) := HR2.out.cell 4
  have R5 : Hid (W2.cell? ⟨w.heap.size + 1 + 1 + 1, 5, none⟩ = some (.int .i64 b.fr)) := HR2.out.cell 5
  have R6 : Hid (W2.cell? ⟨w.heap.size + 1 + 1 + 1, 6, none⟩ = some (.slice pb lb cb)) := HR2.out.cell 6
  have R7 : Hid (W2.cell? ⟨w.heap.size + 1 + 1 + 1, 7, none⟩ = some (.slice sp sn sc)) := HR2.out.cell 7
  have HFIN : Hid (HapPost w base t (cuA a dp dn dc sp sn sc) ⟨a, sol⟩ v (.returned (.tuple #[.agg #[.int .i64 b.me, .int .i64 b.rv, .int .i64 b.nx, .int .i64 b.mo, .int .i64 b.bo, .int .i64 b.fr, .slice pb lb cb, .slice sp sn sc], .int .i64 f])) W2) := by
    refine ⟨cuA b pb lb cb sp sn sc, ⟨b, sol⟩, f, rfl, .inl ⟨HKD.out, b, HI.out, fun _ => rfl⟩, fun _ => ?_, grown_of HB9.out _⟩
    have hbl : 0 < lb → ∀ y, pb = some y → W0.heap.size ≤ y.block := HF2.out.new
    refine ⟨grown_of HB9.out _, ⟨cuA_num _ _ _ _ _ _ _, ⟨?_, fun hn y hy => ?_⟩, HH.out.so.next HB9.out⟩, fun g hg => .inl hg, fun hn y hy => Nat.le_trans HW0.out (hbl hn y hy), fun g hg hn y hy q => ?_⟩
    · refine acc_upd HF2.out.came HUU.out (fun hn y hy q => ?_)
      have h1 := hbl hn y hy
      have h2 := HS0.out
      omega
    · have h1 := hbl hn y hy
      have h2 := HW0.out
      have h3 := HBS.out
      omega
    · have h1 := hbl hn y hy
      have h2 := HW0.out
      have h3 := (World.ownsRow.lt HH.out.so g hg).2
      omega
  go_wp2_with fail
  exact bodyPost_ret (v := .tuple #[.agg #[.int .i64 b.me, .int .i64 b.rv, .int .i64 b.nx, .int .i64 b.mo, .int .i64 b.bo, .int .i64 b.fr, .slice pb lb cb, .slice sp sn sc], .int .i64 f]) (by simp [results, Try.results38, R0.out, R1.out, R2.out, R3.out, R4.out, R5.out, R6.out, R7.out, go_sem]) rfl HFIN.out

end Go.Proofs.Ytfhlokjpdkmdjaa.book

/- Small facts of what happens. -/
namespace Go.Proofs.Ytfhlokjpdkmdjaa.book
open Go.RowKit
open Go.Proofs.Ytfhlokjpdkmdjaa.acc (Ac Tm Bi APost BPost OweIs SellIs GrantIs RekeyIs)
set_option maxRecDepth 100000
set_option linter.unusedVariables false
set_option linter.unusedSimpArgs false

theorem drew_fresh {w : World} {base : Nat} {a : Option Addr} {n cap : Nat} {zs : List tar.Du} (h : deb.Fresh w base a n cap zs) : deb.Fresh w.drew base a n cap zs := h.below (Below.refl _ _).drew
theorem bill_ne {l : Bi} {v : Ev} (h : l ≠ billOf v) : ¬ (l.id = v.id ∧ l.te = v.te ∧ l.de = v.de ∧ l.fe = v.fe ∧ l.pr = v.pr ∧ l.ch = v.ch ∧ l.un = v.un) := fun ⟨h1, h2, h3, h4, h5, h6, h7⟩ => h (by
  cases l
  unfold billOf
  simp only at h1 h2 h3 h4 h5 h6 h7
  rw [h1, h2, h3, h4, h5, h6, h7])
theorem lo_upd {w W : World} {base g : Nat} {cs : Array Value} {t : TypeId} {v : Value} {l : List So} (h : Lo w base v l) (hU : Upd w W g cs t) (hg : ∀ k, v.ownBlock = some k → k ≠ g) : Lo W base v l := by
  refine ⟨h.1, ?_⟩
  rcases h.2 with hn | ⟨g', cap, cur, hv, hb, hc, rest⟩
  · exact .inl hn
  · exact .inr ⟨g', cap, cur, hv, hb, by rw [hU.oth g' (hg g' (by rw [hv]; rfl))]; exact hc, rest⟩
theorem grown_upd {w w9 W : World} {g : Nat} {cs : Array Value} {t : TypeId} {own : Option Nat} (h : w.grownBy w9 own) (hU : Upd w9 W g cs t) (hg : w.heap.size ≤ g) : w.grownBy W own := by
  have hb := hU.bel w.heap.size w9 hg (Below.refl _ _)
  exact ⟨hb.os.trans h.os, hb.tape.trans h.tape, hb.output.trans h.output, Nat.le_trans h.size (by rw [hU.size]; exact Nat.le_refl _), fun k hk hne => by rw [hU.oth k (by omega)]; exact h.block k hk hne⟩

end Go.Proofs.Ytfhlokjpdkmdjaa.book

/- Operations one by one, where the order is open. -/
namespace Go.Proofs.Ytfhlokjpdkmdjaa
open Go.RowKit

/-- An operation that gives a value, where the order is open. -/
theorem wp_runOp {P : Program} {o : Oper} {a : Act} {w w' : World} {v : Value} {K : Act → World → Prop} {Q : Exit → Act → World → Prop} (d : Nat) (hd : o.dst = some d) (hrun : (execOp a.eval o).run P w = .ok (.value v) w') (h : K (a.put (some d) v) w') : o.wp P a w K Q := by
  rw [← hd] at h
  unfold Oper.wp
  rw [hrun, Oper.upon_value]
  exact h
/-- A call by its contract, where the order is open. -/
theorem wp_callOp {P : Program} {o : Oper} {a : Act} {w : World} {f : FuncId} {args : Array Value} {R : Ending → World → Prop} {K : Act → World → Prop} {Q : Exit → Act → World → Prop} (d : Nat) (hd : o.dst = some d) (hrun : (execOp a.eval o).run P w = .ok (.enter f args) w) (hc : Calls P f args w R)
    (h : ∀ e w', R e w' → ∃ v, e = .returned v ∧ K (a.put (some d) v) w') : o.wp P a w K Q := by
  rw [← hd] at h
  unfold Oper.wp
  rw [hrun, Oper.upon_enter]
  refine hc.mono fun e w' hr => ?_
  obtain ⟨v, rfl, hk⟩ := h e w' hr
  exact hk

end Go.Proofs.Ytfhlokjpdkmdjaa

/- What a sale does to a customer, as the document has it. -/
namespace Go.Proofs.Ytfhlokjpdkmdjaa.book
open Go.RowKit
open Go.Proofs.Ytfhlokjpdkmdjaa.acc (Ac Tm Bi APost BPost OweIs SellIs GrantIs RekeyIs)
set_option maxRecDepth 100000
set_option linter.unusedVariables false
set_option linter.unusedSimpArgs false

set_option maxHeartbeats 8000000 in
theorem rhap2 (a : Ac) (sol : List So) (dp : Option Addr) (dn dc : Nat) (sp : Option Addr) (sn sc : Nat) (t : Tm) (pt : Option Addr) (lt ct : Nat) (v : Ev) (base : Nat) (w : World) (hx : Has w base (cuA a dp dn dc sp sn sc) ⟨a, sol⟩) (ht : tar.RowD w pt lt t.ts) (htl : lt ≤ maxLen) (hbase : base ≤ w.heap.size) (hkd : v.kd = 2) (hsol : sol.length ≤ 2000000) :
    Calls Try.prog 38 #[.agg #[.slice pt lt ct, .int .i64 t.ff, .int .i64 t.fb, .int .i64 t.db, .int .i64 t.al], .agg #[.int .i64 a.me, .int .i64 a.rv, .int .i64 a.nx, .int .i64 a.mo, .int .i64 a.bo, .int .i64 a.fr, .slice dp dn dc, .slice sp sn sc], .agg #[.int .i64 v.kd, .int .i64 v.me, .int .i64 v.mo, .int .i64 v.id, .int .i64 v.te, .int .i64 v.de, .int .i64 v.fe, .int .i64 v.pr, .int .i64 v.ch, .int .i64 v.un, .int .i64 v.tg, .int .i64 v.ow, .int .i64 v.bp]] w fun e w' => HapPost w base t (cuA a dp dn dc sp sn sc) ⟨a, sol⟩ v e w' := by
  have n2 : (v.kd == 2) = true := by rw [hkd]; rfl
  have n3 : (v.kd == 3) = false := by rw [hkd]; rfl
  have n4 : (v.kd == 4) = false := by rw [hkd]; rfl
  have n5 : (v.kd == 5) = false := by rw [hkd]; rfl
  have HKD : Hid (v.kd = 2) := hkd
  have HK5 : Hid (v.kd ≠ 5) := by show v.kd ≠ 5; rw [hkd]; decide
  clear hkd
  have HB0 : Hid (Below w.heap.size w w) := Below.refl _ _
  have HH : Hid (Has w base (cuA a dp dn dc sp sn sc) ⟨a, sol⟩) := hx
  have HBS : Hid (base ≤ w.heap.size) := hbase
  have HOWN : Hid (∀ k, (Value.slice sp sn sc).ownBlock = some k → k < w.heap.size) := fun k hk => (World.ownsRow.lt hx.so k hk).2
  have HCA : Hid (∀ W, Below w.heap.size w W → Calls Try.prog 56 #[.agg #[.int .i64 a.me, .int .i64 a.rv, .int .i64 a.nx, .int .i64 a.mo, .int .i64 a.bo, .int .i64 a.fr, .slice dp dn dc], .agg #[.slice pt lt ct, .int .i64 t.ff, .int .i64 t.fb, .int .i64 t.db, .int .i64 t.al], .int .i64 v.te, .int .i64 v.mo] W fun e w' => BPost W (SellIs a t v.te v.mo) e w') := fun W hB => acc.rsold a dp dn dc t pt lt ct v.te v.mo W (hx.ds.came.below hB).row hx.ds.came.most (ht.below hB) htl
  clear hx ht htl hbase
  have Ht1 : Hid (Blk (w.alloc (.cells #[.slice pt lt ct, .int .i64 t.ff, .int .i64 t.fb, .int .i64 t.db, .int .i64 t.al] 40)) (w.heap.size) #[.slice pt lt ct, .int .i64 t.ff, .int .i64 t.fb, .int .i64 t.db, .int .i64 t.al] 40) := Blk.new _ _ _
  have HB1 : Hid (Below w.heap.size w (w.alloc (.cells #[.slice pt lt ct, .int .i64 t.ff, .int .i64 t.fb, .int .i64 t.db, .int .i64 t.al] 40))) := HB0.out.alloc HB0.out.size _
  have Ht2 : Hid (Blk ((w.alloc (.cells #[.slice pt lt ct, .int .i64 t.ff, .int .i64 t.fb, .int .i64 t.db, .int .i64 t.al] 40)).alloc (.cells #[.int .i64 a.me, .int .i64 a.rv, .int .i64 a.nx, .int .i64 a.mo, .int .i64 a.bo, .int .i64 a.fr, .slice dp dn dc, .slice sp sn sc] 58)) (w.heap.size) #[.slice pt lt ct, .int .i64 t.ff, .int .i64 t.fb, .int .i64 t.db, .int .i64 t.al] 40) := Ht1.out.alloc _
  have Hx2 : Hid (Blk ((w.alloc (.cells #[.slice pt lt ct, .int .i64 t.ff, .int .i64 t.fb, .int .i64 t.db, .int .i64 t.al] 40)).alloc (.cells #[.int .i64 a.me, .int .i64 a.rv, .int .i64 a.nx, .int .i64 a.mo, .int .i64 a.bo, .int .i64 a.fr, .slice dp dn dc, .slice sp sn sc] 58)) ((w.alloc (.cells #[.slice pt lt ct, .int .i64 t.ff, .int .i64 t.fb, .int .i64 t.db, .int .i64 t.al] 40)).heap.size) #[.int .i64 a.me, .int .i64 a.rv, .int .i64 a.nx, .int .i64 a.mo, .int .i64 a.bo, .int .i64 a.fr, .slice dp dn dc, .slice sp sn sc] 58) := Blk.new _ _ _
  have HB2 : Hid (Below w.heap.size w ((w.alloc (.cells #[.slice pt lt ct, .int .i64 t.ff, .int .i64 t.fb, .int .i64 t.db, .int .i64 t.al] 40)).alloc (.cells #[.int .i64 a.me, .int .i64 a.rv, .int .i64 a.nx, .int .i64 a.mo, .int .i64 a.bo, .int .i64 a.fr, .slice dp dn dc, .slice sp sn sc] 58))) := HB1.out.alloc HB1.out.size _
  have Ht3 : Hid (Blk (((w.alloc (.cells #[.slice pt lt ct, .int .i64 t.ff, .int .i64 t.fb, .int .i64 t.db, .int .i64 t.al] 40)).alloc (.cells #[.int .i64 a.me, .int .i64 a.rv, .int .i64 a.nx, .int .i64 a.mo, .int .i64 a.bo, .int .i64 a.fr, .slice dp dn dc, .slice sp sn sc] 58)).alloc (.cells #[.int .i64 v.kd, .int .i64 v.me, .int .i64 v.mo, .int .i64 v.id, .int .i64 v.te, .int .i64 v.de, .int .i64 v.fe, .int .i64 v.pr, .int .i64 v.ch, .int .i64 v.un, .int .i64 v.tg, .int .i64 v.ow, .int .i64 v.bp] 27)) (w.heap.size) #[.slice pt lt ct, .int .i64 t.ff, .int .i64 t.fb, .int .i64 t.db, .int .i64 t.al] 40) := Ht2.out.alloc _
  have Hx3 : Hid (Blk (((w.alloc (.cells #[.slice pt lt ct, .int .i64 t.ff, .int .i64 t.fb, .int .i64 t.db, .int .i64 t.al] 40)).alloc (.cells #[.int .i64 a.me, .int .i64 a.rv, .int .i64 a.nx, .int .i64 a.mo, .int .i64 a.bo, .int .i64 a.fr, .slice dp dn dc, .slice sp sn sc] 58)).alloc (.cells #[.int .i64 v.kd, .int .i64 v.me, .int .i64 v.mo, .int .i64 v.id, .int .i64 v.te, .int .i64 v.de, .int .i64 v.fe, .int .i64 v.pr, .int .i64 v.ch, .int .i64 v.un, .int .i64 v.tg, .int .i64 v.ow, .int .i64 v.bp] 27)) ((w.alloc (.cells #[.slice pt lt ct, .int .i64 t.ff, .int .i64 t.fb, .int .i64 t.db, .int .i64 t.al] 40)).heap.size) #[.int .i64 a.me, .int .i64 a.rv, .int .i64 a.nx, .int .i64 a.mo, .int .i64 a.bo, .int .i64 a.fr, .slice dp dn dc, .slice sp sn sc] 58) := Hx2.out.alloc _
  have Hv3 : Hid (Blk (((w.alloc (.cells #[.slice pt lt ct, .int .i64 t.ff, .int .i64 t.fb, .int .i64 t.db, .int .i64 t.al] 40)).alloc (.cells #[.int .i64 a.me, .int .i64 a.rv, .int .i64 a.nx, .int .i64 a.mo, .int .i64 a.bo, .int .i64 a.fr, .slice dp dn dc, .slice sp sn sc] 58)).alloc (.cells #[.int .i64 v.kd, .int .i64 v.me, .int .i64 v.mo, .int .i64 v.id, .int .i64 v.te, .int .i64 v.de, .int .i64 v.fe, .int .i64 v.pr, .int .i64 v.ch, .int .i64 v.un, .int .i64 v.tg, .int .i64 v.ow, .int .i64 v.bp] 27)) (((w.alloc (.cells #[.slice pt lt ct, .int .i64 t.ff, .int .i64 t.fb, .int .i64 t.db, .int .i64 t.al] 40)).alloc (.cells #[.int .i64 a.me, .int .i64 a.rv, .int .i64 a.nx, .int .i64 a.mo, .int .i64 a.bo, .int .i64 a.fr, .slice dp dn dc, .slice sp sn sc] 58)).heap.size) #[.int .i64 v.kd, .int .i64 v.me, .int .i64 v.mo, .int .i64 v.id, .int .i64 v.te, .int .i64 v.de, .int .i64 v.fe, .int .i64 v.pr, .int .i64 v.ch, .int .i64 v.un, .int .i64 v.tg, .int .i64 v.ow, .int .i64 v.bp] 27) := Blk.new _ _ _
  have HB3 : Hid (Below w.heap.size w (((w.alloc (.cells #[.slice pt lt ct, .int .i64 t.ff, .int .i64 t.fb, .int .i64 t.db, .int .i64 t.al] 40)).alloc (.cells #[.int .i64 a.me, .int .i64 a.rv, .int .i64 a.nx, .int .i64 a.mo, .int .i64 a.bo, .int .i64 a.fr, .slice dp dn dc, .slice sp sn sc] 58)).alloc (.cells #[.int .i64 v.kd, .int .i64 v.me, .int .i64 v.mo, .int .i64 v.id, .int .i64 v.te, .int .i64 v.de, .int .i64 v.fe, .int .i64 v.pr, .int .i64 v.ch, .int .i64 v.un, .int .i64 v.tg, .int .i64 v.ow, .int .i64 v.bp] 27))) := HB2.out.alloc HB2.out.size _
  have Ht4 : Hid (Blk ((((w.alloc (.cells #[.slice pt lt ct, .int .i64 t.ff, .int .i64 t.fb, .int .i64 t.db, .int .i64 t.al] 40)).alloc (.cells #[.int .i64 a.me, .int .i64 a.rv, .int .i64 a.nx, .int .i64 a.mo, .int .i64 a.bo, .int .i64 a.fr, .slice dp dn dc, .slice sp sn sc] 58)).alloc (.cells #[.int .i64 v.kd, .int .i64 v.me, .int .i64 v.mo, .int .i64 v.id, .int .i64 v.te, .int .i64 v.de, .int .i64 v.fe, .int .i64 v.pr, .int .i64 v.ch, .int .i64 v.un, .int .i64 v.tg, .int .i64 v.ow, .int .i64 v.bp] 27)).alloc (.cells #[.int .i64 0, .int .i64 0, .int .i64 0, .int .i64 0, .int .i64 0, .int .i64 0, .slice none 0 0, .slice none 0 0] 58)) (w.heap.size) #[.slice pt lt ct, .int .i64 t.ff, .int .i64 t.fb, .int .i64 t.db, .int .i64 t.al] 40) := Ht3.out.alloc _
  have Hx4 : Hid (Blk ((((w.alloc (.cells #[.slice pt lt ct, .int .i64 t.ff, .int .i64 t.fb, .int .i64 t.db, .int .i64 t.al] 40)).alloc (.cells #[.int .i64 a.me, .int .i64 a.rv, .int .i64 a.nx, .int .i64 a.mo, .int .i64 a.bo, .int .i64 a.fr, .slice dp dn dc, .slice sp sn sc] 58)).alloc (.cells #[.int .i64 v.kd, .int .i64 v.me, .int .i64 v.mo, .int .i64 v.id, .int .i64 v.te, .int .i64 v.de, .int .i64 v.fe, .int .i64 v.pr, .int .i64 v.ch, .int .i64 v.un, .int .i64 v.tg, .int .i64 v.ow, .int .i64 v.bp] 27)).alloc (.cells #[.int .i64 0, .int .i64 0, .int .i64 0, .int .i64 0, .int .i64 0, .int .i64 0, .slice none 0 0, .slice none 0 0] 58)) ((w.alloc (.cells #[.slice pt lt ct, .int .i64 t.ff, .int .i64 t.fb, .int .i64 t.db, .int .i64 t.al] 40)).heap.size) #[.int .i64 a.me, .int .i64 a.rv, .int .i64 a.nx, .int .i64 a.mo, .int .i64 a.bo, .int .i64 a.fr, .slice dp dn dc, .slice sp sn sc] 58) := Hx3.out.alloc _
  have Hv4 : Hid (Blk ((((w.alloc (.cells #[.slice pt lt ct, .int .i64 t.ff, .int .i64 t.fb, .int .i64 t.db, .int .i64 t.al] 40)).alloc (.cells #[.int .i64 a.me, .int .i64 a.rv, .int .i64 a.nx, .int .i64 a.mo, .int .i64 a.bo, .int .i64 a.fr, .slice dp dn dc, .slice sp sn sc] 58)).alloc (.cells #[.int .i64 v.kd, .int .i64 v.me, .int .i64 v.mo, .int .i64 v.id, .int .i64 v.te, .int .i64 v.de, .int .i64 v.fe, .int .i64 v.pr, .int .i64 v.ch, .int .i64 v.un, .int .i64 v.tg, .int .i64 v.ow, .int .i64 v.bp] 27)).alloc (.cells #[.int .i64 0, .int .i64 0, .int .i64 0, .int .i64 0, .int .i64 0, .int .i64 0, .slice none 0 0, .slice none 0 0] 58)) (((w.alloc (.cells #[.slice pt lt ct, .int .i64 t.ff, .int .i64 t.fb, .int .i64 t.db, .int .i64 t.al] 40)).alloc (.cells #[.int .i64 a.me, .int .i64 a.rv, .int .i64 a.nx, .int .i64 a.mo, .int .i64 a.bo, .int .i64 a.fr, .slice dp dn dc, .slice sp sn sc] 58)).heap.size) #[.int .i64 v.kd, .int .i64 v.me, .int .i64 v.mo, .int .i64 v.id, .int .i64 v.te, .int .i64 v.de, .int .i64 v.fe, .int .i64 v.pr, .int .i64 v.ch, .int .i64 v.un, .int .i64 v.tg, .int .i64 v.ow, .int .i64 v.bp] 27) := Hv3.out.alloc _
  have Hr4 : Hid (Blk ((((w.alloc (.cells #[.slice pt lt ct, .int .i64 t.ff, .int .i64 t.fb, .int .i64 t.db, .int .i64 t.al] 40)).alloc (.cells #[.int .i64 a.me, .int .i64 a.rv, .int .i64 a.nx, .int .i64 a.mo, .int .i64 a.bo, .int .i64 a.fr, .slice dp dn dc, .slice sp sn sc] 58)).alloc (.cells #[.int .i64 v.kd, .int .i64 v.me, .int .i64 v.mo, .int .i64 v.id, .int .i64 v.te, .int .i64 v.de, .int .i64 v.fe, .int .i64 v.pr, .int .i64 v.ch, .int .i64 v.un, .int .i64 v.tg, .int .i64 v.ow, .int .i64 v.bp] 27)).alloc (.cells #[.int .i64 0, .int .i64 0, .int .i64 0, .int .i64 0, .int .i64 0, .int .i64 0, .slice none 0 0, .slice none 0 0] 58)) ((((w.alloc (.cells #[.slice pt lt ct, .int .i64 t.ff, .int .i64 t.fb, .int .i64 t.db, .int .i64 t.al] 40)).alloc (.cells #[.int .i64 a.me, .int .i64 a.rv, .int .i64 a.nx, .int .i64 a.mo, .int .i64 a.bo, .int .i64 a.fr, .slice dp dn dc, .slice sp sn sc] 58)).alloc (.cells #[.int .i64 v.kd, .int .i64 v.me, .int .i64 v.mo, .int .i64 v.id, .int .i64 v.te, .int .i64 v.de, .int .i64 v.fe, .int .i64 v.pr, .int .i64 v.ch, .int .i64 v.un, .int .i64 v.tg, .int .i64 v.ow, .int .i64 v.bp] 27)).heap.size) #[.int .i64 0, .int .i64 0, .int .i64 0, .int .i64 0, .int .i64 0, .int .i64 0, .slice none 0 0, .slice none 0 0] 58) := Blk.new _ _ _
  have HB4 : Hid (Below w.heap.size w ((((w.alloc (.cells #[.slice pt lt ct, .int .i64 t.ff, .int .i64 t.fb, .int .i64 t.db, .int .i64 t.al] 40)).alloc (.cells #[.int .i64 a.me, .int .i64 a.rv, .int .i64 a.nx, .int .i64 a.mo, .int .i64 a.bo, .int .i64 a.fr, .slice dp dn dc, .slice sp sn sc] 58)).alloc (.cells #[.int .i64 v.kd, .int .i64 v.me, .int .i64 v.mo, .int .i64 v.id, .int .i64 v.te, .int .i64 v.de, .int .i64 v.fe, .int .i64 v.pr, .int .i64 v.ch, .int .i64 v.un, .int .i64 v.tg, .int .i64 v.ow, .int .i64 v.bp] 27)).alloc (.cells #[.int .i64 0, .int .i64 0, .int .i64 0, .int .i64 0, .int .i64 0, .int .i64 0, .slice none 0 0, .slice none 0 0] 58))) := HB3.out.alloc HB3.out.size _
  go_enter Try.func38, Try.ntmps38
  go_upto_region 1 with fail
  have HS3 : Hid ((w.alloc (.cells #[.slice pt lt ct, .int .i64 t.ff, .int .i64 t.fb, .int .i64 t.db, .int .i64 t.al] 40)).heap.size = w.heap.size + 1 ∧ ((w.alloc (.cells #[.slice pt lt ct, .int .i64 t.ff, .int .i64 t.fb, .int .i64 t.db, .int .i64 t.al] 40)).alloc (.cells #[.int .i64 a.me, .int .i64 a.rv, .int .i64 a.nx, .int .i64 a.mo, .int .i64 a.bo, .int .i64 a.fr, .slice dp dn dc, .slice sp sn sc] 58)).heap.size = w.heap.size + 1 + 1 ∧ (((w.alloc (.cells #[.slice pt lt ct, .int .i64 t.ff, .int .i64 t.fb, .int .i64 t.db, .int .i64 t.al] 40)).alloc (.cells #[.int .i64 a.me, .int .i64 a.rv, .int .i64 a.nx, .int .i64 a.mo, .int .i64 a.bo, .int .i64 a.fr, .slice dp dn dc, .slice sp sn sc] 58)).alloc (.cells #[.int .i64 v.kd, .int .i64 v.me, .int .i64 v.mo, .int .i64 v.id, .int .i64 v.te, .int .i64 v.de, .int .i64 v.fe, .int .i64 v.pr, .int .i64 v.ch, .int .i64 v.un, .int .i64 v.tg, .int .i64 v.ow, .int .i64 v.bp] 27)).heap.size = w.heap.size + 1 + 1 + 1) := by refine ⟨?_, ?_, ?_⟩ <;> simp
  have Qx : Hid (Blk ((((w.alloc (.cells #[.slice pt lt ct, .int .i64 t.ff, .int .i64 t.fb, .int .i64 t.db, .int .i64 t.al] 40)).alloc (.cells #[.int .i64 a.me, .int .i64 a.rv, .int .i64 a.nx, .int .i64 a.mo, .int .i64 a.bo, .int .i64 a.fr, .slice dp dn dc, .slice sp sn sc] 58)).alloc (.cells #[.int .i64 v.kd, .int .i64 v.me, .int .i64 v.mo, .int .i64 v.id, .int .i64 v.te, .int .i64 v.de, .int .i64 v.fe, .int .i64 v.pr, .int .i64 v.ch, .int .i64 v.un, .int .i64 v.tg, .int .i64 v.ow, .int .i64 v.bp] 27)).alloc (.cells #[.int .i64 0, .int .i64 0, .int .i64 0, .int .i64 0, .int .i64 0, .int .i64 0, .slice none 0 0, .slice none 0 0] 58)) (w.heap.size + 1) #[.int .i64 a.me, .int .i64 a.rv, .int .i64 a.nx, .int .i64 a.mo, .int .i64 a.bo, .int .i64 a.fr, .slice dp dn dc, .slice sp sn sc] 58) := by have q := Hx4.out; rw [HS3.out.1] at q; exact q
  have Qv : Hid (Blk ((((w.alloc (.cells #[.slice pt lt ct, .int .i64 t.ff, .int .i64 t.fb, .int .i64 t.db, .int .i64 t.al] 40)).alloc (.cells #[.int .i64 a.me, .int .i64 a.rv, .int .i64 a.nx, .int .i64 a.mo, .int .i64 a.bo, .int .i64 a.fr, .slice dp dn dc, .slice sp sn sc] 58)).alloc (.cells #[.int .i64 v.kd, .int .i64 v.me, .int .i64 v.mo, .int .i64 v.id, .int .i64 v.te, .int .i64 v.de, .int .i64 v.fe, .int .i64 v.pr, .int .i64 v.ch, .int .i64 v.un, .int .i64 v.tg, .int .i64 v.ow, .int .i64 v.bp] 27)).alloc (.cells #[.int .i64 0, .int .i64 0, .int .i64 0, .int .i64 0, .int .i64 0, .int .i64 0, .slice none 0 0, .slice none 0 0] 58)) (w.heap.size + 1 + 1) #[.int .i64 v.kd, .int .i64 v.me, .int .i64 v.mo, .int .i64 v.id, .int .i64 v.te, .int .i64 v.de, .int .i64 v.fe, .int .i64 v.pr, .int .i64 v.ch, .int .i64 v.un, .int .i64 v.tg, .int .i64 v.ow, .int .i64 v.bp] 27) := by have q := Hv4.out; rw [HS3.out.2.1] at q; exact q
  have Qr : Hid (Blk ((((w.alloc (.cells #[.slice pt lt ct, .int .i64 t.ff, .int .i64 t.fb, .int .i64 t.db, .int .i64 t.al] 40)).alloc (.cells #[.int .i64 a.me, .int .i64 a.rv, .int .i64 a.nx, .int .i64 a.mo, .int .i64 a.bo, .int .i64 a.fr, .slice dp dn dc, .slice sp sn sc] 58)).alloc (.cells #[.int .i64 v.kd, .int .i64 v.me, .int .i64 v.mo, .int .i64 v.id, .int .i64 v.te, .int .i64 v.de, .int .i64 v.fe, .int .i64 v.pr, .int .i64 v.ch, .int .i64 v.un, .int .i64 v.tg, .int .i64 v.ow, .int .i64 v.bp] 27)).alloc (.cells #[.int .i64 0, .int .i64 0, .int .i64 0, .int .i64 0, .int .i64 0, .int .i64 0, .slice none 0 0, .slice none 0 0] 58)) (w.heap.size + 1 + 1 + 1) #[.int .i64 0, .int .i64 0, .int .i64 0, .int .i64 0, .int .i64 0, .int .i64 0, .slice none 0 0, .slice none 0 0] 58) := by have q := Hr4.out; rw [HS3.out.2.2] at q; exact q
  have HS0 : Hid (w.heap.size + 1 + 1 + 1 < ((((w.alloc (.cells #[.slice pt lt ct, .int .i64 t.ff, .int .i64 t.fb, .int .i64 t.db, .int .i64 t.al] 40)).alloc (.cells #[.int .i64 a.me, .int .i64 a.rv, .int .i64 a.nx, .int .i64 a.mo, .int .i64 a.bo, .int .i64 a.fr, .slice dp dn dc, .slice sp sn sc] 58)).alloc (.cells #[.int .i64 v.kd, .int .i64 v.me, .int .i64 v.mo, .int .i64 v.id, .int .i64 v.te, .int .i64 v.de, .int .i64 v.fe, .int .i64 v.pr, .int .i64 v.ch, .int .i64 v.un, .int .i64 v.tg, .int .i64 v.ow, .int .i64 v.bp] 27)).alloc (.cells #[.int .i64 0, .int .i64 0, .int .i64 0, .int .i64 0, .int .i64 0, .int .i64 0, .slice none 0 0, .slice none 0 0] 58)).heap.size) := Qr.out.lt
  generalize ((((w.alloc (.cells #[.slice pt lt ct, .int .i64 t.ff, .int .i64 t.fb, .int .i64 t.db, .int .i64 t.al] 40)).alloc (.cells #[.int .i64 a.me, .int .i64 a.rv, .int .i64 a.nx, .int .i64 a.mo, .int .i64 a.bo, .int .i64 a.fr, .slice dp dn dc, .slice sp sn sc] 58)).alloc (.cells #[.int .i64 v.kd, .int .i64 v.me, .int .i64 v.mo, .int .i64 v.id, .int .i64 v.te, .int .i64 v.de, .int .i64 v.fe, .int .i64 v.pr, .int .i64 v.ch, .int .i64 v.un, .int .i64 v.tg, .int .i64 v.ow, .int .i64 v.bp] 27)).alloc (.cells #[.int .i64 0, .int .i64 0, .int .i64 0, .int .i64 0, .int .i64 0, .int .i64 0, .slice none 0 0, .slice none 0 0] 58)) = W0 at *
  have kx0 : W0.cell? ⟨w.heap.size + 1, 0, none⟩ = some (.int .i64 a.me) := Qx.out.cell 0
  have kx1 : W0.cell? ⟨w.heap.size + 1, 1, none⟩ = some (.int .i64 a.rv) := Qx.out.cell 1
  have kx2 : W0.cell? ⟨w.heap.size + 1, 2, none⟩ = some (.int .i64 a.nx) := Qx.out.cell 2
  have kx3 : W0.cell? ⟨w.heap.size + 1, 3, none⟩ = some (.int .i64 a.mo) := Qx.out.cell 3
  have kx4 : W0.cell? ⟨w.heap.size + 1, 4, none⟩ = some (.int .i64 a.bo) := Qx.out.cell 4
  have kx5 : W0.cell? ⟨w.heap.size + 1, 5, none⟩ = some (.int .i64 a.fr) := Qx.out.cell 5
  have kx6 : W0.cell? ⟨w.heap.size + 1, 6, none⟩ = some (.slice dp dn dc) := Qx.out.cell 6
  have kx7 : W0.cell? ⟨w.heap.size + 1, 7, none⟩ = some (.slice sp sn sc) := Qx.out.cell 7
  have kv0 : W0.cell? ⟨w.heap.size + 1 + 1, 0, none⟩ = some (.int .i64 v.kd) := Qv.out.cell 0
  have kv1 : W0.cell? ⟨w.heap.size + 1 + 1, 1, none⟩ = some (.int .i64 v.me) := Qv.out.cell 1
  have kv2 : W0.cell? ⟨w.heap.size + 1 + 1, 2, none⟩ = some (.int .i64 v.mo) := Qv.out.cell 2
  have kv3 : W0.cell? ⟨w.heap.size + 1 + 1, 3, none⟩ = some (.int .i64 v.id) := Qv.out.cell 3
  have kv4 : W0.cell? ⟨w.heap.size + 1 + 1, 4, none⟩ = some (.int .i64 v.te) := Qv.out.cell 4
  have kv5 : W0.cell? ⟨w.heap.size + 1 + 1, 5, none⟩ = some (.int .i64 v.de) := Qv.out.cell 5
  have kv6 : W0.cell? ⟨w.heap.size + 1 + 1, 6, none⟩ = some (.int .i64 v.fe) := Qv.out.cell 6
  have kv7 : W0.cell? ⟨w.heap.size + 1 + 1, 7, none⟩ = some (.int .i64 v.pr) := Qv.out.cell 7
  have kv8 : W0.cell? ⟨w.heap.size + 1 + 1, 8, none⟩ = some (.int .i64 v.ch) := Qv.out.cell 8
  have kv9 : W0.cell? ⟨w.heap.size + 1 + 1, 9, none⟩ = some (.int .i64 v.un) := Qv.out.cell 9
  have kv10 : W0.cell? ⟨w.heap.size + 1 + 1, 10, none⟩ = some (.int .i64 v.tg) := Qv.out.cell 10
  have kv11 : W0.cell? ⟨w.heap.size + 1 + 1, 11, none⟩ = some (.int .i64 v.ow) := Qv.out.cell 11
  have kv12 : W0.cell? ⟨w.heap.size + 1 + 1, 12, none⟩ = some (.int .i64 v.bp) := Qv.out.cell 12
  have Ht5 : Hid (Blk (W0.alloc (.cells #[.int .i64 v.id, .int .i64 0, .int .i64 v.un, .int .i64 v.tg, .int .i64 a.rv] 103)) (w.heap.size) #[.slice pt lt ct, .int .i64 t.ff, .int .i64 t.fb, .int .i64 t.db, .int .i64 t.al] 40) := Ht4.out.alloc _
  have Hx5 : Hid (Blk (W0.alloc (.cells #[.int .i64 v.id, .int .i64 0, .int .i64 v.un, .int .i64 v.tg, .int .i64 a.rv] 103)) (w.heap.size + 1) #[.int .i64 a.me, .int .i64 a.rv, .int .i64 a.nx, .int .i64 a.mo, .int .i64 a.bo, .int .i64 a.fr, .slice dp dn dc, .slice sp sn sc] 58) := Qx.out.alloc _
  have Hv5 : Hid (Blk (W0.alloc (.cells #[.int .i64 v.id, .int .i64 0, .int .i64 v.un, .int .i64 v.tg, .int .i64 a.rv] 103)) (w.heap.size + 1 + 1) #[.int .i64 v.kd, .int .i64 v.me, .int .i64 v.mo, .int .i64 v.id, .int .i64 v.te, .int .i64 v.de, .int .i64 v.fe, .int .i64 v.pr, .int .i64 v.ch, .int .i64 v.un, .int .i64 v.tg, .int .i64 v.ow, .int .i64 v.bp] 27) := Qv.out.alloc _
  have Hr5 : Hid (Blk (W0.alloc (.cells #[.int .i64 v.id, .int .i64 0, .int .i64 v.un, .int .i64 v.tg, .int .i64 a.rv] 103)) (w.heap.size + 1 + 1 + 1) #[.int .i64 0, .int .i64 0, .int .i64 0, .int .i64 0, .int .i64 0, .int .i64 0, .slice none 0 0, .slice none 0 0] 58) := Qr.out.alloc _
  have Hs5 : Hid (Blk (W0.alloc (.cells #[.int .i64 v.id, .int .i64 0, .int .i64 v.un, .int .i64 v.tg, .int .i64 a.rv] 103)) (W0.heap.size) #[.int .i64 v.id, .int .i64 0, .int .i64 v.un, .int .i64 v.tg, .int .i64 a.rv] 103) := Blk.new _ _ _
  have HB5 : Hid (Below w.heap.size w (W0.alloc (.cells #[.int .i64 v.id, .int .i64 0, .int .i64 v.un, .int .i64 v.tg, .int .i64 a.rv] 103))) := HB4.out.alloc HB4.out.size _
  have Ht6 : Hid (Blk ((W0.alloc (.cells #[.int .i64 v.id, .int .i64 0, .int .i64 v.un, .int .i64 v.tg, .int .i64 a.rv] 103)).alloc (.cells #[.int .i64 0, .int .i64 0, .int .i64 0, .int .i64 0, .int .i64 0, .int .i64 0, .slice none 0 0] 55)) (w.heap.size) #[.slice pt lt ct, .int .i64 t.ff, .int .i64 t.fb, .int .i64 t.db, .int .i64 t.al] 40) := Ht5.out.alloc _
  have Hx6 : Hid (Blk ((W0.alloc (.cells #[.int .i64 v.id, .int .i64 0, .int .i64 v.un, .int .i64 v.tg, .int .i64 a.rv] 103)).alloc (.cells #[.int .i64 0, .int .i64 0, .int .i64 0, .int .i64 0, .int .i64 0, .int .i64 0, .slice none 0 0] 55)) (w.heap.size + 1) #[.int .i64 a.me, .int .i64 a.rv, .int .i64 a.nx, .int .i64 a.mo, .int .i64 a.bo, .int .i64 a.fr, .slice dp dn dc, .slice sp sn sc] 58) := Hx5.out.alloc _
  have Hv6 : Hid (Blk ((W0.alloc (.cells #[.int .i64 v.id, .int .i64 0, .int .i64 v.un, .int .i64 v.tg, .int .i64 a.rv] 103)).alloc (.cells #[.int .i64 0, .int .i64 0, .int .i64 0, .int .i64 0, .int .i64 0, .int .i64 0, .slice none 0 0] 55)) (w.heap.size + 1 + 1) #[.int .i64 v.kd, .int .i64 v.me, .int .i64 v.mo, .int .i64 v.id, .int .i64 v.te, .int .i64 v.de, .int .i64 v.fe, .int .i64 v.pr, .int .i64 v.ch, .int .i64 v.un, .int .i64 v.tg, .int .i64 v.ow, .int .i64 v.bp] 27) := Hv5.out.alloc _
  have Hr6 : Hid (Blk ((W0.alloc (.cells #[.int .i64 v.id, .int .i64 0, .int .i64 v.un, .int .i64 v.tg, .int .i64 a.rv] 103)).alloc (.cells #[.int .i64 0, .int .i64 0, .int .i64 0, .int .i64 0, .int .i64 0, .int .i64 0, .slice none 0 0] 55)) (w.heap.size + 1 + 1 + 1) #[.int .i64 0, .int .i64 0, .int .i64 0, .int .i64 0, .int .i64 0, .int .i64 0, .slice none 0 0, .slice none 0 0] 58) := Hr5.out.alloc _
  have Hs6 : Hid (Blk ((W0.alloc (.cells #[.int .i64 v.id, .int .i64 0, .int .i64 v.un, .int .i64 v.tg, .int .i64 a.rv] 103)).alloc (.cells #[.int .i64 0, .int .i64 0, .int .i64 0, .int .i64 0, .int .i64 0, .int .i64 0, .slice none 0 0] 55)) (W0.heap.size) #[.int .i64 v.id, .int .i64 0, .int .i64 v.un, .int .i64 v.tg, .int .i64 a.rv] 103) := Hs5.out.alloc _
  have Ha6 : Hid (Blk ((W0.alloc (.cells #[.int .i64 v.id, .int .i64 0, .int .i64 v.un, .int .i64 v.tg, .int .i64 a.rv] 103)).alloc (.cells #[.int .i64 0, .int .i64 0, .int .i64 0, .int .i64 0, .int .i64 0, .int .i64 0, .slice none 0 0] 55)) ((W0.alloc (.cells #[.int .i64 v.id, .int .i64 0, .int .i64 v.un, .int .i64 v.tg, .int .i64 a.rv] 103)).heap.size) #[.int .i64 0, .int .i64 0, .int .i64 0, .int .i64 0, .int .i64 0, .int .i64 0, .slice none 0 0] 55) := Blk.new _ _ _
  have HB6 : Hid (Below w.heap.size w ((W0.alloc (.cells #[.int .i64 v.id, .int .i64 0, .int .i64 v.un, .int .i64 v.tg, .int .i64 a.rv] 103)).alloc (.cells #[.int .i64 0, .int .i64 0, .int .i64 0, .int .i64 0, .int .i64 0, .int .i64 0, .slice none 0 0] 55))) := HB5.out.alloc HB5.out.size _
  have Ht7 : Hid (Blk (((W0.alloc (.cells #[.int .i64 v.id, .int .i64 0, .int .i64 v.un, .int .i64 v.tg, .int .i64 a.rv] 103)).alloc (.cells #[.int .i64 0, .int .i64 0, .int .i64 0, .int .i64 0, .int .i64 0, .int .i64 0, .slice none 0 0] 55)).alloc (.cells #[.int .i64 0, .int .i64 0, .int .i64 0, .int .i64 0, .int .i64 0, .int .i64 0, .int .i64 0] 23)) (w.heap.size) #[.slice pt lt ct, .int .i64 t.ff, .int .i64 t.fb, .int .i64 t.db, .int .i64 t.al] 40) := Ht6.out.alloc _
  have Hx7 : Hid (Blk (((W0.alloc (.cells #[.int .i64 v.id, .int .i64 0, .int .i64 v.un, .int .i64 v.tg, .int .i64 a.rv] 103)).alloc (.cells #[.int .i64 0, .int .i64 0, .int .i64 0, .int .i64 0, .int .i64 0, .int .i64 0, .slice none 0 0] 55)).alloc (.cells #[.int .i64 0, .int .i64 0, .int .i64 0, .int .i64 0, .int .i64 0, .int .i64 0, .int .i64 0] 23)) (w.heap.size + 1) #[.int .i64 a.me, .int .i64 a.rv, .int .i64 a.nx, .int .i64 a.mo, .int .i64 a.bo, .int .i64 a.fr, .slice dp dn dc, .slice sp sn sc] 58) := Hx6.out.alloc _
  have Hv7 : Hid (Blk (((W0.alloc (.cells #[.int .i64 v.id, .int .i64 0, .int .i64 v.un, .int .i64 v.tg, .int .i64 a.rv] 103)).alloc (.cells #[.int .i64 0, .int .i64 0, .int .i64 0, .int .i64 0, .int .i64 0, .int .i64 0, .slice none 0 0] 55)).alloc (.cells #[.int .i64 0, .int .i64 0, .int .i64 0, .int .i64 0, .int .i64 0, .int .i64 0, .int .i64 0] 23)) (w.heap.size + 1 + 1) #[.int .i64 v.kd, .int .i64 v.me, .int .i64 v.mo, .int .i64 v.id, .int .i64 v.te, .int .i64 v.de, .int .i64 v.fe, .int .i64 v.pr, .int .i64 v.ch, .int .i64 v.un, .int .i64 v.tg, .int .i64 v.ow, .int .i64 v.bp] 27) := Hv6.out.alloc _
  have Hr7 : Hid (Blk (((W0.alloc (.cells #[.int .i64 v.id, .int .i64 0, .int .i64 v.un, .int .i64 v.tg, .int .i64 a.rv] 103)).alloc (.cells #[.int .i64 0, .int .i64 0, .int .i64 0, .int .i64 0, .int .i64 0, .int .i64 0, .slice none 0 0] 55)).alloc (.cells #[.int .i64 0, .int .i64 0, .int .i64 0, .int .i64 0, .int .i64 0, .int .i64 0, .int .i64 0] 23)) (w.heap.size + 1 + 1 + 1) #[.int .i64 0, .int .i64 0, .int .i64 0, .int .i64 0, .int .i64 0, .int .i64 0, .slice none 0 0, .slice none 0 0] 58) := Hr6.out.alloc _
  have Hs7 : Hid (Blk (((W0.alloc (.cells #[.int .i64 v.id, .int .i64 0, .int .i64 v.un, .int .i64 v.tg, .int .i64 a.rv] 103)).alloc (.cells #[.int .i64 0, .int .i64 0, .int .i64 0, .int .i64 0, .int .i64 0, .int .i64 0, .slice none 0 0] 55)).alloc (.cells #[.int .i64 0, .int .i64 0, .int .i64 0, .int .i64 0, .int .i64 0, .int .i64 0, .int .i64 0] 23)) (W0.heap.size) #[.int .i64 v.id, .int .i64 0, .int .i64 v.un, .int .i64 v.tg, .int .i64 a.rv] 103) := Hs6.out.alloc _
  have Ha7 : Hid (Blk (((W0.alloc (.cells #[.int .i64 v.id, .int .i64 0, .int .i64 v.un, .int .i64 v.tg, .int .i64 a.rv] 103)).alloc (.cells #[.int .i64 0, .int .i64 0, .int .i64 0, .int .i64 0, .int .i64 0, .int .i64 0, .slice none 0 0] 55)).alloc (.cells #[.int .i64 0, .int .i64 0, .int .i64 0, .int .i64 0, .int .i64 0, .int .i64 0, .int .i64 0] 23)) ((W0.alloc (.cells #[.int .i64 v.id, .int .i64 0, .int .i64 v.un, .int .i64 v.tg, .int .i64 a.rv] 103)).heap.size) #[.int .i64 0, .int .i64 0, .int .i64 0, .int .i64 0, .int .i64 0, .int .i64 0, .slice none 0 0] 55) := Ha6.out.alloc _
  have Hb7 : Hid (Blk (((W0.alloc (.cells #[.int .i64 v.id, .int .i64 0, .int .i64 v.un, .int .i64 v.tg, .int .i64 a.rv] 103)).alloc (.cells #[.int .i64 0, .int .i64 0, .int .i64 0, .int .i64 0, .int .i64 0, .int .i64 0, .slice none 0 0] 55)).alloc (.cells #[.int .i64 0, .int .i64 0, .int .i64 0, .int .i64 0, .int .i64 0, .int .i64 0, .int .i64 0] 23)) (((W0.alloc (.cells #[.int .i64 v.id, .int .i64 0, .int .i64 v.un, .int .i64 v.tg, .int .i64 a.rv] 103)).alloc (.cells #[.int .i64 0, .int .i64 0, .int .i64 0, .int .i64 0, .int .i64 0, .int .i64 0, .slice none 0 0] 55)).heap.size) #[.int .i64 0, .int .i64 0, .int .i64 0, .int .i64 0, .int .i64 0, .int .i64 0, .int .i64 0] 23) := Blk.new _ _ _
  have HB7 : Hid (Below w.heap.size w (((W0.alloc (.cells #[.int .i64 v.id, .int .i64 0, .int .i64 v.un, .int .i64 v.tg, .int .i64 a.rv] 103)).alloc (.cells #[.int .i64 0, .int .i64 0, .int .i64 0, .int .i64 0, .int .i64 0, .int .i64 0, .slice none 0 0] 55)).alloc (.cells #[.int .i64 0, .int .i64 0, .int .i64 0, .int .i64 0, .int .i64 0, .int .i64 0, .int .i64 0] 23))) := HB6.out.alloc HB6.out.size _
  go_upto_region 8 with fail
  have HS4 : Hid ((W0.alloc (.cells #[.int .i64 v.id, .int .i64 0, .int .i64 v.un, .int .i64 v.tg, .int .i64 a.rv] 103)).heap.size = W0.heap.size + 1 ∧ ((W0.alloc (.cells #[.int .i64 v.id, .int .i64 0, .int .i64 v.un, .int .i64 v.tg, .int .i64 a.rv] 103)).alloc (.cells #[.int .i64 0, .int .i64 0, .int .i64 0, .int .i64 0, .int .i64 0, .int .i64 0, .slice none 0 0] 55)).heap.size = W0.heap.size + 1 + 1 ∧ (((W0.alloc (.cells #[.int .i64 v.id, .int .i64 0, .int .i64 v.un, .int .i64 v.tg, .int .i64 a.rv] 103)).alloc (.cells #[.int .i64 0, .int .i64 0, .int .i64 0, .int .i64 0, .int .i64 0, .int .i64 0, .slice none 0 0] 55)).alloc (.cells #[.int .i64 0, .int .i64 0, .int .i64 0, .int .i64 0, .int .i64 0, .int .i64 0, .int .i64 0] 23)).heap.size = W0.heap.size + 1 + 1 + 1) := by refine ⟨?_, ?_, ?_⟩ <;> simp
  have Qa : Hid (Blk (((W0.alloc (.cells #[.int .i64 v.id, .int .i64 0, .int .i64 v.un, .int .i64 v.tg, .int .i64 a.rv] 103)).alloc (.cells #[.int .i64 0, .int .i64 0, .int .i64 0, .int .i64 0, .int .i64 0, .int .i64 0, .slice none 0 0] 55)).alloc (.cells #[.int .i64 0, .int .i64 0, .int .i64 0, .int .i64 0, .int .i64 0, .int .i64 0, .int .i64 0] 23)) (W0.heap.size + 1) #[.int .i64 0, .int .i64 0, .int .i64 0, .int .i64 0, .int .i64 0, .int .i64 0, .slice none 0 0] 55) := by have q := Ha7.out; rw [HS4.out.1] at q; exact q
  have Qb : Hid (Blk (((W0.alloc (.cells #[.int .i64 v.id, .int .i64 0, .int .i64 v.un, .int .i64 v.tg, .int .i64 a.rv] 103)).alloc (.cells #[.int .i64 0, .int .i64 0, .int .i64 0, .int .i64 0, .int .i64 0, .int .i64 0, .slice none 0 0] 55)).alloc (.cells #[.int .i64 0, .int .i64 0, .int .i64 0, .int .i64 0, .int .i64 0, .int .i64 0, .int .i64 0] 23)) (W0.heap.size + 1 + 1) #[.int .i64 0, .int .i64 0, .int .i64 0, .int .i64 0, .int .i64 0, .int .i64 0, .int .i64 0] 23) := by have q := Hb7.out; rw [HS4.out.2.1] at q; exact q
  have HS5 : Hid ((((W0.alloc (.cells #[.int .i64 v.id, .int .i64 0, .int .i64 v.un, .int .i64 v.tg, .int .i64 a.rv] 103)).alloc (.cells #[.int .i64 0, .int .i64 0, .int .i64 0, .int .i64 0, .int .i64 0, .int .i64 0, .slice none 0 0] 55)).alloc (.cells #[.int .i64 0, .int .i64 0, .int .i64 0, .int .i64 0, .int .i64 0, .int .i64 0, .int .i64 0] 23)).heap.size = W0.heap.size + 1 + 1 + 1) := HS4.out.2.2
  clear kx0 kx1 kx2 kx3 kx4 kx5 kx6 kx7 kv0 kv1 kv2 kv3 kv4 kv5 kv6 kv7 kv8 kv9 kv10 kv11 kv12
  generalize (((W0.alloc (.cells #[.int .i64 v.id, .int .i64 0, .int .i64 v.un, .int .i64 v.tg, .int .i64 a.rv] 103)).alloc (.cells #[.int .i64 0, .int .i64 0, .int .i64 0, .int .i64 0, .int .i64 0, .int .i64 0, .slice none 0 0] 55)).alloc (.cells #[.int .i64 0, .int .i64 0, .int .i64 0, .int .i64 0, .int .i64 0, .int .i64 0, .int .i64 0] 23)) = W1 at *
  generalize W0.heap.size = gs at *
  have kt0 : W1.cell? ⟨w.heap.size, 0, none⟩ = some (.slice pt lt ct) := Ht7.out.cell 0
  have kt1 : W1.cell? ⟨w.heap.size, 1, none⟩ = some (.int .i64 t.ff) := Ht7.out.cell 1
  have kt2 : W1.cell? ⟨w.heap.size, 2, none⟩ = some (.int .i64 t.fb) := Ht7.out.cell 2
  have kt3 : W1.cell? ⟨w.heap.size, 3, none⟩ = some (.int .i64 t.db) := Ht7.out.cell 3
  have kt4 : W1.cell? ⟨w.heap.size, 4, none⟩ = some (.int .i64 t.al) := Ht7.out.cell 4
  have kx0 : W1.cell? ⟨w.heap.size + 1, 0, none⟩ = some (.int .i64 a.me) := Hx7.out.cell 0
  have kx1 : W1.cell? ⟨w.heap.size + 1, 1, none⟩ = some (.int .i64 a.rv) := Hx7.out.cell 1
  have kx2 : W1.cell? ⟨w.heap.size + 1, 2, none⟩ = some (.int .i64 a.nx) := Hx7.out.cell 2
  have kx3 : W1.cell? ⟨w.heap.size + 1, 3, none⟩ = some (.int .i64 a.mo) := Hx7.out.cell 3
  have kx4 : W1.cell? ⟨w.heap.size + 1, 4, none⟩ = some (.int .i64 a.bo) := Hx7.out.cell 4
  have kx5 : W1.cell? ⟨w.heap.size + 1, 5, none⟩ = some (.int .i64 a.fr) := Hx7.out.cell 5
  have kx6 : W1.cell? ⟨w.heap.size + 1, 6, none⟩ = some (.slice dp dn dc) := Hx7.out.cell 6
  have kx7 : W1.cell? ⟨w.heap.size + 1, 7, none⟩ = some (.slice sp sn sc) := Hx7.out.cell 7
  have kv0 : W1.cell? ⟨w.heap.size + 1 + 1, 0, none⟩ = some (.int .i64 v.kd) := Hv7.out.cell 0
  have kv1 : W1.cell? ⟨w.heap.size + 1 + 1, 1, none⟩ = some (.int .i64 v.me) := Hv7.out.cell 1
  have kv2 : W1.cell? ⟨w.heap.size + 1 + 1, 2, none⟩ = some (.int .i64 v.mo) := Hv7.out.cell 2
  have kv3 : W1.cell? ⟨w.heap.size + 1 + 1, 3, none⟩ = some (.int .i64 v.id) := Hv7.out.cell 3
  have kv4 : W1.cell? ⟨w.heap.size + 1 + 1, 4, none⟩ = some (.int .i64 v.te) := Hv7.out.cell 4
  have kv5 : W1.cell? ⟨w.heap.size + 1 + 1, 5, none⟩ = some (.int .i64 v.de) := Hv7.out.cell 5
  have kv6 : W1.cell? ⟨w.heap.size + 1 + 1, 6, none⟩ = some (.int .i64 v.fe) := Hv7.out.cell 6
  have kv7 : W1.cell? ⟨w.heap.size + 1 + 1, 7, none⟩ = some (.int .i64 v.pr) := Hv7.out.cell 7
  have kv8 : W1.cell? ⟨w.heap.size + 1 + 1, 8, none⟩ = some (.int .i64 v.ch) := Hv7.out.cell 8
  have kv9 : W1.cell? ⟨w.heap.size + 1 + 1, 9, none⟩ = some (.int .i64 v.un) := Hv7.out.cell 9
  have kv10 : W1.cell? ⟨w.heap.size + 1 + 1, 10, none⟩ = some (.int .i64 v.tg) := Hv7.out.cell 10
  have kv11 : W1.cell? ⟨w.heap.size + 1 + 1, 11, none⟩ = some (.int .i64 v.ow) := Hv7.out.cell 11
  have kv12 : W1.cell? ⟨w.heap.size + 1 + 1, 12, none⟩ = some (.int .i64 v.bp) := Hv7.out.cell 12
  have HC1 : Hid (Calls Try.prog 56 #[.agg #[.int .i64 a.me, .int .i64 a.rv, .int .i64 a.nx, .int .i64 a.mo, .int .i64 a.bo, .int .i64 a.fr, .slice dp dn dc], .agg #[.slice pt lt ct, .int .i64 t.ff, .int .i64 t.fb, .int .i64 t.db, .int .i64 t.al], .int .i64 v.te, .int .i64 v.mo] W1 fun e w' => BPost W1 (SellIs a t v.te v.mo) e w') := HCA.out W1 HB7.out
  clear HCA
  go_wp2_with fail
  refine HC1.out.mono ?_
  rintro e w2 ⟨b, l, pb, lb, cb, f, rfl, hi, hf, hb2⟩
  have HI : Hid (SellIs a t v.te v.mo b l f) := hi
  have Ht8 : Hid (Blk w2 (w.heap.size) #[.slice pt lt ct, .int .i64 t.ff, .int .i64 t.fb, .int .i64 t.db, .int .i64 t.al] 40) := Ht7.out.next hb2
  have Hx8 : Hid (Blk w2 (w.heap.size + 1) #[.int .i64 a.me, .int .i64 a.rv, .int .i64 a.nx, .int .i64 a.mo, .int .i64 a.bo, .int .i64 a.fr, .slice dp dn dc, .slice sp sn sc] 58) := Hx7.out.next hb2
  have Hv8 : Hid (Blk w2 (w.heap.size + 1 + 1) #[.int .i64 v.kd, .int .i64 v.me, .int .i64 v.mo, .int .i64 v.id, .int .i64 v.te, .int .i64 v.de, .int .i64 v.fe, .int .i64 v.pr, .int .i64 v.ch, .int .i64 v.un, .int .i64 v.tg, .int .i64 v.ow, .int .i64 v.bp] 27) := Hv7.out.next hb2
  have Hr8 : Hid (Blk w2 (w.heap.size + 1 + 1 + 1) #[.int .i64 0, .int .i64 0, .int .i64 0, .int .i64 0, .int .i64 0, .int .i64 0, .slice none 0 0, .slice none 0 0] 58) := Hr7.out.next hb2
  have Hs8 : Hid (Blk w2 (gs) #[.int .i64 v.id, .int .i64 0, .int .i64 v.un, .int .i64 v.tg, .int .i64 a.rv] 103) := Hs7.out.next hb2
  have Ha8 : Hid (Blk w2 (gs + 1) #[.int .i64 0, .int .i64 0, .int .i64 0, .int .i64 0, .int .i64 0, .int .i64 0, .slice none 0 0] 55) := Qa.out.next hb2
  have Hb8 : Hid (Blk w2 (gs + 1 + 1) #[.int .i64 0, .int .i64 0, .int .i64 0, .int .i64 0, .int .i64 0, .int .i64 0, .int .i64 0] 23) := Qb.out.next hb2
  have HB8 : Hid (Below w.heap.size w w2) := HB7.out.trans (hb2.mono HB7.out.size)
  have HF2 : Hid (deb.Fresh w2 W1.heap.size pb lb cb b.ds) := hf
  have HW1 : Hid (W1.heap.size ≤ w2.heap.size) := hb2.size
  clear hb2 hf hi HC1 kt0 kt1 kt2 kt3 kt4 kx0 kx1 kx2 kx3 kx4 kx5 kx6 kx7 kv0 kv1 kv2 kv3 kv4 kv5 kv6 kv7 kv8 kv9 kv10 kv11 kv12
  unfold acc.Ac.v acc.Ac.cs acc.Bi.v
  have kt0 : w2.cell? ⟨w.heap.size, 0, none⟩ = some (.slice pt lt ct) := Ht8.out.cell 0
  have kt1 : w2.cell? ⟨w.heap.size, 1, none⟩ = some (.int .i64 t.ff) := Ht8.out.cell 1
  have kt2 : w2.cell? ⟨w.heap.size, 2, none⟩ = some (.int .i64 t.fb) := Ht8.out.cell 2
  have kt3 : w2.cell? ⟨w.heap.size, 3, none⟩ = some (.int .i64 t.db) := Ht8.out.cell 3
  have kt4 : w2.cell? ⟨w.heap.size, 4, none⟩ = some (.int .i64 t.al) := Ht8.out.cell 4
  have kx0 : w2.cell? ⟨w.heap.size + 1, 0, none⟩ = some (.int .i64 a.me) := Hx8.out.cell 0
  have kx1 : w2.cell? ⟨w.heap.size + 1, 1, none⟩ = some (.int .i64 a.rv) := Hx8.out.cell 1
  have kx2 : w2.cell? ⟨w.heap.size + 1, 2, none⟩ = some (.int .i64 a.nx) := Hx8.out.cell 2
  have kx3 : w2.cell? ⟨w.heap.size + 1, 3, none⟩ = some (.int .i64 a.mo) := Hx8.out.cell 3
  have kx4 : w2.cell? ⟨w.heap.size + 1, 4, none⟩ = some (.int .i64 a.bo) := Hx8.out.cell 4
  have kx5 : w2.cell? ⟨w.heap.size + 1, 5, none⟩ = some (.int .i64 a.fr) := Hx8.out.cell 5
  have kx6 : w2.cell? ⟨w.heap.size + 1, 6, none⟩ = some (.slice dp dn dc) := Hx8.out.cell 6
  have kx7 : w2.cell? ⟨w.heap.size + 1, 7, none⟩ = some (.slice sp sn sc) := Hx8.out.cell 7
  have kv0 : w2.cell? ⟨w.heap.size + 1 + 1, 0, none⟩ = some (.int .i64 v.kd) := Hv8.out.cell 0
  have kv1 : w2.cell? ⟨w.heap.size + 1 + 1, 1, none⟩ = some (.int .i64 v.me) := Hv8.out.cell 1
  have kv2 : w2.cell? ⟨w.heap.size + 1 + 1, 2, none⟩ = some (.int .i64 v.mo) := Hv8.out.cell 2
  have kv3 : w2.cell? ⟨w.heap.size + 1 + 1, 3, none⟩ = some (.int .i64 v.id) := Hv8.out.cell 3
  have kv4 : w2.cell? ⟨w.heap.size + 1 + 1, 4, none⟩ = some (.int .i64 v.te) := Hv8.out.cell 4
  have kv5 : w2.cell? ⟨w.heap.size + 1 + 1, 5, none⟩ = some (.int .i64 v.de) := Hv8.out.cell 5
  have kv6 : w2.cell? ⟨w.heap.size + 1 + 1, 6, none⟩ = some (.int .i64 v.fe) := Hv8.out.cell 6
  have kv7 : w2.cell? ⟨w.heap.size + 1 + 1, 7, none⟩ = some (.int .i64 v.pr) := Hv8.out.cell 7
  have kv8 : w2.cell? ⟨w.heap.size + 1 + 1, 8, none⟩ = some (.int .i64 v.ch) := Hv8.out.cell 8
  have kv9 : w2.cell? ⟨w.heap.size + 1 + 1, 9, none⟩ = some (.int .i64 v.un) := Hv8.out.cell 9
  have kv10 : w2.cell? ⟨w.heap.size + 1 + 1, 10, none⟩ = some (.int .i64 v.tg) := Hv8.out.cell 10
  have kv11 : w2.cell? ⟨w.heap.size + 1 + 1, 11, none⟩ = some (.int .i64 v.ow) := Hv8.out.cell 11
  have kv12 : w2.cell? ⟨w.heap.size + 1 + 1, 12, none⟩ = some (.int .i64 v.bp) := Hv8.out.cell 12
  have ks0 : w2.cell? ⟨gs, 0, none⟩ = some (.int .i64 v.id) := Hs8.out.cell 0
  have ks1 : w2.cell? ⟨gs, 1, none⟩ = some (.int .i64 0) := Hs8.out.cell 1
  have ks2 : w2.cell? ⟨gs, 2, none⟩ = some (.int .i64 v.un) := Hs8.out.cell 2
  have ks3 : w2.cell? ⟨gs, 3, none⟩ = some (.int .i64 v.tg) := Hs8.out.cell 3
  have ks4 : w2.cell? ⟨gs, 4, none⟩ = some (.int .i64 a.rv) := Hs8.out.cell 4
  go_wp2_with (first | (refine wp_letAll rfl 55 _ _ rfl (gs + 1) rfl #[.int .i64 b.me, .int .i64 b.rv, .int .i64 b.nx, .int .i64 b.mo, .int .i64 b.bo, .int .i64 b.fr, .slice pb lb cb] rfl (by kernel_rfl) (by simp [Value.oneCell']) #[.int .i64 0, .int .i64 0, .int .i64 0, .int .i64 0, .int .i64 0, .int .i64 0, .slice none 0 0] 55 Ha8.out rfl ?_) | fail)
  intro w3 hU
  have Ht9 : Hid (Blk w3 (w.heap.size) #[.slice pt lt ct, .int .i64 t.ff, .int .i64 t.fb, .int .i64 t.db, .int .i64 t.al] 40) := hU.keep Ht8.out (by have := HS0.out; omega)
  have Hx9 : Hid (Blk w3 (w.heap.size + 1) #[.int .i64 a.me, .int .i64 a.rv, .int .i64 a.nx, .int .i64 a.mo, .int .i64 a.bo, .int .i64 a.fr, .slice dp dn dc, .slice sp sn sc] 58) := hU.keep Hx8.out (by have := HS0.out; omega)
  have Hv9 : Hid (Blk w3 (w.heap.size + 1 + 1) #[.int .i64 v.kd, .int .i64 v.me, .int .i64 v.mo, .int .i64 v.id, .int .i64 v.te, .int .i64 v.de, .int .i64 v.fe, .int .i64 v.pr, .int .i64 v.ch, .int .i64 v.un, .int .i64 v.tg, .int .i64 v.ow, .int .i64 v.bp] 27) := hU.keep Hv8.out (by have := HS0.out; omega)
  have Hr9 : Hid (Blk w3 (w.heap.size + 1 + 1 + 1) #[.int .i64 0, .int .i64 0, .int .i64 0, .int .i64 0, .int .i64 0, .int .i64 0, .slice none 0 0, .slice none 0 0] 58) := hU.keep Hr8.out (by have := HS0.out; omega)
  have Hs9 : Hid (Blk w3 (gs) #[.int .i64 v.id, .int .i64 0, .int .i64 v.un, .int .i64 v.tg, .int .i64 a.rv] 103) := hU.keep Hs8.out (by have := HS0.out; omega)
  have Ha9 : Hid (Blk w3 (gs + 1) #[.int .i64 b.me, .int .i64 b.rv, .int .i64 b.nx, .int .i64 b.mo, .int .i64 b.bo, .int .i64 b.fr, .slice pb lb cb] 55) := hU.blk
  have Hb9 : Hid (Blk w3 (gs + 1 + 1) #[.int .i64 0, .int .i64 0, .int .i64 0, .int .i64 0, .int .i64 0, .int .i64 0, .int .i64 0] 23) := hU.keep Hb8.out (by have := HS0.out; omega)
  have HB9 : Hid (Below w.heap.size w w3) := hU.bel _ _ (by have := HS0.out; omega) HB8.out
  have HF3 : Hid (deb.Fresh w3 W1.heap.size pb lb cb b.ds) := ⟨acc_upd HF2.out.came hU (fun hn y hy q => by have h1 := HF2.out.new hn y hy; have h2 := HS5.out; omega), HF2.out.new⟩
  have HW3 : Hid (w2.heap.size = w3.heap.size) := hU.size.symm
  clear hU kt0 kt1 kt2 kt3 kt4 kx0 kx1 kx2 kx3 kx4 kx5 kx6 kx7 kv0 kv1 kv2 kv3 kv4 kv5 kv6 kv7 kv8 kv9 kv10 kv11 kv12 ks0 ks1 ks2 ks3 ks4
  have kt0 : w3.cell? ⟨w.heap.size, 0, none⟩ = some (.slice pt lt ct) := Ht9.out.cell 0
  have kt1 : w3.cell? ⟨w.heap.size, 1, none⟩ = some (.int .i64 t.ff) := Ht9.out.cell 1
  have kt2 : w3.cell? ⟨w.heap.size, 2, none⟩ = some (.int .i64 t.fb) := Ht9.out.cell 2
  have kt3 : w3.cell? ⟨w.heap.size, 3, none⟩ = some (.int .i64 t.db) := Ht9.out.cell 3
  have kt4 : w3.cell? ⟨w.heap.size, 4, none⟩ = some (.int .i64 t.al) := Ht9.out.cell 4
  have kx0 : w3.cell? ⟨w.heap.size + 1, 0, none⟩ = some (.int .i64 a.me) := Hx9.out.cell 0
  have kx1 : w3.cell? ⟨w.heap.size + 1, 1, none⟩ = some (.int .i64 a.rv) := Hx9.out.cell 1
  have kx2 : w3.cell? ⟨w.heap.size + 1, 2, none⟩ = some (.int .i64 a.nx) := Hx9.out.cell 2
  have kx3 : w3.cell? ⟨w.heap.size + 1, 3, none⟩ = some (.int .i64 a.mo) := Hx9.out.cell 3
  have kx4 : w3.cell? ⟨w.heap.size + 1, 4, none⟩ = some (.int .i64 a.bo) := Hx9.out.cell 4
  have kx5 : w3.cell? ⟨w.heap.size + 1, 5, none⟩ = some (.int .i64 a.fr) := Hx9.out.cell 5
  have kx6 : w3.cell? ⟨w.heap.size + 1, 6, none⟩ = some (.slice dp dn dc) := Hx9.out.cell 6
  have kx7 : w3.cell? ⟨w.heap.size + 1, 7, none⟩ = some (.slice sp sn sc) := Hx9.out.cell 7
  have kv0 : w3.cell? ⟨w.heap.size + 1 + 1, 0, none⟩ = some (.int .i64 v.kd) := Hv9.out.cell 0
  have kv1 : w3.cell? ⟨w.heap.size + 1 + 1, 1, none⟩ = some (.int .i64 v.me) := Hv9.out.cell 1
  have kv2 : w3.cell? ⟨w.heap.size + 1 + 1, 2, none⟩ = some (.int .i64 v.mo) := Hv9.out.cell 2
  have kv3 : w3.cell? ⟨w.heap.size + 1 + 1, 3, none⟩ = some (.int .i64 v.id) := Hv9.out.cell 3
  have kv4 : w3.cell? ⟨w.heap.size + 1 + 1, 4, none⟩ = some (.int .i64 v.te) := Hv9.out.cell 4
  have kv5 : w3.cell? ⟨w.heap.size + 1 + 1, 5, none⟩ = some (.int .i64 v.de) := Hv9.out.cell 5
  have kv6 : w3.cell? ⟨w.heap.size + 1 + 1, 6, none⟩ = some (.int .i64 v.fe) := Hv9.out.cell 6
  have kv7 : w3.cell? ⟨w.heap.size + 1 + 1, 7, none⟩ = some (.int .i64 v.pr) := Hv9.out.cell 7
  have kv8 : w3.cell? ⟨w.heap.size + 1 + 1, 8, none⟩ = some (.int .i64 v.ch) := Hv9.out.cell 8
  have kv9 : w3.cell? ⟨w.heap.size + 1 + 1, 9, none⟩ = some (.int .i64 v.un) := Hv9.out.cell 9
  have kv10 : w3.cell? ⟨w.heap.size + 1 + 1, 10, none⟩ = some (.int .i64 v.tg) := Hv9.out.cell 10
  have kv11 : w3.cell? ⟨w.heap.size + 1 + 1, 11, none⟩ = some (.int .i64 v.ow) := Hv9.out.cell 11
  have kv12 : w3.cell? ⟨w.heap.size + 1 + 1, 12, none⟩ = some (.int .i64 v.bp) := Hv9.out.cell 12
  have ks0 : w3.cell? ⟨gs, 0, none⟩ = some (.int .i64 v.id) := Hs9.out.cell 0
  have ks1 : w3.cell? ⟨gs, 1, none⟩ = some (.int .i64 0) := Hs9.out.cell 1
  have ks2 : w3.cell? ⟨gs, 2, none⟩ = some (.int .i64 v.un) := Hs9.out.cell 2
  have ks3 : w3.cell? ⟨gs, 3, none⟩ = some (.int .i64 v.tg) := Hs9.out.cell 3
  have ks4 : w3.cell? ⟨gs, 4, none⟩ = some (.int .i64 a.rv) := Hs9.out.cell 4
  go_wp2_with (first | (refine wp_letAll rfl 23 _ _ rfl (gs + 1 + 1) rfl #[.int .i64 l.id, .int .i64 l.te, .int .i64 l.de, .int .i64 l.fe, .int .i64 l.pr, .int .i64 l.ch, .int .i64 l.un] rfl (by kernel_rfl) (by simp [Value.oneCell']) #[.int .i64 0, .int .i64 0, .int .i64 0, .int .i64 0, .int .i64 0, .int .i64 0, .int .i64 0] 23 Hb9.out rfl ?_) | fail)
  intro w4 hU
  have Ht10 : Hid (Blk w4 (w.heap.size) #[.slice pt lt ct, .int .i64 t.ff, .int .i64 t.fb, .int .i64 t.db, .int .i64 t.al] 40) := hU.keep Ht9.out (by have := HS0.out; omega)
  have Hx10 : Hid (Blk w4 (w.heap.size + 1) #[.int .i64 a.me, .int .i64 a.rv, .int .i64 a.nx, .int .i64 a.mo, .int .i64 a.bo, .int .i64 a.fr, .slice dp dn dc, .slice sp sn sc] 58) := hU.keep Hx9.out (by have := HS0.out; omega)
  have Hv10 : Hid (Blk w4 (w.heap.size + 1 + 1) #[.int .i64 v.kd, .int .i64 v.me, .int .i64 v.mo, .int .i64 v.id, .int .i64 v.te, .int .i64 v.de, .int .i64 v.fe, .int .i64 v.pr, .int .i64 v.ch, .int .i64 v.un, .int .i64 v.tg, .int .i64 v.ow, .int .i64 v.bp] 27) := hU.keep Hv9.out (by have := HS0.out; omega)
  have Hr10 : Hid (Blk w4 (w.heap.size + 1 + 1 + 1) #[.int .i64 0, .int .i64 0, .int .i64 0, .int .i64 0, .int .i64 0, .int .i64 0, .slice none 0 0, .slice none 0 0] 58) := hU.keep Hr9.out (by have := HS0.out; omega)
  have Hs10 : Hid (Blk w4 (gs) #[.int .i64 v.id, .int .i64 0, .int .i64 v.un, .int .i64 v.tg, .int .i64 a.rv] 103) := hU.keep Hs9.out (by have := HS0.out; omega)
  have Ha10 : Hid (Blk w4 (gs + 1) #[.int .i64 b.me, .int .i64 b.rv, .int .i64 b.nx, .int .i64 b.mo, .int .i64 b.bo, .int .i64 b.fr, .slice pb lb cb] 55) := hU.keep Ha9.out (by have := HS0.out; omega)
  have Hb10 : Hid (Blk w4 (gs + 1 + 1) #[.int .i64 l.id, .int .i64 l.te, .int .i64 l.de, .int .i64 l.fe, .int .i64 l.pr, .int .i64 l.ch, .int .i64 l.un] 23) := hU.blk
  have HB10 : Hid (Below w.heap.size w w4) := hU.bel _ _ (by have := HS0.out; omega) HB9.out
  have HF4 : Hid (deb.Fresh w4 W1.heap.size pb lb cb b.ds) := ⟨acc_upd HF3.out.came hU (fun hn y hy q => by have h1 := HF3.out.new hn y hy; have h2 := HS5.out; omega), HF3.out.new⟩
  have HW4 : Hid (w3.heap.size = w4.heap.size) := hU.size.symm
  clear hU kt0 kt1 kt2 kt3 kt4 kx0 kx1 kx2 kx3 kx4 kx5 kx6 kx7 kv0 kv1 kv2 kv3 kv4 kv5 kv6 kv7 kv8 kv9 kv10 kv11 kv12 ks0 ks1 ks2 ks3 ks4
  have HW1w : Hid (w.heap.size ≤ W1.heap.size) := by have h1 := HS5.out; have h2 := HS0.out; show _ ≤ _; omega
  have HSZ : Hid (W1.heap.size ≤ w4.heap.size) := by show _ ≤ _; have := HW1.out; have := HW3.out; have := HW4.out; omega
  by_cases hfz : f = 0
  · have HFZ : Hid (f = 0) := hfz
    have nf : (f != 0) = false := by simpa using hfz
    clear hfz
    by_cases hlb : l = billOf v
    · have HLB : Hid (l = billOf v) := hlb
      have qe : ∀ wz : World, (Op.equalIn 10000 23 (.agg #[.int .i64 l.id, .int .i64 l.te, .int .i64 l.de, .int .i64 l.fe, .int .i64 l.pr, .int .i64 l.ch, .int .i64 l.un]) (.agg #[.int .i64 v.id, .int .i64 v.te, .int .i64 v.de, .int .i64 v.fe, .int .i64 v.pr, .int .i64 v.ch, .int .i64 v.un])).run Try.prog wz = .ok true wz := fun wz => by rw [hlb, show (10000 : Nat) = 9998 + 2 from rfl, eqBi]; unfold billOf; simp
      clear hlb
      have kt0 : w4.cell? ⟨w.heap.size, 0, none⟩ = some (.slice pt lt ct) := Ht10.out.cell 0
      have kt1 : w4.cell? ⟨w.heap.size, 1, none⟩ = some (.int .i64 t.ff) := Ht10.out.cell 1
      have kt2 : w4.cell? ⟨w.heap.size, 2, none⟩ = some (.int .i64 t.fb) := Ht10.out.cell 2
      have kt3 : w4.cell? ⟨w.heap.size, 3, none⟩ = some (.int .i64 t.db) := Ht10.out.cell 3
      have kt4 : w4.cell? ⟨w.heap.size, 4, none⟩ = some (.int .i64 t.al) := Ht10.out.cell 4
      have kx0 : w4.cell? ⟨w.heap.size + 1, 0, none⟩ = some (.int .i64 a.me) := Hx10.out.cell 0
      have kx1 : w4.cell? ⟨w.heap.size + 1, 1, none⟩ = some (.int .i64 a.rv) := Hx10.out.cell 1
      have kx2 : w4.cell? ⟨w.heap.size + 1, 2, none⟩ = some (.int .i64 a.nx) := Hx10.out.cell 2
      have kx3 : w4.cell? ⟨w.heap.size + 1, 3, none⟩ = some (.int .i64 a.mo) := Hx10.out.cell 3
      have kx4 : w4.cell? ⟨w.heap.size + 1, 4, none⟩ = some (.int .i64 a.bo) := Hx10.out.cell 4
      have kx5 : w4.cell? ⟨w.heap.size + 1, 5, none⟩ = some (.int .i64 a.fr) := Hx10.out.cell 5
      have kx6 : w4.cell? ⟨w.heap.size + 1, 6, none⟩ = some (.slice dp dn dc) := Hx10.out.cell 6
      have kx7 : w4.cell? ⟨w.heap.size + 1, 7, none⟩ = some (.slice sp sn sc) := Hx10.out.cell 7
      have kv0 : w4.cell? ⟨w.heap.size + 1 + 1, 0, none⟩ = some (.int .i64 v.kd) := Hv10.out.cell 0
      have kv1 : w4.cell? ⟨w.heap.size + 1 + 1, 1, none⟩ = some (.int .i64 v.me) := Hv10.out.cell 1
      have kv2 : w4.cell? ⟨w.heap.size + 1 + 1, 2, none⟩ = some (.int .i64 v.mo) := Hv10.out.cell 2
      have kv3 : w4.cell? ⟨w.heap.size + 1 + 1, 3, none⟩ = some (.int .i64 v.id) := Hv10.out.cell 3
      have kv4 : w4.cell? ⟨w.heap.size + 1 + 1, 4, none⟩ = some (.int .i64 v.te) := Hv10.out.cell 4
      have kv5 : w4.cell? ⟨w.heap.size + 1 + 1, 5, none⟩ = some (.int .i64 v.de) := Hv10.out.cell 5
      have kv6 : w4.cell? ⟨w.heap.size + 1 + 1, 6, none⟩ = some (.int .i64 v.fe) := Hv10.out.cell 6
      have kv7 : w4.cell? ⟨w.heap.size + 1 + 1, 7, none⟩ = some (.int .i64 v.pr) := Hv10.out.cell 7
      have kv8 : w4.cell? ⟨w.heap.size + 1 + 1, 8, none⟩ = some (.int .i64 v.ch) := Hv10.out.cell 8
      have kv9 : w4.cell? ⟨w.heap.size + 1 + 1, 9, none⟩ = some (.int .i64 v.un) := Hv10.out.cell 9
      have kv10 : w4.cell? ⟨w.heap.size + 1 + 1, 10, none⟩ = some (.int .i64 v.tg) := Hv10.out.cell 10
      have kv11 : w4.cell? ⟨w.heap.size + 1 + 1, 11, none⟩ = some (.int .i64 v.ow) := Hv10.out.cell 11
      have kv12 : w4.cell? ⟨w.heap.size + 1 + 1, 12, none⟩ = some (.int .i64 v.bp) := Hv10.out.cell 12
      have kb0 : w4.cell? ⟨gs + 1 + 1, 0, none⟩ = some (.int .i64 l.id) := Hb10.out.cell 0
      have kb1 : w4.cell? ⟨gs + 1 + 1, 1, none⟩ = some (.int .i64 l.te) := Hb10.out.cell 1
      have kb2 : w4.cell? ⟨gs + 1 + 1, 2, none⟩ = some (.int .i64 l.de) := Hb10.out.cell 2
      have kb3 : w4.cell? ⟨gs + 1 + 1, 3, none⟩ = some (.int .i64 l.fe) := Hb10.out.cell 3
      have kb4 : w4.cell? ⟨gs + 1 + 1, 4, none⟩ = some (.int .i64 l.pr) := Hb10.out.cell 4
      have kb5 : w4.cell? ⟨gs + 1 + 1, 5, none⟩ = some (.int .i64 l.ch) := Hb10.out.cell 5
      have kb6 : w4.cell? ⟨gs + 1 + 1, 6, none⟩ = some (.int .i64 l.un) := Hb10.out.cell 6
      go_upto_region 20 with fail
      clear kt0 kt1 kt2 kt3 kt4 kx0 kx1 kx2 kx3 kx4 kx5 kx6 kx7 kv0 kv1 kv2 kv3 kv4 kv5 kv6 kv7 kv8 kv9 kv10 kv11 kv12 kb0 kb1 kb2 kb3 kb4 kb5 kb6
      have HSD : Hid ((fun u : World => Blk u (gs + 1) #[.int .i64 b.me, .int .i64 b.rv, .int .i64 b.nx, .int .i64 b.mo, .int .i64 b.bo, .int .i64 b.fr, .slice pb lb cb] 55 ∧ Blk u (w.heap.size + 1) #[.int .i64 a.me, .int .i64 a.rv, .int .i64 a.nx, .int .i64 a.mo, .int .i64 a.bo, .int .i64 a.fr, .slice dp dn dc, .slice sp sn sc] 58 ∧ Blk u gs #[.int .i64 v.id, .int .i64 0, .int .i64 v.un, .int .i64 v.tg, .int .i64 a.rv] 103) w4.drew) := ⟨Ha10.out, Hx10.out, Hs10.out⟩
      refine wp_region_held_drew (S := (fun u : World => Blk u (gs + 1) #[.int .i64 b.me, .int .i64 b.rv, .int .i64 b.nx, .int .i64 b.mo, .int .i64 b.bo, .int .i64 b.fr, .slice pb lb cb] 55 ∧ Blk u (w.heap.size + 1) #[.int .i64 a.me, .int .i64 a.rv, .int .i64 a.nx, .int .i64 a.mo, .int .i64 a.bo, .int .i64 a.fr, .slice dp dn dc, .slice sp sn sc] 58 ∧ Blk u gs #[.int .i64 v.id, .int .i64 0, .int .i64 v.un, .int .i64 v.tg, .int .i64 a.rv] 103)) (by kernel_rfl) HSD.out (fun hHeld => ?_)
      refine take_at 0 96 (.agg #[.int .i64 b.me, .int .i64 b.rv, .int .i64 b.nx, .int .i64 b.mo, .int .i64 b.bo, .int .i64 b.fr, .slice pb lb cb]) _ rfl rfl (by kernel_rfl) (by kernel_rfl) (by kernel_rfl) (fun _ _ _ h => h) (yieldsIf_whole (by rfl) 55 _ rfl (gs + 1) rfl 55 #[.int .i64 b.me, .int .i64 b.rv, .int .i64 b.nx, .int .i64 b.mo, .int .i64 b.bo, .int .i64 b.fr, .slice pb lb cb] _ (fun u hu => hu.1) Try.underlying55 rfl (by kernel_rfl)) hHeld ?_
      simp only [Act.put, List.setIfInBounds_toArray, List.set_cons_zero, List.set_cons_succ]
      refine take_at 1 97 (.pointer (some ⟨w.heap.size + 1, 7, none⟩)) _ rfl rfl (by kernel_rfl) (by kernel_rfl) (by kernel_rfl) (fun _ _ _ h => h) (Or.inl ⟨by rfl, fun v hv => by skip; clear hv; go_simp⟩) hHeld ?_
      simp only [Act.put, List.setIfInBounds_toArray, List.set_cons_zero, List.set_cons_succ]
      refine take_at 2 98 (.slice sp sn sc) _ rfl rfl (by kernel_rfl) (by kernel_rfl) (by kernel_rfl) (fun _ _ _ h => h) (Or.inl ⟨by rfl, fun v hv => by have h2 := hv.2.1.cell 7; clear hv; go_simp⟩) hHeld ?_
      simp only [Act.put, List.setIfInBounds_toArray, List.set_cons_zero, List.set_cons_succ]
      refine take_at 3 99 (.agg #[.int .i64 v.id, .int .i64 0, .int .i64 v.un, .int .i64 v.tg, .int .i64 a.rv]) _ rfl rfl (by kernel_rfl) (by kernel_rfl) (by kernel_rfl) (fun _ _ _ h => h) (yieldsIf_whole (by rfl) 103 _ rfl (gs) rfl 103 #[.int .i64 v.id, .int .i64 0, .int .i64 v.un, .int .i64 v.tg, .int .i64 a.rv] _ (fun u hu => hu.2.2) Try.underlying103 rfl (by kernel_rfl)) hHeld ?_
      simp only [Act.put, List.setIfInBounds_toArray, List.set_cons_zero, List.set_cons_succ]
      have HA0 : Hid (Blk w4.drew (gs + 1) #[.int .i64 b.me, .int .i64 b.rv, .int .i64 b.nx, .int .i64 b.mo, .int .i64 b.bo, .int .i64 b.fr, .slice pb lb cb] 55 ∧ Blk w4.drew (w.heap.size + 1) #[.int .i64 a.me, .int .i64 a.rv, .int .i64 a.nx, .int .i64 a.mo, .int .i64 a.bo, .int .i64 a.fr, .slice dp dn dc, .slice sp sn sc] 58 ∧ Blk w4.drew gs #[.int .i64 v.id, .int .i64 0, .int .i64 v.un, .int .i64 v.tg, .int .i64 a.rv] 103) := HSD.out
      have HR0 : Hid (Blk w4.drew (w.heap.size + 1 + 1 + 1) #[.int .i64 0, .int .i64 0, .int .i64 0, .int .i64 0, .int .i64 0, .int .i64 0, .slice none 0 0, .slice none 0 0] 58) := Hr10.out
      have HB0d : Hid (Below w.heap.size w w4.drew) := HB10.out.drew
      have HF0 : Hid (deb.Fresh w4.drew W1.heap.size pb lb cb b.ds) := drew_fresh HF4.out
      have HSU : Hid (W1.heap.size ≤ w4.drew.heap.size) := HSZ.out
      have HL0 : Hid (Lo w4.drew base (.slice sp sn sc) sol) := HH.out.so.next HB0d.out
      clear HSD
      generalize w4.drew = U at *
      refine wpAnyH_ready (rs := [4]) (by kernel_rfl) (by simp) (AllReadyH.cons rfl (fun K hK => ?_) AllReadyH.nil)
      rw [if_pos (by rfl)]
      have HAA : Hid (Blk (U.alloc (.cells #[.int .i64 v.id, .int .i64 0, .int .i64 v.un, .int .i64 v.tg, .int .i64 a.rv] 103)) (gs + 1) #[.int .i64 b.me, .int .i64 b.rv, .int .i64 b.nx, .int .i64 b.mo, .int .i64 b.bo, .int .i64 b.fr, .slice pb lb cb] 55 ∧ Blk (U.alloc (.cells #[.int .i64 v.id, .int .i64 0, .int .i64 v.un, .int .i64 v.tg, .int .i64 a.rv] 103)) (w.heap.size + 1) #[.int .i64 a.me, .int .i64 a.rv, .int .i64 a.nx, .int .i64 a.mo, .int .i64 a.bo, .int .i64 a.fr, .slice dp dn dc, .slice sp sn sc] 58 ∧ Blk (U.alloc (.cells #[.int .i64 v.id, .int .i64 0, .int .i64 v.un, .int .i64 v.tg, .int .i64 a.rv] 103)) gs #[.int .i64 v.id, .int .i64 0, .int .i64 v.un, .int .i64 v.tg, .int .i64 a.rv] 103) := ⟨HA0.out.1.alloc _, HA0.out.2.1.alloc _, HA0.out.2.2.alloc _⟩
      have HRA : Hid (Blk (U.alloc (.cells #[.int .i64 v.id, .int .i64 0, .int .i64 v.un, .int .i64 v.tg, .int .i64 a.rv] 103)) (w.heap.size + 1 + 1 + 1) #[.int .i64 0, .int .i64 0, .int .i64 0, .int .i64 0, .int .i64 0, .int .i64 0, .slice none 0 0, .slice none 0 0] 58) := HR0.out.alloc _
      have HBA : Hid (Below w.heap.size w (U.alloc (.cells #[.int .i64 v.id, .int .i64 0, .int .i64 v.un, .int .i64 v.tg, .int .i64 a.rv] 103))) := HB0d.out.alloc HB0d.out.size _
      have HFA : Hid (deb.Fresh (U.alloc (.cells #[.int .i64 v.id, .int .i64 0, .int .i64 v.un, .int .i64 v.tg, .int .i64 a.rv] 103)) W1.heap.size pb lb cb b.ds) := HF0.out.below ((Below.refl _ _).alloc (Nat.le_refl _) _)
      have HLA : Hid (Lo (U.alloc (.cells #[.int .i64 v.id, .int .i64 0, .int .i64 v.un, .int .i64 v.tg, .int .i64 a.rv] 103)) base (.slice sp sn sc) sol) := HL0.out.alloc _
      have HNA : Hid (Blk (U.alloc (.cells #[.int .i64 v.id, .int .i64 0, .int .i64 v.un, .int .i64 v.tg, .int .i64 a.rv] 103)) U.heap.size #[.int .i64 v.id, .int .i64 0, .int .i64 v.un, .int .i64 v.tg, .int .i64 a.rv] 103) := Blk.new _ _ _
      have HSA : Hid (W1.heap.size ≤ (U.alloc (.cells #[.int .i64 v.id, .int .i64 0, .int .i64 v.un, .int .i64 v.tg, .int .i64 a.rv] 103)).heap.size) := cell.alloc_le HSU.out _
      refine wp_runOp (v := .slice (some ⟨U.heap.size, 0, none⟩) 1 1) (w' := (U.alloc (.cells #[.int .i64 v.id, .int .i64 0, .int .i64 v.un, .int .i64 v.tg, .int .i64 a.rv] 103))) 100 rfl (by clear hK; go_simp) ?_
      refine hK.out _ _ HAA.out (fun hHeld => ?_)
      clear hK HA0 HR0 HB0d HF0 HL0 HSU
      simp only [Act.put, List.setIfInBounds_toArray, List.set_cons_zero, List.set_cons_succ]
      generalize U.heap.size = gn at *
      generalize U.alloc _ = U2 at *
      refine wpAnyH_ready (rs := [5]) (by kernel_rfl) (by simp) (AllReadyH.cons rfl (fun K hK => ?_) AllReadyH.nil)
      rw [if_pos (by rfl)]
      have HRL : Hid (w.heap.size + 1 + 1 + 1 < U2.heap.size) := HRA.out.lt
      refine step_sold 101 rfl _ _ rfl base gn _ sol ⟨v.id, 0, v.un, v.tg, a.rv⟩ rfl rfl HLA.out HNA.out hsol (Nat.le_trans HBS.out HBA.out.size) ?_
      intro v3 w9 h3 hg3 ho3
      obtain ⟨p3, c3, rfl, _, _, _⟩ := h3.row
      have hown : ∀ g, w.heap.size ≤ g → some g ≠ (Value.slice sp sn sc).ownBlock := fun g hg q => by have := HOWN.out g q.symm; omega
      have hk9 : ∀ g cs ty, w.heap.size ≤ g → Blk U2 g cs ty → Blk w9 g cs ty := fun g cs ty hg hb => by show w9.heap[g]? = _; rw [hg3.block g hb.lt (hown g hg)]; exact hb
      have HA9 : Hid (Blk w9 (gs + 1) #[.int .i64 b.me, .int .i64 b.rv, .int .i64 b.nx, .int .i64 b.mo, .int .i64 b.bo, .int .i64 b.fr, .slice pb lb cb] 55 ∧ Blk w9 (w.heap.size + 1) #[.int .i64 a.me, .int .i64 a.rv, .int .i64 a.nx, .int .i64 a.mo, .int .i64 a.bo, .int .i64 a.fr, .slice dp dn dc, .slice sp sn sc] 58 ∧ Blk w9 gs #[.int .i64 v.id, .int .i64 0, .int .i64 v.un, .int .i64 v.tg, .int .i64 a.rv] 103) := ⟨hk9 _ _ _ (by have := HS0.out; omega) HAA.out.1, hk9 _ _ _ (by omega) HAA.out.2.1, hk9 _ _ _ (by have := HS0.out; omega) HAA.out.2.2⟩
      have HR9 : Hid (Blk w9 (w.heap.size + 1 + 1 + 1) #[.int .i64 0, .int .i64 0, .int .i64 0, .int .i64 0, .int .i64 0, .int .i64 0, .slice none 0 0, .slice none 0 0] 58) := hk9 _ _ _ (by omega) HRA.out
      have HG9 : Hid (w.grownBy w9 (Value.slice sp sn sc).ownBlock) := (grown_of HBA.out _).trans hg3
      have HF9 : Hid (tar.Came w9 pb lb cb b.ds) := came_grown HFA.out.came hg3 (fun hn y hy => hown _ (Nat.le_trans HW1w.out (HFA.out.new hn y hy)))
      have HFN : Hid (0 < lb → ∀ y, pb = some y → W1.heap.size ≤ y.block ∧ y.block < U2.heap.size) := fun hn y hy => ⟨HFA.out.new hn y hy, by obtain ⟨bb, oo, e, lbb, _⟩ := HFA.out.came.row.at hn; rw [hy] at e; rw [Option.some.inj e]; exact lbb⟩
      have HL9 : Hid (Lo w9 base (.slice p3 (sol ++ [(⟨v.id, 0, v.un, v.tg, a.rv⟩ : So)]).length c3) (sol ++ [⟨v.id, 0, v.un, v.tg, a.rv⟩])) := h3
      have HO9 : Hid ((Value.slice p3 (sol ++ [(⟨v.id, 0, v.un, v.tg, a.rv⟩ : So)]).length c3).ownBlock = (Value.slice sp sn sc).ownBlock ∨ (Value.slice p3 (sol ++ [(⟨v.id, 0, v.un, v.tg, a.rv⟩ : So)]).length c3).ownBlock = some U2.heap.size) := ho3
      have HU2 : Hid (w.heap.size ≤ U2.heap.size) := HBA.out.size
      refine hK.out _ _ HA9.out (fun hHeld => ?_)
      clear hK h3 hg3 ho3 hown hk9 HAA HRA HBA HFA HLA HNA HSA
      simp only [Act.put, List.setIfInBounds_toArray, List.set_cons_zero, List.set_cons_succ]
      generalize (sol ++ [(⟨v.id, 0, v.un, v.tg, a.rv⟩ : So)]).length = n3 at *
      refine take_at 6 102 (.agg #[.int .i64 b.me, .int .i64 b.rv, .int .i64 b.nx, .int .i64 b.mo, .int .i64 b.bo, .int .i64 b.fr, .slice pb lb cb, .slice p3 n3 c3]) _ rfl rfl (by kernel_rfl) (by kernel_rfl) (by kernel_rfl) (fun _ _ _ h => h) (Or.inl ⟨by rfl, fun v hv => by skip; clear hv; go_simp⟩) hHeld ?_
      simp only [Act.put, List.setIfInBounds_toArray, List.set_cons_zero, List.set_cons_succ]
      refine wpAnyH_ready (rs := [7]) (by kernel_rfl) (by simp) (AllReadyH.cons rfl (fun K hK => ?_) AllReadyH.nil)
      rw [if_pos (by rfl)]
      refine wp_letOp 58 _ _ rfl (w.heap.size + 1 + 1 + 1) rfl #[.int .i64 b.me, .int .i64 b.rv, .int .i64 b.nx, .int .i64 b.mo, .int .i64 b.bo, .int .i64 b.fr, .slice pb lb cb, .slice p3 n3 c3] rfl (by kernel_rfl) (by simp [Value.oneCell']) #[.int .i64 0, .int .i64 0, .int .i64 0, .int .i64 0, .int .i64 0, .int .i64 0, .slice none 0 0, .slice none 0 0] 58 HR9.out rfl rfl ?_
      intro WF hU
      have HRF : Hid (Blk WF (w.heap.size + 1 + 1 + 1) #[.int .i64 b.me, .int .i64 b.rv, .int .i64 b.nx, .int .i64 b.mo, .int .i64 b.bo, .int .i64 b.fr, .slice pb lb cb, .slice p3 n3 c3] 58) := hU.blk
      have HUF : Hid (Upd w9 WF (w.heap.size + 1 + 1 + 1) #[.int .i64 b.me, .int .i64 b.rv, .int .i64 b.nx, .int .i64 b.mo, .int .i64 b.bo, .int .i64 b.fr, .slice pb lb cb, .slice p3 n3 c3] 58) := hU
      have HAF : Hid (Blk WF (gs + 1) #[.int .i64 b.me, .int .i64 b.rv, .int .i64 b.nx, .int .i64 b.mo, .int .i64 b.bo, .int .i64 b.fr, .slice pb lb cb] 55 ∧ Blk WF (w.heap.size + 1) #[.int .i64 a.me, .int .i64 a.rv, .int .i64 a.nx, .int .i64 a.mo, .int .i64 a.bo, .int .i64 a.fr, .slice dp dn dc, .slice sp sn sc] 58 ∧ Blk WF gs #[.int .i64 v.id, .int .i64 0, .int .i64 v.un, .int .i64 v.tg, .int .i64 a.rv] 103) := ⟨hU.keep HA9.out.1 (by have := HS0.out; omega), hU.keep HA9.out.2.1 (by omega), hU.keep HA9.out.2.2 (by have := HS0.out; omega)⟩
      refine hK.out _ _ HAF.out (fun hHeld => ?_)
      clear hK hU HA9 HR9
      refine take_at 8 7 (.int .i64 0) _ rfl rfl (by kernel_rfl) (by kernel_rfl) (by kernel_rfl) (fun _ _ _ h => h) (Or.inl ⟨by rfl, fun v hv => by skip; clear hv; go_simp⟩) hHeld ?_
      simp only [Act.put, List.setIfInBounds_toArray, List.set_cons_zero, List.set_cons_succ]
      refine wpAnyH_done (by kernel_rfl) ?_ _
      clear hHeld
      have R0 : Hid (WF.cell? ⟨w.heap.size + 1 + 1 + 1, 0, none⟩ = some (.int .i64 b.me)) := HRF.out.cell 0
      have R1 : Hid (WF.cell? ⟨w.heap.size + 1 + 1 + 1, 1, none⟩ = some (.int .i64 b.rv)) := HRF.out.cell 1
      have R2 : Hid (WF.cell? ⟨w.heap.size + 1 + 1 + 1, 2, none⟩ = some (.int .i64 b.nx)) := HRF.out.cell 2
      have R3 : Hid (WF.cell? ⟨w.heap.size + 1 + 1 + 1, 3, none⟩ = some (.int .i64 b.mo)) := HRF.out.cell 3
      have R4 : Hid (WF.cell? ⟨w.heap.size + 1 + 1 + 1, 4, none⟩ = some (.int .i64 b.bo)) := HRF.out.cell 4
      have R5 : Hid (WF.cell? ⟨w.heap.size + 1 + 1 + 1, 5, none⟩ = some (.int .i64 b.fr)) := HRF.out.cell 5
      have R6 : Hid (WF.cell? ⟨w.heap.size + 1 + 1 + 1, 6, none⟩ = some (.slice pb lb cb)) := HRF.out.cell 6
      have R7 : Hid (WF.cell? ⟨w.heap.size + 1 + 1 + 1, 7, none⟩ = some (.slice p3 n3 c3)) := HRF.out.cell 7
      have HFIN : Hid (HapPost w base t (cuA a dp dn dc sp sn sc) ⟨a, sol⟩ v (.returned (.tuple #[.agg #[.int .i64 b.me, .int .i64 b.rv, .int .i64 b.nx, .int .i64 b.mo, .int .i64 b.bo, .int .i64 b.fr, .slice pb lb cb, .slice p3 n3 c3], .int .i64 0])) WF) := by
        have hgf : w.grownBy WF (Value.slice sp sn sc).ownBlock := grown_upd HG9.out HUF.out (by omega)
        have hso : soldOf ⟨a, sol⟩ v = ⟨v.id, 0, v.un, v.tg, a.rv⟩ := by unfold soldOf; rw [if_neg (by rw [HKD.out]; decide)]
        refine ⟨cuA b pb lb cb p3 n3 c3, ⟨b, sol ++ [soldOf ⟨a, sol⟩ v]⟩, 0, rfl, .inr ⟨HK5.out, b, l, f, .inl ⟨HKD.out, HI.out⟩, .inr (.inr ⟨HFZ.out, HLB.out, rfl, rfl⟩)⟩, fun _ => ?_, hgf⟩
        rw [hso]
        refine ⟨hgf, ⟨cuA_num _ _ _ _ _ _ _, ⟨acc_upd HF9.out HUF.out (fun hn y hy q => by have h1 := (HFN.out hn y hy).1; have h2 := HS5.out; have h3 := HS0.out; omega), fun hn y hy => by have h1 := (HFN.out hn y hy).1; have h2 := HW1w.out; have h3 := HBS.out; omega⟩, lo_upd HL9.out HUF.out (fun g hg q => ?_)⟩, fun g hg => ?_, fun hn y hy => Nat.le_trans HW1w.out (HFN.out hn y hy).1, fun g hg hn y hy q => ?_⟩
        · have h0 : (Value.slice p3 n3 c3).ownBlock = some g := hg
          rcases HO9.out with e | e
          · rw [e] at h0; have := HOWN.out g h0; omega
          · rw [e] at h0; have h1 := Option.some.inj h0; have h2 := HRL.out; omega
        · rcases HO9.out with e | e
          · exact .inl (e.symm.trans hg)
          · refine .inr ?_
            have h0 : (Value.slice p3 n3 c3).ownBlock = some g := hg
            rw [e] at h0
            have h1 := Option.some.inj h0
            have h2 := HU2.out
            omega
        · have h0 : (Value.slice p3 n3 c3).ownBlock = some g := hg
          have h1 := HFN.out hn y hy
          rcases HO9.out with e | e
          · rw [e] at h0; have h2 := HOWN.out g h0; have h3 := HW1w.out; omega
          · rw [e] at h0; have h2 := Option.some.inj h0; omega
      go_wp2_with fail
      exact bodyPost_ret (v := .tuple #[.agg #[.int .i64 b.me, .int .i64 b.rv, .int .i64 b.nx, .int .i64 b.mo, .int .i64 b.bo, .int .i64 b.fr, .slice pb lb cb, .slice p3 n3 c3], .int .i64 0]) (by simp [results, Try.results38, R0.out, R1.out, R2.out, R3.out, R4.out, R5.out, R6.out, R7.out, go_sem]) rfl HFIN.out
    · have HLB : Hid (l ≠ billOf v) := hlb
      have qe : ∀ wz : World, (Op.equalIn 10000 23 (.agg #[.int .i64 l.id, .int .i64 l.te, .int .i64 l.de, .int .i64 l.fe, .int .i64 l.pr, .int .i64 l.ch, .int .i64 l.un]) (.agg #[.int .i64 v.id, .int .i64 v.te, .int .i64 v.de, .int .i64 v.fe, .int .i64 v.pr, .int .i64 v.ch, .int .i64 v.un])).run Try.prog wz = .ok false wz := fun wz => by rw [show (10000 : Nat) = 9998 + 2 from rfl, eqBi]; exact congrArg (fun q => Result.ok q wz) (decide_eq_false (bill_ne hlb))
      clear hlb
      have HNZ : Hid (¬ (8 : Int) = 0) := by show ¬ (8 : Int) = 0; decide
      have kt0 : w4.cell? ⟨w.heap.size, 0, none⟩ = some (.slice pt lt ct) := Ht10.out.cell 0
      have kt1 : w4.cell? ⟨w.heap.size, 1, none⟩ = some (.int .i64 t.ff) := Ht10.out.cell 1
      have kt2 : w4.cell? ⟨w.heap.size, 2, none⟩ = some (.int .i64 t.fb) := Ht10.out.cell 2
      have kt3 : w4.cell? ⟨w.heap.size, 3, none⟩ = some (.int .i64 t.db) := Ht10.out.cell 3
      have kt4 : w4.cell? ⟨w.heap.size, 4, none⟩ = some (.int .i64 t.al) := Ht10.out.cell 4
      have kx0 : w4.cell? ⟨w.heap.size + 1, 0, none⟩ = some (.int .i64 a.me) := Hx10.out.cell 0
      have kx1 : w4.cell? ⟨w.heap.size + 1, 1, none⟩ = some (.int .i64 a.rv) := Hx10.out.cell 1
      have kx2 : w4.cell? ⟨w.heap.size + 1, 2, none⟩ = some (.int .i64 a.nx) := Hx10.out.cell 2
      have kx3 : w4.cell? ⟨w.heap.size + 1, 3, none⟩ = some (.int .i64 a.mo) := Hx10.out.cell 3
      have kx4 : w4.cell? ⟨w.heap.size + 1, 4, none⟩ = some (.int .i64 a.bo) := Hx10.out.cell 4
      have kx5 : w4.cell? ⟨w.heap.size + 1, 5, none⟩ = some (.int .i64 a.fr) := Hx10.out.cell 5
      have kx6 : w4.cell? ⟨w.heap.size + 1, 6, none⟩ = some (.slice dp dn dc) := Hx10.out.cell 6
      have kx7 : w4.cell? ⟨w.heap.size + 1, 7, none⟩ = some (.slice sp sn sc) := Hx10.out.cell 7
      have kv0 : w4.cell? ⟨w.heap.size + 1 + 1, 0, none⟩ = some (.int .i64 v.kd) := Hv10.out.cell 0
      have kv1 : w4.cell? ⟨w.heap.size + 1 + 1, 1, none⟩ = some (.int .i64 v.me) := Hv10.out.cell 1
      have kv2 : w4.cell? ⟨w.heap.size + 1 + 1, 2, none⟩ = some (.int .i64 v.mo) := Hv10.out.cell 2
      have kv3 : w4.cell? ⟨w.heap.size + 1 + 1, 3, none⟩ = some (.int .i64 v.id) := Hv10.out.cell 3
      have kv4 : w4.cell? ⟨w.heap.size + 1 + 1, 4, none⟩ = some (.int .i64 v.te) := Hv10.out.cell 4
      have kv5 : w4.cell? ⟨w.heap.size + 1 + 1, 5, none⟩ = some (.int .i64 v.de) := Hv10.out.cell 5
      have kv6 : w4.cell? ⟨w.heap.size + 1 + 1, 6, none⟩ = some (.int .i64 v.fe) := Hv10.out.cell 6
      have kv7 : w4.cell? ⟨w.heap.size + 1 + 1, 7, none⟩ = some (.int .i64 v.pr) := Hv10.out.cell 7
      have kv8 : w4.cell? ⟨w.heap.size + 1 + 1, 8, none⟩ = some (.int .i64 v.ch) := Hv10.out.cell 8
      have kv9 : w4.cell? ⟨w.heap.size + 1 + 1, 9, none⟩ = some (.int .i64 v.un) := Hv10.out.cell 9
      have kv10 : w4.cell? ⟨w.heap.size + 1 + 1, 10, none⟩ = some (.int .i64 v.tg) := Hv10.out.cell 10
      have kv11 : w4.cell? ⟨w.heap.size + 1 + 1, 11, none⟩ = some (.int .i64 v.ow) := Hv10.out.cell 11
      have kv12 : w4.cell? ⟨w.heap.size + 1 + 1, 12, none⟩ = some (.int .i64 v.bp) := Hv10.out.cell 12
      have ks0 : w4.cell? ⟨gs, 0, none⟩ = some (.int .i64 v.id) := Hs10.out.cell 0
      have ks1 : w4.cell? ⟨gs, 1, none⟩ = some (.int .i64 0) := Hs10.out.cell 1
      have ks2 : w4.cell? ⟨gs, 2, none⟩ = some (.int .i64 v.un) := Hs10.out.cell 2
      have ks3 : w4.cell? ⟨gs, 3, none⟩ = some (.int .i64 v.tg) := Hs10.out.cell 3
      have ks4 : w4.cell? ⟨gs, 4, none⟩ = some (.int .i64 a.rv) := Hs10.out.cell 4
      have kb0 : w4.cell? ⟨gs + 1 + 1, 0, none⟩ = some (.int .i64 l.id) := Hb10.out.cell 0
      have kb1 : w4.cell? ⟨gs + 1 + 1, 1, none⟩ = some (.int .i64 l.te) := Hb10.out.cell 1
      have kb2 : w4.cell? ⟨gs + 1 + 1, 2, none⟩ = some (.int .i64 l.de) := Hb10.out.cell 2
      have kb3 : w4.cell? ⟨gs + 1 + 1, 3, none⟩ = some (.int .i64 l.fe) := Hb10.out.cell 3
      have kb4 : w4.cell? ⟨gs + 1 + 1, 4, none⟩ = some (.int .i64 l.pr) := Hb10.out.cell 4
      have kb5 : w4.cell? ⟨gs + 1 + 1, 5, none⟩ = some (.int .i64 l.ch) := Hb10.out.cell 5
      have kb6 : w4.cell? ⟨gs + 1 + 1, 6, none⟩ = some (.int .i64 l.un) := Hb10.out.cell 6
      go_wp2_with (first | (refine wp_letAll rfl 58 _ _ rfl (w.heap.size + 1 + 1 + 1) rfl #[.int .i64 0, .int .i64 0, .int .i64 0, .int .i64 0, .int .i64 0, .int .i64 0, .slice none 0 0, .slice none 0 0] rfl (by kernel_rfl) (by simp [Value.oneCell']) #[.int .i64 0, .int .i64 0, .int .i64 0, .int .i64 0, .int .i64 0, .int .i64 0, .slice none 0 0, .slice none 0 0] 58 Hr10.out rfl ?_) | fail)
      intro WF hU
      have HRF : Hid (Blk WF (w.heap.size + 1 + 1 + 1) #[.int .i64 0, .int .i64 0, .int .i64 0, .int .i64 0, .int .i64 0, .int .i64 0, .slice none 0 0, .slice none 0 0] 58) := hU.blk
      have HBF : Hid (Below w.heap.size w WF) := hU.bel _ _ (by omega) HB10.out
      clear hU kt0 kt1 kt2 kt3 kt4 kx0 kx1 kx2 kx3 kx4 kx5 kx6 kx7 kv0 kv1 kv2 kv3 kv4 kv5 kv6 kv7 kv8 kv9 kv10 kv11 kv12 ks0 ks1 ks2 ks3 ks4 kb0 kb1 kb2 kb3 kb4 kb5 kb6
      have R0 : Hid (WF.cell? ⟨w.heap.size + 1 + 1 + 1, 0, none⟩ = some (.int .i64 0)) := HRF.out.cell 0
      have R1 : Hid (WF.cell? ⟨w.heap.size + 1 + 1 + 1, 1, none⟩ = some (.int .i64 0)) := HRF.out.cell 1
      have R2 : Hid (WF.cell? ⟨w.heap.size + 1 + 1 + 1, 2, none⟩ = some (.int .i64 0)) := HRF.out.cell 2
      have R3 : Hid (WF.cell? ⟨w.heap.size + 1 + 1 + 1, 3, none⟩ = some (.int .i64 0)) := HRF.out.cell 3
      have R4 : Hid (WF.cell? ⟨w.heap.size + 1 + 1 + 1, 4, none⟩ = some (.int .i64 0)) := HRF.out.cell 4
      have R5 : Hid (WF.cell? ⟨w.heap.size + 1 + 1 + 1, 5, none⟩ = some (.int .i64 0)) := HRF.out.cell 5
      have R6 : Hid (WF.cell? ⟨w.heap.size + 1 + 1 + 1, 6, none⟩ = some (.slice none 0 0)) := HRF.out.cell 6
      have R7 : Hid (WF.cell? ⟨w.heap.size + 1 + 1 + 1, 7, none⟩ = some (.slice none 0 0)) := HRF.out.cell 7
      have HFIN : Hid (HapPost w base t (cuA a dp dn dc sp sn sc) ⟨a, sol⟩ v (.returned (.tuple #[.agg #[.int .i64 0, .int .i64 0, .int .i64 0, .int .i64 0, .int .i64 0, .int .i64 0, .slice none 0 0, .slice none 0 0], .int .i64 8])) WF) := ⟨cu0, cm0, 8, rfl, .inr ⟨HK5.out, b, l, f, .inl ⟨HKD.out, HI.out⟩, .inr (.inl ⟨HFZ.out, HLB.out, rfl⟩)⟩, fun h => absurd h HNZ.out, grown_of HBF.out _⟩
      go_wp2_with fail
      exact bodyPost_ret (v := .tuple #[.agg #[.int .i64 0, .int .i64 0, .int .i64 0, .int .i64 0, .int .i64 0, .int .i64 0, .slice none 0 0, .slice none 0 0], .int .i64 8]) (by simp [results, Try.results38, R0.out, R1.out, R2.out, R3.out, R4.out, R5.out, R6.out, R7.out, go_sem]) rfl HFIN.out
  · have HNZ : Hid (¬ f = 0) := hfz
    have nf : (f != 0) = true := by simpa using hfz
    clear hfz
    have kt0 : w4.cell? ⟨w.heap.size, 0, none⟩ = some (.slice pt lt ct) := Ht10.out.cell 0
    have kt1 : w4.cell? ⟨w.heap.size, 1, none⟩ = some (.int .i64 t.ff) := Ht10.out.cell 1
    have kt2 : w4.cell? ⟨w.heap.size, 2, none⟩ = some (.int .i64 t.fb) := Ht10.out.cell 2
    have kt3 : w4.cell? ⟨w.heap.size, 3, none⟩ = some (.int .i64 t.db) := Ht10.out.cell 3
    have kt4 : w4.cell? ⟨w.heap.size, 4, none⟩ = some (.int .i64 t.al) := Ht10.out.cell 4
    have kx0 : w4.cell? ⟨w.heap.size + 1, 0, none⟩ = some (.int .i64 a.me) := Hx10.out.cell 0
    have kx1 : w4.cell? ⟨w.heap.size + 1, 1, none⟩ = some (.int .i64 a.rv) := Hx10.out.cell 1
    have kx2 : w4.cell? ⟨w.heap.size + 1, 2, none⟩ = some (.int .i64 a.nx) := Hx10.out.cell 2
    have kx3 : w4.cell? ⟨w.heap.size + 1, 3, none⟩ = some (.int .i64 a.mo) := Hx10.out.cell 3
    have kx4 : w4.cell? ⟨w.heap.size + 1, 4, none⟩ = some (.int .i64 a.bo) := Hx10.out.cell 4
    have kx5 : w4.cell? ⟨w.heap.size + 1, 5, none⟩ = some (.int .i64 a.fr) := Hx10.out.cell 5
    have kx6 : w4.cell? ⟨w.heap.size + 1, 6, none⟩ = some (.slice dp dn dc) := Hx10.out.cell 6
    have kx7 : w4.cell? ⟨w.heap.size + 1, 7, none⟩ = some (.slice sp sn sc) := Hx10.out.cell 7
    have kv0 : w4.cell? ⟨w.heap.size + 1 + 1, 0, none⟩ = some (.int .i64 v.kd) := Hv10.out.cell 0
    have kv1 : w4.cell? ⟨w.heap.size + 1 + 1, 1, none⟩ = some (.int .i64 v.me) := Hv10.out.cell 1
    have kv2 : w4.cell? ⟨w.heap.size + 1 + 1, 2, none⟩ = some (.int .i64 v.mo) := Hv10.out.cell 2
    have kv3 : w4.cell? ⟨w.heap.size + 1 + 1, 3, none⟩ = some (.int .i64 v.id) := Hv10.out.cell 3
    have kv4 : w4.cell? ⟨w.heap.size + 1 + 1, 4, none⟩ = some (.int .i64 v.te) := Hv10.out.cell 4
    have kv5 : w4.cell? ⟨w.heap.size + 1 + 1, 5, none⟩ = some (.int .i64 v.de) := Hv10.out.cell 5
    have kv6 : w4.cell? ⟨w.heap.size + 1 + 1, 6, none⟩ = some (.int .i64 v.fe) := Hv10.out.cell 6
    have kv7 : w4.cell? ⟨w.heap.size + 1 + 1, 7, none⟩ = some (.int .i64 v.pr) := Hv10.out.cell 7
    have kv8 : w4.cell? ⟨w.heap.size + 1 + 1, 8, none⟩ = some (.int .i64 v.ch) := Hv10.out.cell 8
    have kv9 : w4.cell? ⟨w.heap.size + 1 + 1, 9, none⟩ = some (.int .i64 v.un) := Hv10.out.cell 9
    have kv10 : w4.cell? ⟨w.heap.size + 1 + 1, 10, none⟩ = some (.int .i64 v.tg) := Hv10.out.cell 10
    have kv11 : w4.cell? ⟨w.heap.size + 1 + 1, 11, none⟩ = some (.int .i64 v.ow) := Hv10.out.cell 11
    have kv12 : w4.cell? ⟨w.heap.size + 1 + 1, 12, none⟩ = some (.int .i64 v.bp) := Hv10.out.cell 12
    have ks0 : w4.cell? ⟨gs, 0, none⟩ = some (.int .i64 v.id) := Hs10.out.cell 0
    have ks1 : w4.cell? ⟨gs, 1, none⟩ = some (.int .i64 0) := Hs10.out.cell 1
    have ks2 : w4.cell? ⟨gs, 2, none⟩ = some (.int .i64 v.un) := Hs10.out.cell 2
    have ks3 : w4.cell? ⟨gs, 3, none⟩ = some (.int .i64 v.tg) := Hs10.out.cell 3
    have ks4 : w4.cell? ⟨gs, 4, none⟩ = some (.int .i64 a.rv) := Hs10.out.cell 4
    have kb0 : w4.cell? ⟨gs + 1 + 1, 0, none⟩ = some (.int .i64 l.id) := Hb10.out.cell 0
    have kb1 : w4.cell? ⟨gs + 1 + 1, 1, none⟩ = some (.int .i64 l.te) := Hb10.out.cell 1
    have kb2 : w4.cell? ⟨gs + 1 + 1, 2, none⟩ = some (.int .i64 l.de) := Hb10.out.cell 2
    have kb3 : w4.cell? ⟨gs + 1 + 1, 3, none⟩ = some (.int .i64 l.fe) := Hb10.out.cell 3
    have kb4 : w4.cell? ⟨gs + 1 + 1, 4, none⟩ = some (.int .i64 l.pr) := Hb10.out.cell 4
    have kb5 : w4.cell? ⟨gs + 1 + 1, 5, none⟩ = some (.int .i64 l.ch) := Hb10.out.cell 5
    have kb6 : w4.cell? ⟨gs + 1 + 1, 6, none⟩ = some (.int .i64 l.un) := Hb10.out.cell 6
    go_wp2_with (first | (refine wp_letAll rfl 58 _ _ rfl (w.heap.size + 1 + 1 + 1) rfl #[.int .i64 0, .int .i64 0, .int .i64 0, .int .i64 0, .int .i64 0, .int .i64 0, .slice none 0 0, .slice none 0 0] rfl (by kernel_rfl) (by simp [Value.oneCell']) #[.int .i64 0, .int .i64 0, .int .i64 0, .int .i64 0, .int .i64 0, .int .i64 0, .slice none 0 0, .slice none 0 0] 58 Hr10.out rfl ?_) | fail)
    intro WF hU
    have HRF : Hid (Blk WF (w.heap.size + 1 + 1 + 1) #[.int .i64 0, .int .i64 0, .int .i64 0, .int .i64 0, .int .i64 0, .int .i64 0, .slice none 0 0, .slice none 0 0] 58) := hU.blk
    have HBF : Hid (Below w.heap.size w WF) := hU.bel _ _ (by omega) HB10.out
    clear hU kt0 kt1 kt2 kt3 kt4 kx0 kx1 kx2 kx3 kx4 kx5 kx6 kx7 kv0 kv1 kv2 kv3 kv4 kv5 kv6 kv7 kv8 kv9 kv10 kv11 kv12 ks0 ks1 ks2 ks3 ks4 kb0 kb1 kb2 kb3 kb4 kb5 kb6
    have R0 : Hid (WF.cell? ⟨w.heap.size + 1 + 1 + 1, 0, none⟩ = some (.int .i64 0)) := HRF.out.cell 0
    have R1 : Hid (WF.cell? ⟨w.heap.size + 1 + 1 + 1, 1, none⟩ = some (.int .i64 0)) := HRF.out.cell 1
    have R2 : Hid (WF.cell? ⟨w.heap.size + 1 + 1 + 1, 2, none⟩ = some (.int .i64 0)) := HRF.out.cell 2
    have R3 : Hid (WF.cell? ⟨w.heap.size + 1 + 1 + 1, 3, none⟩ = some (.int .i64 0)) := HRF.out.cell 3
    have R4 : Hid (WF.cell? ⟨w.heap.size + 1 + 1 + 1, 4, none⟩ = some (.int .i64 0)) := HRF.out.cell 4
    have R5 : Hid (WF.cell? ⟨w.heap.size + 1 + 1 + 1, 5, none⟩ = some (.int .i64 0)) := HRF.out.cell 5
    have R6 : Hid (WF.cell? ⟨w.heap.size + 1 + 1 + 1, 6, none⟩ = some (.slice none 0 0)) := HRF.out.cell 6
    have R7 : Hid (WF.cell? ⟨w.heap.size + 1 + 1 + 1, 7, none⟩ = some (.slice none 0 0)) := HRF.out.cell 7
    have HFIN : Hid (HapPost w base t (cuA a dp dn dc sp sn sc) ⟨a, sol⟩ v (.returned (.tuple #[.agg #[.int .i64 0, .int .i64 0, .int .i64 0, .int .i64 0, .int .i64 0, .int .i64 0, .slice none 0 0, .slice none 0 0], .int .i64 f])) WF) := ⟨cu0, cm0, f, rfl, .inr ⟨HK5.out, b, l, f, .inl ⟨HKD.out, HI.out⟩, .inl ⟨HNZ.out, rfl⟩⟩, fun h => absurd h HNZ.out, grown_of HBF.out _⟩
    go_wp2_with fail
    exact bodyPost_ret (v := .tuple #[.agg #[.int .i64 0, .int .i64 0, .int .i64 0, .int .i64 0, .int .i64 0, .int .i64 0, .slice none 0 0, .slice none 0 0], .int .i64 f]) (by simp [results, Try.results38, R0.out, R1.out, R2.out, R3.out, R4.out, R5.out, R6.out, R7.out, go_sem]) rfl HFIN.out

end Go.Proofs.Ytfhlokjpdkmdjaa.book

/- An allowance, as the document has it. -/
namespace Go.Proofs.Ytfhlokjpdkmdjaa.acc
open Go.Proofs.Ytfhlokjpdkmdjaa.tar (Du du0 Came RowD Ld PairT)
open Go.RowKit
set_option maxRecDepth 100000
set_option linter.unusedVariables false
set_option linter.unusedSimpArgs false

set_option maxHeartbeats 16000000 in
theorem rgranted (x : Ac) (p : Option Addr) (len cap : Nat) (t : Tm) (pt : Option Addr) (lt ct : Nat) (m : Int) (w : World) (h : RowD w p len x.ds) (hl : len ≤ maxLen) (ht : RowD w pt lt t.ts) (htl : lt ≤ maxLen) : Calls Try.prog 57 #[.agg #[.int .i64 x.me, .int .i64 x.rv, .int .i64 x.nx, .int .i64 x.mo, .int .i64 x.bo, .int .i64 x.fr, .slice p len cap], .agg #[.slice pt lt ct, .int .i64 t.ff, .int .i64 t.fb, .int .i64 t.db, .int .i64 t.al], .int .i64 m] w fun e w' => BPost w (GrantIs x t m) e w' := by
  by_cases hm : AMay x
  · have HM : Hid (AMay x) := hm
    have hnx := hm.2.2.2.1
    have hmo := hm.2.2.2.2.1
    have H0d : Hid (Blk ((((w.alloc (.cells #[.int .i64 x.me, .int .i64 x.rv, .int .i64 x.nx, .int .i64 x.mo, .int .i64 x.bo, .int .i64 x.fr, .slice p len cap] 55)).alloc (.cells #[.slice pt lt ct, .int .i64 t.ff, .int .i64 t.fb, .int .i64 t.db, .int .i64 t.al] 40)).alloc (.cells #[.int .i64 0, .int .i64 0, .int .i64 0, .int .i64 0, .int .i64 0, .int .i64 0, .slice none 0 0] 55)).alloc (.cells #[.int .i64 0, .int .i64 0, .int .i64 0, .int .i64 0, .int .i64 0, .int .i64 0, .int .i64 0] 23)) (w.heap.size) #[.int .i64 x.me, .int .i64 x.rv, .int .i64 x.nx, .int .i64 x.mo, .int .i64 x.bo, .int .i64 x.fr, .slice p len cap] 55) := (((Blk.new w _ _).alloc _).alloc _).alloc _
    have H0t : Hid (Blk ((((w.alloc (.cells #[.int .i64 x.me, .int .i64 x.rv, .int .i64 x.nx, .int .i64 x.mo, .int .i64 x.bo, .int .i64 x.fr, .slice p len cap] 55)).alloc (.cells #[.slice pt lt ct, .int .i64 t.ff, .int .i64 t.fb, .int .i64 t.db, .int .i64 t.al] 40)).alloc (.cells #[.int .i64 0, .int .i64 0, .int .i64 0, .int .i64 0, .int .i64 0, .int .i64 0, .slice none 0 0] 55)).alloc (.cells #[.int .i64 0, .int .i64 0, .int .i64 0, .int .i64 0, .int .i64 0, .int .i64 0, .int .i64 0] 23)) (w.heap.size + 1) #[.slice pt lt ct, .int .i64 t.ff, .int .i64 t.fb, .int .i64 t.db, .int .i64 t.al] 40) := ((Blk.new1 w _ _ _).alloc _).alloc _
    have H0r : Hid (Blk ((((w.alloc (.cells #[.int .i64 x.me, .int .i64 x.rv, .int .i64 x.nx, .int .i64 x.mo, .int .i64 x.bo, .int .i64 x.fr, .slice p len cap] 55)).alloc (.cells #[.slice pt lt ct, .int .i64 t.ff, .int .i64 t.fb, .int .i64 t.db, .int .i64 t.al] 40)).alloc (.cells #[.int .i64 0, .int .i64 0, .int .i64 0, .int .i64 0, .int .i64 0, .int .i64 0, .slice none 0 0] 55)).alloc (.cells #[.int .i64 0, .int .i64 0, .int .i64 0, .int .i64 0, .int .i64 0, .int .i64 0, .int .i64 0] 23)) (w.heap.size + 1 + 1) #[.int .i64 0, .int .i64 0, .int .i64 0, .int .i64 0, .int .i64 0, .int .i64 0, .slice none 0 0] 55) := (Blk.new2 w _ _ _ _).alloc _
    have H0l : Hid (Blk ((((w.alloc (.cells #[.int .i64 x.me, .int .i64 x.rv, .int .i64 x.nx, .int .i64 x.mo, .int .i64 x.bo, .int .i64 x.fr, .slice p len cap] 55)).alloc (.cells #[.slice pt lt ct, .int .i64 t.ff, .int .i64 t.fb, .int .i64 t.db, .int .i64 t.al] 40)).alloc (.cells #[.int .i64 0, .int .i64 0, .int .i64 0, .int .i64 0, .int .i64 0, .int .i64 0, .slice none 0 0] 55)).alloc (.cells #[.int .i64 0, .int .i64 0, .int .i64 0, .int .i64 0, .int .i64 0, .int .i64 0, .int .i64 0] 23)) (w.heap.size + 1 + 1 + 1) #[.int .i64 0, .int .i64 0, .int .i64 0, .int .i64 0, .int .i64 0, .int .i64 0, .int .i64 0] 23) := Blk.new3 w _ _ _ _ _
    have H0B : Hid (Below w.heap.size w ((((w.alloc (.cells #[.int .i64 x.me, .int .i64 x.rv, .int .i64 x.nx, .int .i64 x.mo, .int .i64 x.bo, .int .i64 x.fr, .slice p len cap] 55)).alloc (.cells #[.slice pt lt ct, .int .i64 t.ff, .int .i64 t.fb, .int .i64 t.db, .int .i64 t.al] 40)).alloc (.cells #[.int .i64 0, .int .i64 0, .int .i64 0, .int .i64 0, .int .i64 0, .int .i64 0, .slice none 0 0] 55)).alloc (.cells #[.int .i64 0, .int .i64 0, .int .i64 0, .int .i64 0, .int .i64 0, .int .i64 0, .int .i64 0] 23))) := ((((Below.refl w.heap.size w).alloc (by simp) _).alloc (by simp) _).alloc (by simp; omega) _).alloc (by simp; omega) _
    have H0R : Hid (RowD ((((w.alloc (.cells #[.int .i64 x.me, .int .i64 x.rv, .int .i64 x.nx, .int .i64 x.mo, .int .i64 x.bo, .int .i64 x.fr, .slice p len cap] 55)).alloc (.cells #[.slice pt lt ct, .int .i64 t.ff, .int .i64 t.fb, .int .i64 t.db, .int .i64 t.al] 40)).alloc (.cells #[.int .i64 0, .int .i64 0, .int .i64 0, .int .i64 0, .int .i64 0, .int .i64 0, .slice none 0 0] 55)).alloc (.cells #[.int .i64 0, .int .i64 0, .int .i64 0, .int .i64 0, .int .i64 0, .int .i64 0, .int .i64 0] 23)) p len x.ds) := h.below H0B.out
    have H0T : Hid (RowD ((((w.alloc (.cells #[.int .i64 x.me, .int .i64 x.rv, .int .i64 x.nx, .int .i64 x.mo, .int .i64 x.bo, .int .i64 x.fr, .slice p len cap] 55)).alloc (.cells #[.slice pt lt ct, .int .i64 t.ff, .int .i64 t.fb, .int .i64 t.db, .int .i64 t.al] 40)).alloc (.cells #[.int .i64 0, .int .i64 0, .int .i64 0, .int .i64 0, .int .i64 0, .int .i64 0, .slice none 0 0] 55)).alloc (.cells #[.int .i64 0, .int .i64 0, .int .i64 0, .int .i64 0, .int .i64 0, .int .i64 0, .int .i64 0] 23)) pt lt t.ts) := ht.below H0B.out
    have hs0 : w.heap.size + 1 + 1 + 1 < ((((w.alloc (.cells #[.int .i64 x.me, .int .i64 x.rv, .int .i64 x.nx, .int .i64 x.mo, .int .i64 x.bo, .int .i64 x.fr, .slice p len cap] 55)).alloc (.cells #[.slice pt lt ct, .int .i64 t.ff, .int .i64 t.fb, .int .i64 t.db, .int .i64 t.al] 40)).alloc (.cells #[.int .i64 0, .int .i64 0, .int .i64 0, .int .i64 0, .int .i64 0, .int .i64 0, .slice none 0 0] 55)).alloc (.cells #[.int .i64 0, .int .i64 0, .int .i64 0, .int .i64 0, .int .i64 0, .int .i64 0, .int .i64 0] 23)).heap.size := H0l.out.lt
    generalize hWW : ((((w.alloc (.cells #[.int .i64 x.me, .int .i64 x.rv, .int .i64 x.nx, .int .i64 x.mo, .int .i64 x.bo, .int .i64 x.fr, .slice p len cap] 55)).alloc (.cells #[.slice pt lt ct, .int .i64 t.ff, .int .i64 t.fb, .int .i64 t.db, .int .i64 t.al] 40)).alloc (.cells #[.int .i64 0, .int .i64 0, .int .i64 0, .int .i64 0, .int .i64 0, .int .i64 0, .slice none 0 0] 55)).alloc (.cells #[.int .i64 0, .int .i64 0, .int .i64 0, .int .i64 0, .int .i64 0, .int .i64 0, .int .i64 0] 23)) = W0 at *
    have HWW : Hid (((((w.alloc (.cells #[.int .i64 x.me, .int .i64 x.rv, .int .i64 x.nx, .int .i64 x.mo, .int .i64 x.bo, .int .i64 x.fr, .slice p len cap] 55)).alloc (.cells #[.slice pt lt ct, .int .i64 t.ff, .int .i64 t.fb, .int .i64 t.db, .int .i64 t.al] 40)).alloc (.cells #[.int .i64 0, .int .i64 0, .int .i64 0, .int .i64 0, .int .i64 0, .int .i64 0, .slice none 0 0] 55)).alloc (.cells #[.int .i64 0, .int .i64 0, .int .i64 0, .int .i64 0, .int .i64 0, .int .i64 0, .int .i64 0] 23)) = W0) := hWW
    clear hWW
    go_enter Try.func57, Try.ntmps57
    go_upto_region 1 with fail
    rw [HWW.out]
    clear HWW
    have HAM : Hid (Calls Try.prog 68 #[.agg #[.int .i64 x.me, .int .i64 x.rv, .int .i64 x.nx, .int .i64 x.mo, .int .i64 x.bo, .int .i64 x.fr, .slice p len cap]] W0 fun e w' => e = .returned (.bool true) ∧ Below W0.heap.size W0 w') := ramay x p len cap _ H0R.out hl hm
    go_wp2_with (first
      | (refine wp_whole rfl 55 _ rfl (w.heap.size) rfl 55 #[.int .i64 x.me, .int .i64 x.rv, .int .i64 x.nx, .int .i64 x.mo, .int .i64 x.bo, .int .i64 x.fr, .slice p len cap] _ H0d.out Try.underlying55 rfl (by kernel_rfl) ?_)
      | (refine wp_whole rfl 40 _ rfl (w.heap.size + 1) rfl 40 #[.slice pt lt ct, .int .i64 t.ff, .int .i64 t.fb, .int .i64 t.db, .int .i64 t.al] _ H0t.out Try.underlying40 rfl (by kernel_rfl) ?_)
      | (refine wp_whole rfl 55 _ rfl (w.heap.size + 1 + 1) rfl 55 #[.int .i64 0, .int .i64 0, .int .i64 0, .int .i64 0, .int .i64 0, .int .i64 0, .slice none 0 0] _ H0r.out Try.underlying55 rfl (by kernel_rfl) ?_)
      | (refine wp_whole rfl 23 _ rfl (w.heap.size + 1 + 1 + 1) rfl 23 #[.int .i64 0, .int .i64 0, .int .i64 0, .int .i64 0, .int .i64 0, .int .i64 0, .int .i64 0] _ H0l.out Try.underlying23 rfl (by kernel_rfl) ?_)
      | fail)
    refine HAM.out.mono ?_
    rintro e w1 ⟨rfl, hb1⟩
    have H1d : Hid (Blk w1 (w.heap.size) #[.int .i64 x.me, .int .i64 x.rv, .int .i64 x.nx, .int .i64 x.mo, .int .i64 x.bo, .int .i64 x.fr, .slice p len cap] 55) := H0d.out.next hb1
    have H1t : Hid (Blk w1 (w.heap.size + 1) #[.slice pt lt ct, .int .i64 t.ff, .int .i64 t.fb, .int .i64 t.db, .int .i64 t.al] 40) := H0t.out.next hb1
    have H1r : Hid (Blk w1 (w.heap.size + 1 + 1) #[.int .i64 0, .int .i64 0, .int .i64 0, .int .i64 0, .int .i64 0, .int .i64 0, .slice none 0 0] 55) := H0r.out.next hb1
    have H1l : Hid (Blk w1 (w.heap.size + 1 + 1 + 1) #[.int .i64 0, .int .i64 0, .int .i64 0, .int .i64 0, .int .i64 0, .int .i64 0, .int .i64 0] 23) := H0l.out.next hb1
    have H1R : Hid (RowD w1 p len x.ds) := H0R.out.below hb1
    have H1T : Hid (RowD w1 pt lt t.ts) := H0T.out.below hb1
    have H1B : Hid (Below w.heap.size w w1) := H0B.out.trans (hb1.mono H0B.out.size)
    have hsw1 : W0.heap.size ≤ w1.heap.size := hb1.size
    clear hb1 H0d H0t H0r H0l H0R H0T H0B
    clear HAM
    clear hm
    have HTF : Hid (Calls Try.prog 36 #[.agg #[.slice pt lt ct, .int .i64 t.ff, .int .i64 t.fb, .int .i64 t.db, .int .i64 t.al]] w1 fun e w' => tar.ErrPost w1 (TFault t) e w') := rterms t pt lt ct w1 H1T.out htl
    go_wp2_with (first
      | (refine wp_whole rfl 55 _ rfl (w.heap.size) rfl 55 #[.int .i64 x.me, .int .i64 x.rv, .int .i64 x.nx, .int .i64 x.mo, .int .i64 x.bo, .int .i64 x.fr, .slice p len cap] _ H1d.out Try.underlying55 rfl (by kernel_rfl) ?_)
      | (refine wp_whole rfl 40 _ rfl (w.heap.size + 1) rfl 40 #[.slice pt lt ct, .int .i64 t.ff, .int .i64 t.fb, .int .i64 t.db, .int .i64 t.al] _ H1t.out Try.underlying40 rfl (by kernel_rfl) ?_)
      | (refine wp_whole rfl 55 _ rfl (w.heap.size + 1 + 1) rfl 55 #[.int .i64 0, .int .i64 0, .int .i64 0, .int .i64 0, .int .i64 0, .int .i64 0, .slice none 0 0] _ H1r.out Try.underlying55 rfl (by kernel_rfl) ?_)
      | (refine wp_whole rfl 23 _ rfl (w.heap.size + 1 + 1 + 1) rfl 23 #[.int .i64 0, .int .i64 0, .int .i64 0, .int .i64 0, .int .i64 0, .int .i64 0, .int .i64 0] _ H1l.out Try.underlying23 rfl (by kernel_rfl) ?_)
      | fail)
    refine HTF.out.mono ?_
    rintro e w2 ⟨ft, rfl, hft, hb2⟩
    have H2d : Hid (Blk w2 (w.heap.size) #[.int .i64 x.me, .int .i64 x.rv, .int .i64 x.nx, .int .i64 x.mo, .int .i64 x.bo, .int .i64 x.fr, .slice p len cap] 55) := H1d.out.next hb2
    have H2t : Hid (Blk w2 (w.heap.size + 1) #[.slice pt lt ct, .int .i64 t.ff, .int .i64 t.fb, .int .i64 t.db, .int .i64 t.al] 40) := H1t.out.next hb2
    have H2r : Hid (Blk w2 (w.heap.size + 1 + 1) #[.int .i64 0, .int .i64 0, .int .i64 0, .int .i64 0, .int .i64 0, .int .i64 0, .slice none 0 0] 55) := H1r.out.next hb2
    have H2l : Hid (Blk w2 (w.heap.size + 1 + 1 + 1) #[.int .i64 0, .int .i64 0, .int .i64 0, .int .i64 0, .int .i64 0, .int .i64 0, .int .i64 0] 23) := H1l.out.next hb2
    have H2R : Hid (RowD w2 p len x.ds) := H1R.out.below hb2
    have H2T : Hid (RowD w2 pt lt t.ts) := H1T.out.below hb2
    have H2B : Hid (Below w.heap.size w w2) := H1B.out.trans (hb2.mono H1B.out.size)
    have hsw2 : w1.heap.size ≤ w2.heap.size := hb2.size
    clear hb2 H1d H1t H1r H1l H1R H1T H1B
    clear HTF
    by_cases h0 : ft = 0
    · subst h0
      have HT : Hid (TRight t) := hft.ok.1 rfl
      clear hft
      have HRO : Hid (Calls Try.prog 70 #[.agg #[.int .i64 x.me, .int .i64 x.rv, .int .i64 x.nx, .int .i64 x.mo, .int .i64 x.bo, .int .i64 x.fr, .slice p len cap], .int .i64 m] w2 fun e w' => APost w2 (RollIs x m) e w') := rrolled x p len cap m w2 H2R.out hl
      go_wp2_with (first
        | (refine wp_whole rfl 55 _ rfl (w.heap.size) rfl 55 #[.int .i64 x.me, .int .i64 x.rv, .int .i64 x.nx, .int .i64 x.mo, .int .i64 x.bo, .int .i64 x.fr, .slice p len cap] _ H2d.out Try.underlying55 rfl (by kernel_rfl) ?_)
        | (refine wp_whole rfl 40 _ rfl (w.heap.size + 1) rfl 40 #[.slice pt lt ct, .int .i64 t.ff, .int .i64 t.fb, .int .i64 t.db, .int .i64 t.al] _ H2t.out Try.underlying40 rfl (by kernel_rfl) ?_)
        | (refine wp_whole rfl 55 _ rfl (w.heap.size + 1 + 1) rfl 55 #[.int .i64 0, .int .i64 0, .int .i64 0, .int .i64 0, .int .i64 0, .int .i64 0, .slice none 0 0] _ H2r.out Try.underlying55 rfl (by kernel_rfl) ?_)
        | (refine wp_whole rfl 23 _ rfl (w.heap.size + 1 + 1 + 1) rfl 23 #[.int .i64 0, .int .i64 0, .int .i64 0, .int .i64 0, .int .i64 0, .int .i64 0, .int .i64 0] _ H2l.out Try.underlying23 rfl (by kernel_rfl) ?_)
        | fail)
      refine HRO.out.mono ?_
      rintro e w3 ⟨b, pr, lr, cr, fr, rfl, hi3, hf3, hb3⟩
      have H3d : Hid (Blk w3 (w.heap.size) #[.int .i64 x.me, .int .i64 x.rv, .int .i64 x.nx, .int .i64 x.mo, .int .i64 x.bo, .int .i64 x.fr, .slice p len cap] 55) := H2d.out.next hb3
      have H3t : Hid (Blk w3 (w.heap.size + 1) #[.slice pt lt ct, .int .i64 t.ff, .int .i64 t.fb, .int .i64 t.db, .int .i64 t.al] 40) := H2t.out.next hb3
      have H3r : Hid (Blk w3 (w.heap.size + 1 + 1) #[.int .i64 0, .int .i64 0, .int .i64 0, .int .i64 0, .int .i64 0, .int .i64 0, .slice none 0 0] 55) := H2r.out.next hb3
      have H3l : Hid (Blk w3 (w.heap.size + 1 + 1 + 1) #[.int .i64 0, .int .i64 0, .int .i64 0, .int .i64 0, .int .i64 0, .int .i64 0, .int .i64 0] 23) := H2l.out.next hb3
      have H3R : Hid (RowD w3 p len x.ds) := H2R.out.below hb3
      have H3T : Hid (RowD w3 pt lt t.ts) := H2T.out.below hb3
      have H3B : Hid (Below w.heap.size w w3) := H2B.out.trans (hb3.mono H2B.out.size)
      have hsw3 : w2.heap.size ≤ w3.heap.size := hb3.size
      clear hb3 H2d H2t H2r H2l H2R H2T H2B
      unfold Ac.v Ac.cs
      clear HRO
      have H4F : Hid (deb.Fresh w3 w2.heap.size pr lr cr b.ds) := hf3
      have HUPF : Hid (0 < lr → ∀ y, pr = some y → y.block < w3.heap.size) := came_lt H4F.out.came
      clear hf3
      by_cases h4 : fr = 0
      · subst h4
        have hrm : RMay x m ∧ b = rolled x m := by
          rcases hi3 with ⟨q, _⟩ | ⟨_, _, q, _⟩ | ⟨_, q, r, _⟩
          · exact absurd HM.out q
          · exact absurd rfl q.ne
          · exact ⟨q, r⟩
        have HRY : Hid (Ready x t m) := ⟨HM.out, HT.out, hrm.1⟩
        have HBR : Hid (b = rolled x m) := hrm.2
        have hbs := rolled_same x m
        rw [← hrm.2] at hbs
        have hbo := (rolled_may HM.out hrm.1).2.2.2.2.2.1
        rw [← hrm.2] at hbo
        have HBS : Hid (b.me = x.me ∧ b.rv = x.rv ∧ b.nx = x.nx ∧ b.mo = m ∧ b.fr = x.fr) := hbs
        clear hrm hi3 hbs
        have H5d : Hid (Blk (w3.alloc (.cells #[.int .i64 b.me, .int .i64 b.rv, .int .i64 b.nx, .int .i64 b.mo, .int .i64 b.bo, .int .i64 b.fr, .slice pr lr cr] 55)) (w.heap.size) #[.int .i64 x.me, .int .i64 x.rv, .int .i64 x.nx, .int .i64 x.mo, .int .i64 x.bo, .int .i64 x.fr, .slice p len cap] 55) := H3d.out.alloc _
        have H5t : Hid (Blk (w3.alloc (.cells #[.int .i64 b.me, .int .i64 b.rv, .int .i64 b.nx, .int .i64 b.mo, .int .i64 b.bo, .int .i64 b.fr, .slice pr lr cr] 55)) (w.heap.size + 1) #[.slice pt lt ct, .int .i64 t.ff, .int .i64 t.fb, .int .i64 t.db, .int .i64 t.al] 40) := H3t.out.alloc _
        have H5r : Hid (Blk (w3.alloc (.cells #[.int .i64 b.me, .int .i64 b.rv, .int .i64 b.nx, .int .i64 b.mo, .int .i64 b.bo, .int .i64 b.fr, .slice pr lr cr] 55)) (w.heap.size + 1 + 1) #[.int .i64 0, .int .i64 0, .int .i64 0, .int .i64 0, .int .i64 0, .int .i64 0, .slice none 0 0] 55) := H3r.out.alloc _
        have H5l : Hid (Blk (w3.alloc (.cells #[.int .i64 b.me, .int .i64 b.rv, .int .i64 b.nx, .int .i64 b.mo, .int .i64 b.bo, .int .i64 b.fr, .slice pr lr cr] 55)) (w.heap.size + 1 + 1 + 1) #[.int .i64 0, .int .i64 0, .int .i64 0, .int .i64 0, .int .i64 0, .int .i64 0, .int .i64 0] 23) := H3l.out.alloc _
        have H5R : Hid (RowD (w3.alloc (.cells #[.int .i64 b.me, .int .i64 b.rv, .int .i64 b.nx, .int .i64 b.mo, .int .i64 b.bo, .int .i64 b.fr, .slice pr lr cr] 55)) p len x.ds) := H3R.out.below ((Below.refl w3.heap.size w3).alloc (Nat.le_refl _) _)
        have H5T : Hid (RowD (w3.alloc (.cells #[.int .i64 b.me, .int .i64 b.rv, .int .i64 b.nx, .int .i64 b.mo, .int .i64 b.bo, .int .i64 b.fr, .slice pr lr cr] 55)) pt lt t.ts) := H3T.out.below ((Below.refl w3.heap.size w3).alloc (Nat.le_refl _) _)
        have H5F : Hid (deb.Fresh (w3.alloc (.cells #[.int .i64 b.me, .int .i64 b.rv, .int .i64 b.nx, .int .i64 b.mo, .int .i64 b.bo, .int .i64 b.fr, .slice pr lr cr] 55)) w2.heap.size pr lr cr b.ds) := H4F.out.below ((Below.refl w3.heap.size w3).alloc (Nat.le_refl _) _)
        have H5n : Hid (Blk (w3.alloc (.cells #[.int .i64 b.me, .int .i64 b.rv, .int .i64 b.nx, .int .i64 b.mo, .int .i64 b.bo, .int .i64 b.fr, .slice pr lr cr] 55)) w3.heap.size #[.int .i64 b.me, .int .i64 b.rv, .int .i64 b.nx, .int .i64 b.mo, .int .i64 b.bo, .int .i64 b.fr, .slice pr lr cr] 55) := Blk.new w3 _ _
        have H5B : Hid (Below w.heap.size w (w3.alloc (.cells #[.int .i64 b.me, .int .i64 b.rv, .int .i64 b.nx, .int .i64 b.mo, .int .i64 b.bo, .int .i64 b.fr, .slice pr lr cr] 55))) := H3B.out.alloc H3B.out.size _
        have hsW4 : w3.heap.size < (w3.alloc (.cells #[.int .i64 b.me, .int .i64 b.rv, .int .i64 b.nx, .int .i64 b.mo, .int .i64 b.bo, .int .i64 b.fr, .slice pr lr cr] 55)).heap.size := (Blk.new w3 #[.int .i64 b.me, .int .i64 b.rv, .int .i64 b.nx, .int .i64 b.mo, .int .i64 b.bo, .int .i64 b.fr, .slice pr lr cr] 55).lt
        clear H3d H3t H3r H3l H3R H3T H4F H3B
        go_upto_region 7 with fail
        generalize (w3.alloc (.cells #[.int .i64 b.me, .int .i64 b.rv, .int .i64 b.nx, .int .i64 b.mo, .int .i64 b.bo, .int .i64 b.fr, .slice pr lr cr] 55)) = W4 at *
        by_cases h5 : t.al = 0
        · have d5 : (t.al == 0) = true := by simpa using h5
          have HV : Hid (GrantIs x t m ac0 bi0 22) := .inr (.inl ⟨HRY.out, h5, rfl, rfl, rfl⟩)
          clear h5
          have qt4 : W4.cell? ⟨w.heap.size + 1, 4, none⟩ = some (.int .i64 t.al) := H5t.out.cell 4
          go_wp2_with (first
            | (refine wp_letAll rfl 55 _ _ rfl (w.heap.size + 1 + 1) rfl #[.int .i64 0, .int .i64 0, .int .i64 0, .int .i64 0, .int .i64 0, .int .i64 0, .slice none 0 0] rfl (by kernel_rfl) (by simp [Value.oneCell']) #[.int .i64 0, .int .i64 0, .int .i64 0, .int .i64 0, .int .i64 0, .int .i64 0, .slice none 0 0] 55 H5r.out rfl ?_)
            | (refine wp_whole rfl 55 _ rfl (w.heap.size) rfl 55 #[.int .i64 x.me, .int .i64 x.rv, .int .i64 x.nx, .int .i64 x.mo, .int .i64 x.bo, .int .i64 x.fr, .slice p len cap] _ H5d.out Try.underlying55 rfl (by kernel_rfl) ?_)
            | (refine wp_whole rfl 40 _ rfl (w.heap.size + 1) rfl 40 #[.slice pt lt ct, .int .i64 t.ff, .int .i64 t.fb, .int .i64 t.db, .int .i64 t.al] _ H5t.out Try.underlying40 rfl (by kernel_rfl) ?_)
            | (refine wp_whole rfl 55 _ rfl (w.heap.size + 1 + 1) rfl 55 #[.int .i64 0, .int .i64 0, .int .i64 0, .int .i64 0, .int .i64 0, .int .i64 0, .slice none 0 0] _ H5r.out Try.underlying55 rfl (by kernel_rfl) ?_)
            | (refine wp_whole rfl 23 _ rfl (w.heap.size + 1 + 1 + 1) rfl 23 #[.int .i64 0, .int .i64 0, .int .i64 0, .int .i64 0, .int .i64 0, .int .i64 0, .int .i64 0] _ H5l.out Try.underlying23 rfl (by kernel_rfl) ?_)
            | (refine wp_whole rfl 55 _ rfl (w3.heap.size) rfl 55 #[.int .i64 b.me, .int .i64 b.rv, .int .i64 b.nx, .int .i64 b.mo, .int .i64 b.bo, .int .i64 b.fr, .slice pr lr cr] _ H5n.out Try.underlying55 rfl (by kernel_rfl) ?_)
            | fail)
          intro W4a hU
          have H6d : Hid (Blk W4a (w.heap.size) #[.int .i64 x.me, .int .i64 x.rv, .int .i64 x.nx, .int .i64 x.mo, .int .i64 x.bo, .int .i64 x.fr, .slice p len cap] 55) := hU.keep H5d.out (by omega)
          have H6t : Hid (Blk W4a (w.heap.size + 1) #[.slice pt lt ct, .int .i64 t.ff, .int .i64 t.fb, .int .i64 t.db, .int .i64 t.al] 40) := hU.keep H5t.out (by omega)
          have H6r : Hid (Blk W4a (w.heap.size + 1 + 1) #[.int .i64 0, .int .i64 0, .int .i64 0, .int .i64 0, .int .i64 0, .int .i64 0, .slice none 0 0] 55) := hU.blk
          have H6l : Hid (Blk W4a (w.heap.size + 1 + 1 + 1) #[.int .i64 0, .int .i64 0, .int .i64 0, .int .i64 0, .int .i64 0, .int .i64 0, .int .i64 0] 23) := hU.keep H5l.out (by omega)
          have H6n : Hid (Blk W4a (w3.heap.size) #[.int .i64 b.me, .int .i64 b.rv, .int .i64 b.nx, .int .i64 b.mo, .int .i64 b.bo, .int .i64 b.fr, .slice pr lr cr] 55) := hU.keep H5n.out (by omega)
          have H6F : Hid (deb.Fresh W4a w2.heap.size pr lr cr b.ds) := fresh_updN H5F.out hU (fun hn y hy => by have f1 := H5F.out.new hn y hy; have f2 := HUPF.out hn y hy; omega)
          have H6B : Hid (Below w.heap.size w W4a) := hU.bel _ _ (by omega) H5B.out
          have hsW4a : W4a.heap.size = W4.heap.size := hU.size
          clear hU H5d H5t H5r H5l H5n H5R H5T H5F H5B
          go_wp2_with (first
            | (refine wp_letAll rfl 23 _ _ rfl (w.heap.size + 1 + 1 + 1) rfl #[.int .i64 0, .int .i64 0, .int .i64 0, .int .i64 0, .int .i64 0, .int .i64 0, .int .i64 0] rfl (by kernel_rfl) (by simp [Value.oneCell']) #[.int .i64 0, .int .i64 0, .int .i64 0, .int .i64 0, .int .i64 0, .int .i64 0, .int .i64 0] 23 H6l.out rfl ?_)
            | (refine wp_whole rfl 55 _ rfl (w.heap.size) rfl 55 #[.int .i64 x.me, .int .i64 x.rv, .int .i64 x.nx, .int .i64 x.mo, .int .i64 x.bo, .int .i64 x.fr, .slice p len cap] _ H6d.out Try.underlying55 rfl (by kernel_rfl) ?_)
            | (refine wp_whole rfl 40 _ rfl (w.heap.size + 1) rfl 40 #[.slice pt lt ct, .int .i64 t.ff, .int .i64 t.fb, .int .i64 t.db, .int .i64 t.al] _ H6t.out Try.underlying40 rfl (by kernel_rfl) ?_)
            | (refine wp_whole rfl 55 _ rfl (w.heap.size + 1 + 1) rfl 55 #[.int .i64 0, .int .i64 0, .int .i64 0, .int .i64 0, .int .i64 0, .int .i64 0, .slice none 0 0] _ H6r.out Try.underlying55 rfl (by kernel_rfl) ?_)
            | (refine wp_whole rfl 23 _ rfl (w.heap.size + 1 + 1 + 1) rfl 23 #[.int .i64 0, .int .i64 0, .int .i64 0, .int .i64 0, .int .i64 0, .int .i64 0, .int .i64 0] _ H6l.out Try.underlying23 rfl (by kernel_rfl) ?_)
            | (refine wp_whole rfl 55 _ rfl (w3.heap.size) rfl 55 #[.int .i64 b.me, .int .i64 b.rv, .int .i64 b.nx, .int .i64 b.mo, .int .i64 b.bo, .int .i64 b.fr, .slice pr lr cr] _ H6n.out Try.underlying55 rfl (by kernel_rfl) ?_)
            | fail)
          intro W4ab hU
          have H7d : Hid (Blk W4ab (w.heap.size) #[.int .i64 x.me, .int .i64 x.rv, .int .i64 x.nx, .int .i64 x.mo, .int .i64 x.bo, .int .i64 x.fr, .slice p len cap] 55) := hU.keep H6d.out (by omega)
          have H7t : Hid (Blk W4ab (w.heap.size + 1) #[.slice pt lt ct, .int .i64 t.ff, .int .i64 t.fb, .int .i64 t.db, .int .i64 t.al] 40) := hU.keep H6t.out (by omega)
          have H7r : Hid (Blk W4ab (w.heap.size + 1 + 1) #[.int .i64 0, .int .i64 0, .int .i64 0, .int .i64 0, .int .i64 0, .int .i64 0, .slice none 0 0] 55) := hU.keep H6r.out (by omega)
          have H7l : Hid (Blk W4ab (w.heap.size + 1 + 1 + 1) #[.int .i64 0, .int .i64 0, .int .i64 0, .int .i64 0, .int .i64 0, .int .i64 0, .int .i64 0] 23) := hU.blk
          have H7n : Hid (Blk W4ab (w3.heap.size) #[.int .i64 b.me, .int .i64 b.rv, .int .i64 b.nx, .int .i64 b.mo, .int .i64 b.bo, .int .i64 b.fr, .slice pr lr cr] 55) := hU.keep H6n.out (by omega)
          have H7F : Hid (deb.Fresh W4ab w2.heap.size pr lr cr b.ds) := fresh_updN H6F.out hU (fun hn y hy => by have f1 := H6F.out.new hn y hy; have f2 := HUPF.out hn y hy; omega)
          have H7B : Hid (Below w.heap.size w W4ab) := hU.bel _ _ (by omega) H6B.out
          have hsW4ab : W4ab.heap.size = W4a.heap.size := hU.size
          clear hU H6d H6t H6r H6l H6n H6F H6B
          have Rr0 : Hid (W4ab.cell? ⟨w.heap.size + 1 + 1, 0, none⟩ = some (.int .i64 0)) := H7r.out.cell 0
          have Rr1 : Hid (W4ab.cell? ⟨w.heap.size + 1 + 1, 1, none⟩ = some (.int .i64 0)) := H7r.out.cell 1
          have Rr2 : Hid (W4ab.cell? ⟨w.heap.size + 1 + 1, 2, none⟩ = some (.int .i64 0)) := H7r.out.cell 2
          have Rr3 : Hid (W4ab.cell? ⟨w.heap.size + 1 + 1, 3, none⟩ = some (.int .i64 0)) := H7r.out.cell 3
          have Rr4 : Hid (W4ab.cell? ⟨w.heap.size + 1 + 1, 4, none⟩ = some (.int .i64 0)) := H7r.out.cell 4
          have Rr5 : Hid (W4ab.cell? ⟨w.heap.size + 1 + 1, 5, none⟩ = some (.int .i64 0)) := H7r.out.cell 5
          have Rr6 : Hid (W4ab.cell? ⟨w.heap.size + 1 + 1, 6, none⟩ = some (.slice none 0 0)) := H7r.out.cell 6
          have Rl0 : Hid (W4ab.cell? ⟨w.heap.size + 1 + 1 + 1, 0, none⟩ = some (.int .i64 0)) := H7l.out.cell 0
          have Rl1 : Hid (W4ab.cell? ⟨w.heap.size + 1 + 1 + 1, 1, none⟩ = some (.int .i64 0)) := H7l.out.cell 1
          have Rl2 : Hid (W4ab.cell? ⟨w.heap.size + 1 + 1 + 1, 2, none⟩ = some (.int .i64 0)) := H7l.out.cell 2
          have Rl3 : Hid (W4ab.cell? ⟨w.heap.size + 1 + 1 + 1, 3, none⟩ = some (.int .i64 0)) := H7l.out.cell 3
          have Rl4 : Hid (W4ab.cell? ⟨w.heap.size + 1 + 1 + 1, 4, none⟩ = some (.int .i64 0)) := H7l.out.cell 4
          have Rl5 : Hid (W4ab.cell? ⟨w.heap.size + 1 + 1 + 1, 5, none⟩ = some (.int .i64 0)) := H7l.out.cell 5
          have Rl6 : Hid (W4ab.cell? ⟨w.heap.size + 1 + 1 + 1, 6, none⟩ = some (.int .i64 0)) := H7l.out.cell 6
          go_wp2_with fail
          exact bodyPost_ret (v := .tuple #[.agg #[.int .i64 0, .int .i64 0, .int .i64 0, .int .i64 0, .int .i64 0, .int .i64 0, .slice none 0 0], .agg #[.int .i64 0, .int .i64 0, .int .i64 0, .int .i64 0, .int .i64 0, .int .i64 0, .int .i64 0], .int .i64 22]) (by simp [results, Try.results57, Rr0.out, Rr1.out, Rr2.out, Rr3.out, Rr4.out, Rr5.out, Rr6.out, Rl0.out, Rl1.out, Rl2.out, Rl3.out, Rl4.out, Rl5.out, Rl6.out, go_sem]) rfl ⟨ac0, bi0, none, 0, 0, _, rfl, HV.out, deb.fresh_nil _ _, H7B.out⟩
        · have d5 : (t.al == 0) = false := by simpa using h5
          by_cases h6 : x.fr = m
          · have d6 : (x.fr == m) = true := by simpa using h6
            have HV : Hid (GrantIs x t m ac0 bi0 21) := .inr (.inr (.inl ⟨HRY.out, h5, h6, rfl, rfl, rfl⟩))
            clear h5 h6
            have qt4 : W4.cell? ⟨w.heap.size + 1, 4, none⟩ = some (.int .i64 t.al) := H5t.out.cell 4
            have qd5 : W4.cell? ⟨w.heap.size, 5, none⟩ = some (.int .i64 x.fr) := H5d.out.cell 5
            go_wp2_with (first
              | (refine wp_letAll rfl 55 _ _ rfl (w.heap.size + 1 + 1) rfl #[.int .i64 0, .int .i64 0, .int .i64 0, .int .i64 0, .int .i64 0, .int .i64 0, .slice none 0 0] rfl (by kernel_rfl) (by simp [Value.oneCell']) #[.int .i64 0, .int .i64 0, .int .i64 0, .int .i64 0, .int .i64 0, .int .i64 0, .slice none 0 0] 55 H5r.out rfl ?_)
              | (refine wp_whole rfl 55 _ rfl (w.heap.size) rfl 55 #[.int .i64 x.me, .int .i64 x.rv, .int .i64 x.nx, .int .i64 x.mo, .int .i64 x.bo, .int .i64 x.fr, .slice p len cap] _ H5d.out Try.underlying55 rfl (by kernel_rfl) ?_)
              | (refine wp_whole rfl 40 _ rfl (w.heap.size + 1) rfl 40 #[.slice pt lt ct, .int .i64 t.ff, .int .i64 t.fb, .int .i64 t.db, .int .i64 t.al] _ H5t.out Try.underlying40 rfl (by kernel_rfl) ?_)
              | (refine wp_whole rfl 55 _ rfl (w.heap.size + 1 + 1) rfl 55 #[.int .i64 0, .int .i64 0, .int .i64 0, .int .i64 0, .int .i64 0, .int .i64 0, .slice none 0 0] _ H5r.out Try.underlying55 rfl (by kernel_rfl) ?_)
              | (refine wp_whole rfl 23 _ rfl (w.heap.size + 1 + 1 + 1) rfl 23 #[.int .i64 0, .int .i64 0, .int .i64 0, .int .i64 0, .int .i64 0, .int .i64 0, .int .i64 0] _ H5l.out Try.underlying23 rfl (by kernel_rfl) ?_)
              | (refine wp_whole rfl 55 _ rfl (w3.heap.size) rfl 55 #[.int .i64 b.me, .int .i64 b.rv, .int .i64 b.nx, .int .i64 b.mo, .int .i64 b.bo, .int .i64 b.fr, .slice pr lr cr] _ H5n.out Try.underlying55 rfl (by kernel_rfl) ?_)
              | fail)
            intro W4a hU
            have H6d : Hid (Blk W4a (w.heap.size) #[.int .i64 x.me, .int .i64 x.rv, .int .i64 x.nx, .int .i64 x.mo, .int .i64 x.bo, .int .i64 x.fr, .slice p len cap] 55) := hU.keep H5d.out (by omega)
            have H6t : Hid (Blk W4a (w.heap.size + 1) #[.slice pt lt ct, .int .i64 t.ff, .int .i64 t.fb, .int .i64 t.db, .int .i64 t.al] 40) := hU.keep H5t.out (by omega)
            have H6r : Hid (Blk W4a (w.heap.size + 1 + 1) #[.int .i64 0, .int .i64 0, .int .i64 0, .int .i64 0, .int .i64 0, .int .i64 0, .slice none 0 0] 55) := hU.blk
            have H6l : Hid (Blk W4a (w.heap.size + 1 + 1 + 1) #[.int .i64 0, .int .i64 0, .int .i64 0, .int .i64 0, .int .i64 0, .int .i64 0, .int .i64 0] 23) := hU.keep H5l.out (by omega)
            have H6n : Hid (Blk W4a (w3.heap.size) #[.int .i64 b.me, .int .i64 b.rv, .int .i64 b.nx, .int .i64 b.mo, .int .i64 b.bo, .int .i64 b.fr, .slice pr lr cr] 55) := hU.keep H5n.out (by omega)
            have H6F : Hid (deb.Fresh W4a w2.heap.size pr lr cr b.ds) := fresh_updN H5F.out hU (fun hn y hy => by have f1 := H5F.out.new hn y hy; have f2 := HUPF.out hn y hy; omega)
            have H6B : Hid (Below w.heap.size w W4a) := hU.bel _ _ (by omega) H5B.out
            have hsW4a : W4a.heap.size = W4.heap.size := hU.size
            clear hU H5d H5t H5r H5l H5n H5R H5T H5F H5B
            go_wp2_with (first
              | (refine wp_letAll rfl 23 _ _ rfl (w.heap.size + 1 + 1 + 1) rfl #[.int .i64 0, .int .i64 0, .int .i64 0, .int .i64 0, .int .i64 0, .int .i64 0, .int .i64 0] rfl (by kernel_rfl) (by simp [Value.oneCell']) #[.int .i64 0, .int .i64 0, .int .i64 0, .int .i64 0, .int .i64 0, .int .i64 0, .int .i64 0] 23 H6l.out rfl ?_)
              | (refine wp_whole rfl 55 _ rfl (w.heap.size) rfl 55 #[.int .i64 x.me, .int .i64 x.rv, .int .i64 x.nx, .int .i64 x.mo, .int .i64 x.bo, .int .i64 x.fr, .slice p len cap] _ H6d.out Try.underlying55 rfl (by kernel_rfl) ?_)
              | (refine wp_whole rfl 40 _ rfl (w.heap.size + 1) rfl 40 #[.slice pt lt ct, .int .i64 t.ff, .int .i64 t.fb, .int .i64 t.db, .int .i64 t.al] _ H6t.out Try.underlying40 rfl (by kernel_rfl) ?_)
              | (refine wp_whole rfl 55 _ rfl (w.heap.size + 1 + 1) rfl 55 #[.int .i64 0, .int .i64 0, .int .i64 0, .int .i64 0, .int .i64 0, .int .i64 0, .slice none 0 0] _ H6r.out Try.underlying55 rfl (by kernel_rfl) ?_)
              | (refine wp_whole rfl 23 _ rfl (w.heap.size + 1 + 1 + 1) rfl 23 #[.int .i64 0, .int .i64 0, .int .i64 0, .int .i64 0, .int .i64 0, .int .i64 0, .int .i64 0] _ H6l.out Try.underlying23 rfl (by kernel_rfl) ?_)
              | (refine wp_whole rfl 55 _ rfl (w3.heap.size) rfl 55 #[.int .i64 b.me, .int .i64 b.rv, .int .i64 b.nx, .int .i64 b.mo, .int .i64 b.bo, .int .i64 b.fr, .slice pr lr cr] _ H6n.out Try.underlying55 rfl (by kernel_rfl) ?_)
              | fail)
            intro W4ab hU
            have H7d : Hid (Blk W4ab (w.heap.size) #[.int .i64 x.me, .int .i64 x.rv, .int .i64 x.nx, .int .i64 x.mo, .int .i64 x.bo, .int .i64 x.fr, .slice p len cap] 55) := hU.keep H6d.out (by omega)
            have H7t : Hid (Blk W4ab (w.heap.size + 1) #[.slice pt lt ct, .int .i64 t.ff, .int .i64 t.fb, .int .i64 t.db, .int .i64 t.al] 40) := hU.keep H6t.out (by omega)
            have H7r : Hid (Blk W4ab (w.heap.size + 1 + 1) #[.int .i64 0, .int .i64 0, .int .i64 0, .int .i64 0, .int .i64 0, .int .i64 0, .slice none 0 0] 55) := hU.keep H6r.out (by omega)
            have H7l : Hid (Blk W4ab (w.heap.size + 1 + 1 + 1) #[.int .i64 0, .int .i64 0, .int .i64 0, .int .i64 0, .int .i64 0, .int .i64 0, .int .i64 0] 23) := hU.blk
            have H7n : Hid (Blk W4ab (w3.heap.size) #[.int .i64 b.me, .int .i64 b.rv, .int .i64 b.nx, .int .i64 b.mo, .int .i64 b.bo, .int .i64 b.fr, .slice pr lr cr] 55) := hU.keep H6n.out (by omega)
            have H7F : Hid (deb.Fresh W4ab w2.heap.size pr lr cr b.ds) := fresh_updN H6F.out hU (fun hn y hy => by have f1 := H6F.out.new hn y hy; have f2 := HUPF.out hn y hy; omega)
            have H7B : Hid (Below w.heap.size w W4ab) := hU.bel _ _ (by omega) H6B.out
            have hsW4ab : W4ab.heap.size = W4a.heap.size := hU.size
            clear hU H6d H6t H6r H6l H6n H6F H6B
            have Rr0 : Hid (W4ab.cell? ⟨w.heap.size + 1 + 1, 0, none⟩ = some (.int .i64 0)) := H7r.out.cell 0
            have Rr1 : Hid (W4ab.cell? ⟨w.heap.size + 1 + 1, 1, none⟩ = some (.int .i64 0)) := H7r.out.cell 1
            have Rr2 : Hid (W4ab.cell? ⟨w.heap.size + 1 + 1, 2, none⟩ = some (.int .i64 0)) := H7r.out.cell 2
            have Rr3 : Hid (W4ab.cell? ⟨w.heap.size + 1 + 1, 3, none⟩ = some (.int .i64 0)) := H7r.out.cell 3
            have Rr4 : Hid (W4ab.cell? ⟨w.heap.size + 1 + 1, 4, none⟩ = some (.int .i64 0)) := H7r.out.cell 4
            have Rr5 : Hid (W4ab.cell? ⟨w.heap.size + 1 + 1, 5, none⟩ = some (.int .i64 0)) := H7r.out.cell 5
            have Rr6 : Hid (W4ab.cell? ⟨w.heap.size + 1 + 1, 6, none⟩ = some (.slice none 0 0)) := H7r.out.cell 6
            have Rl0 : Hid (W4ab.cell? ⟨w.heap.size + 1 + 1 + 1, 0, none⟩ = some (.int .i64 0)) := H7l.out.cell 0
            have Rl1 : Hid (W4ab.cell? ⟨w.heap.size + 1 + 1 + 1, 1, none⟩ = some (.int .i64 0)) := H7l.out.cell 1
            have Rl2 : Hid (W4ab.cell? ⟨w.heap.size + 1 + 1 + 1, 2, none⟩ = some (.int .i64 0)) := H7l.out.cell 2
            have Rl3 : Hid (W4ab.cell? ⟨w.heap.size + 1 + 1 + 1, 3, none⟩ = some (.int .i64 0)) := H7l.out.cell 3
            have Rl4 : Hid (W4ab.cell? ⟨w.heap.size + 1 + 1 + 1, 4, none⟩ = some (.int .i64 0)) := H7l.out.cell 4
            have Rl5 : Hid (W4ab.cell? ⟨w.heap.size + 1 + 1 + 1, 5, none⟩ = some (.int .i64 0)) := H7l.out.cell 5
            have Rl6 : Hid (W4ab.cell? ⟨w.heap.size + 1 + 1 + 1, 6, none⟩ = some (.int .i64 0)) := H7l.out.cell 6
            go_wp2_with fail
            exact bodyPost_ret (v := .tuple #[.agg #[.int .i64 0, .int .i64 0, .int .i64 0, .int .i64 0, .int .i64 0, .int .i64 0, .slice none 0 0], .agg #[.int .i64 0, .int .i64 0, .int .i64 0, .int .i64 0, .int .i64 0, .int .i64 0, .int .i64 0], .int .i64 21]) (by simp [results, Try.results57, Rr0.out, Rr1.out, Rr2.out, Rr3.out, Rr4.out, Rr5.out, Rr6.out, Rl0.out, Rl1.out, Rl2.out, Rl3.out, Rl4.out, Rl5.out, Rl6.out, go_sem]) rfl ⟨ac0, bi0, none, 0, 0, _, rfl, HV.out, deb.fresh_nil _ _, H7B.out⟩
          · have d6 : (x.fr == m) = false := by simpa using h6
            by_cases h7 : x.nx ≤ 1048575
            · have d7 : (x.nx == 1048576) = false := by simp; omega
              have qt4 : W4.cell? ⟨w.heap.size + 1, 4, none⟩ = some (.int .i64 t.al) := H5t.out.cell 4
              have qd5 : W4.cell? ⟨w.heap.size, 5, none⟩ = some (.int .i64 x.fr) := H5d.out.cell 5
              have qd2 : W4.cell? ⟨w.heap.size, 2, none⟩ = some (.int .i64 x.nx) := H5d.out.cell 2
              go_wp2_with (first
                | (refine wp_let1 rfl 3 _ _ rfl (w3.heap.size) 5 rfl .i64 m rfl (by kernel_rfl) #[.int .i64 b.me, .int .i64 b.rv, .int .i64 b.nx, .int .i64 b.mo, .int .i64 b.bo, .int .i64 b.fr, .slice pr lr cr] 55 H5n.out (by simp) ?_)
                | fail)
              clear qt4 qd5 qd2
              intro W5 hU
              have H6d : Hid (Blk W5 (w.heap.size) #[.int .i64 x.me, .int .i64 x.rv, .int .i64 x.nx, .int .i64 x.mo, .int .i64 x.bo, .int .i64 x.fr, .slice p len cap] 55) := hU.keep H5d.out (by omega)
              have H6t : Hid (Blk W5 (w.heap.size + 1) #[.slice pt lt ct, .int .i64 t.ff, .int .i64 t.fb, .int .i64 t.db, .int .i64 t.al] 40) := hU.keep H5t.out (by omega)
              have H6r : Hid (Blk W5 (w.heap.size + 1 + 1) #[.int .i64 0, .int .i64 0, .int .i64 0, .int .i64 0, .int .i64 0, .int .i64 0, .slice none 0 0] 55) := hU.keep H5r.out (by omega)
              have H6l : Hid (Blk W5 (w.heap.size + 1 + 1 + 1) #[.int .i64 0, .int .i64 0, .int .i64 0, .int .i64 0, .int .i64 0, .int .i64 0, .int .i64 0] 23) := hU.keep H5l.out (by omega)
              have H6n : Hid (Blk W5 (w3.heap.size) #[.int .i64 b.me, .int .i64 b.rv, .int .i64 b.nx, .int .i64 b.mo, .int .i64 b.bo, .int .i64 m, .slice pr lr cr] 55) := hU.blk
              have H6F : Hid (deb.Fresh W5 w2.heap.size pr lr cr b.ds) := fresh_updN H5F.out hU (fun hn y hy => by have f1 := H5F.out.new hn y hy; have f2 := HUPF.out hn y hy; omega)
              have H6B : Hid (Below w.heap.size w W5) := hU.bel _ _ (by omega) H5B.out
              have hsW5 : W5.heap.size = W4.heap.size := hU.size
              clear hU H5d H5t H5r H5l H5n H5R H5T H5F H5B
              have qd2 : W5.cell? ⟨w.heap.size, 2, none⟩ = some (.int .i64 x.nx) := H6d.out.cell 2
              go_wp2_with (first
                | (refine wp_let1 rfl 3 _ _ rfl (w3.heap.size) 2 rfl .i64 (x.nx + 1) rfl (by kernel_rfl) #[.int .i64 b.me, .int .i64 b.rv, .int .i64 b.nx, .int .i64 b.mo, .int .i64 b.bo, .int .i64 m, .slice pr lr cr] 55 H6n.out (by simp) ?_)
                | (refine wp_whole rfl 55 _ rfl (w.heap.size) rfl 55 #[.int .i64 x.me, .int .i64 x.rv, .int .i64 x.nx, .int .i64 x.mo, .int .i64 x.bo, .int .i64 x.fr, .slice p len cap] _ H6d.out Try.underlying55 rfl (by kernel_rfl) ?_)
                | (refine wp_whole rfl 40 _ rfl (w.heap.size + 1) rfl 40 #[.slice pt lt ct, .int .i64 t.ff, .int .i64 t.fb, .int .i64 t.db, .int .i64 t.al] _ H6t.out Try.underlying40 rfl (by kernel_rfl) ?_)
                | (refine wp_whole rfl 55 _ rfl (w.heap.size + 1 + 1) rfl 55 #[.int .i64 0, .int .i64 0, .int .i64 0, .int .i64 0, .int .i64 0, .int .i64 0, .slice none 0 0] _ H6r.out Try.underlying55 rfl (by kernel_rfl) ?_)
                | (refine wp_whole rfl 23 _ rfl (w.heap.size + 1 + 1 + 1) rfl 23 #[.int .i64 0, .int .i64 0, .int .i64 0, .int .i64 0, .int .i64 0, .int .i64 0, .int .i64 0] _ H6l.out Try.underlying23 rfl (by kernel_rfl) ?_)
                | (refine wp_whole rfl 55 _ rfl (w3.heap.size) rfl 55 #[.int .i64 b.me, .int .i64 b.rv, .int .i64 b.nx, .int .i64 b.mo, .int .i64 b.bo, .int .i64 m, .slice pr lr cr] _ H6n.out Try.underlying55 rfl (by kernel_rfl) ?_)
                | fail)
              intro W6 hU
              have H7d : Hid (Blk W6 (w.heap.size) #[.int .i64 x.me, .int .i64 x.rv, .int .i64 x.nx, .int .i64 x.mo, .int .i64 x.bo, .int .i64 x.fr, .slice p len cap] 55) := hU.keep H6d.out (by omega)
              have H7t : Hid (Blk W6 (w.heap.size + 1) #[.slice pt lt ct, .int .i64 t.ff, .int .i64 t.fb, .int .i64 t.db, .int .i64 t.al] 40) := hU.keep H6t.out (by omega)
              have H7r : Hid (Blk W6 (w.heap.size + 1 + 1) #[.int .i64 0, .int .i64 0, .int .i64 0, .int .i64 0, .int .i64 0, .int .i64 0, .slice none 0 0] 55) := hU.keep H6r.out (by omega)
              have H7l : Hid (Blk W6 (w.heap.size + 1 + 1 + 1) #[.int .i64 0, .int .i64 0, .int .i64 0, .int .i64 0, .int .i64 0, .int .i64 0, .int .i64 0] 23) := hU.keep H6l.out (by omega)
              have H7n : Hid (Blk W6 (w3.heap.size) #[.int .i64 b.me, .int .i64 b.rv, .int .i64 (x.nx + 1), .int .i64 b.mo, .int .i64 b.bo, .int .i64 m, .slice pr lr cr] 55) := hU.blk
              have H7F : Hid (deb.Fresh W6 w2.heap.size pr lr cr b.ds) := fresh_updN H6F.out hU (fun hn y hy => by have f1 := H6F.out.new hn y hy; have f2 := HUPF.out hn y hy; omega)
              have H7B : Hid (Below w.heap.size w W6) := hU.bel _ _ (by omega) H6B.out
              have hsW6 : W6.heap.size = W5.heap.size := hU.size
              clear hU H6d H6t H6r H6l H6n H6F H6B
              clear qd2
              go_upto_region 17 with fail
              refine wp_region_held_drew (S := fun v => Blk v (w3.heap.size) #[.int .i64 b.me, .int .i64 b.rv, .int .i64 (x.nx + 1), .int .i64 b.mo, .int .i64 b.bo, .int .i64 m, .slice pr lr cr] 55 ∧ Blk v (w.heap.size) #[.int .i64 x.me, .int .i64 x.rv, .int .i64 x.nx, .int .i64 x.mo, .int .i64 x.bo, .int .i64 x.fr, .slice p len cap] 55 ∧ Blk v (w.heap.size + 1) #[.slice pt lt ct, .int .i64 t.ff, .int .i64 t.fb, .int .i64 t.db, .int .i64 t.al] 40) (by kernel_rfl) ⟨Blk.drew H7n.out 1, Blk.drew H7d.out 1, Blk.drew H7t.out 1⟩ (fun hHeld => ?_)
              refine take_at 0 56 (.agg #[.int .i64 b.me, .int .i64 b.rv, .int .i64 (x.nx + 1), .int .i64 b.mo, .int .i64 b.bo, .int .i64 m, .slice pr lr cr]) _ rfl rfl (by kernel_rfl) (by kernel_rfl) (by kernel_rfl) (fun _ _ _ h => h) (Or.inl ⟨by rfl, fun v hv => by have g0 := hv.1.cell 0; have g1 := hv.1.cell 1; have g2 := hv.1.cell 2; have g3 := hv.1.cell 3; have g4 := hv.1.cell 4; have g5 := hv.1.cell 5; have g6 := hv.1.cell 6; clear hv; go_simp⟩) hHeld ?_
              simp only [Act.put, List.setIfInBounds_toArray, List.set_cons_zero, List.set_cons_succ]
              refine take_at 1 57 (.pointer (some ⟨w.heap.size, 2, none⟩)) _ rfl rfl (by kernel_rfl) (by kernel_rfl) (by kernel_rfl) (fun _ _ _ h => h) (Or.inl ⟨by rfl, fun v hv => by skip; clear hv; go_simp⟩) hHeld ?_
              simp only [Act.put, List.setIfInBounds_toArray, List.set_cons_zero, List.set_cons_succ]
              refine take_at 2 58 (.int .i64 x.nx) _ rfl rfl (by kernel_rfl) (by kernel_rfl) (by kernel_rfl) (fun _ _ _ h => h) (Or.inl ⟨by rfl, fun v hv => by have g := hv.2.1.cell 2; clear hv; go_simp⟩) hHeld ?_
              simp only [Act.put, List.setIfInBounds_toArray, List.set_cons_zero, List.set_cons_succ]
              refine take_at 3 59 (.pointer (some ⟨w.heap.size + 1, 4, none⟩)) _ rfl rfl (by kernel_rfl) (by kernel_rfl) (by kernel_rfl) (fun _ _ _ h => h) (Or.inl ⟨by rfl, fun v hv => by skip; clear hv; go_simp⟩) hHeld ?_
              simp only [Act.put, List.setIfInBounds_toArray, List.set_cons_zero, List.set_cons_succ]
              refine take_at 4 60 (.int .i64 t.al) _ rfl rfl (by kernel_rfl) (by kernel_rfl) (by kernel_rfl) (fun _ _ _ h => h) (Or.inl ⟨by rfl, fun v hv => by have g := hv.2.2.cell 4; clear hv; go_simp⟩) hHeld ?_
              simp only [Act.put, List.setIfInBounds_toArray, List.set_cons_zero, List.set_cons_succ]
              refine take_at 5 61 (.agg #[.int .i64 x.nx, .int .i64 0, .int .i64 0, .int .i64 0, .int .i64 0, .int .i64 0, .int .i64 t.al]) _ rfl rfl (by kernel_rfl) (by kernel_rfl) (by kernel_rfl) (fun _ _ _ h => h) (Or.inl ⟨by rfl, fun v hv => by skip; clear hv; go_simp⟩) hHeld ?_
              simp only [Act.put, List.setIfInBounds_toArray, List.set_cons_zero, List.set_cons_succ]
              refine wpAnyH_ready (rs := [6]) (by kernel_rfl) (by simp) (AllReadyH.cons rfl (fun K hK => ?_) AllReadyH.nil)
              rw [if_pos (by rfl)]
              refine wp_letOp 55 _ _ rfl (w.heap.size + 1 + 1) rfl #[.int .i64 b.me, .int .i64 b.rv, .int .i64 (x.nx + 1), .int .i64 b.mo, .int .i64 b.bo, .int .i64 m, .slice pr lr cr] rfl (by kernel_rfl) (by simp [Value.oneCell']) #[.int .i64 0, .int .i64 0, .int .i64 0, .int .i64 0, .int .i64 0, .int .i64 0, .slice none 0 0] 55 (Blk.drew H7r.out 1) rfl rfl ?_
              intro V1 hU
              have H8d : Hid (Blk V1 (w.heap.size) #[.int .i64 x.me, .int .i64 x.rv, .int .i64 x.nx, .int .i64 x.mo, .int .i64 x.bo, .int .i64 x.fr, .slice p len cap] 55) := hU.keep (Blk.drew H7d.out 1) (by omega)
              have H8t : Hid (Blk V1 (w.heap.size + 1) #[.slice pt lt ct, .int .i64 t.ff, .int .i64 t.fb, .int .i64 t.db, .int .i64 t.al] 40) := hU.keep (Blk.drew H7t.out 1) (by omega)
              have H8r : Hid (Blk V1 (w.heap.size + 1 + 1) #[.int .i64 b.me, .int .i64 b.rv, .int .i64 (x.nx + 1), .int .i64 b.mo, .int .i64 b.bo, .int .i64 m, .slice pr lr cr] 55) := hU.blk
              have H8l : Hid (Blk V1 (w.heap.size + 1 + 1 + 1) #[.int .i64 0, .int .i64 0, .int .i64 0, .int .i64 0, .int .i64 0, .int .i64 0, .int .i64 0] 23) := hU.keep (Blk.drew H7l.out 1) (by omega)
              have H8n : Hid (Blk V1 (w3.heap.size) #[.int .i64 b.me, .int .i64 b.rv, .int .i64 (x.nx + 1), .int .i64 b.mo, .int .i64 b.bo, .int .i64 m, .slice pr lr cr] 55) := hU.keep (Blk.drew H7n.out 1) (by omega)
              have H8F : Hid (deb.Fresh V1 w2.heap.size pr lr cr b.ds) := fresh_updN (fresh_drew H7F.out) hU (fun hn y hy => by have f1 := H7F.out.new hn y hy; have f2 := HUPF.out hn y hy; omega)
              have H8B : Hid (Below w.heap.size w V1) := hU.bel _ _ (by omega) H7B.out.drew
              clear hU H7d H7t H7r H7l H7n H7F H7B
              refine hK.out _ _ ⟨H8n.out, H8d.out, H8t.out⟩ (fun hHeld => ?_)
              clear hK K
              refine wpAnyH_ready (rs := [7]) (by kernel_rfl) (by simp) (AllReadyH.cons rfl (fun K hK => ?_) AllReadyH.nil)
              rw [if_pos (by rfl)]
              refine wp_letOp 23 _ _ rfl (w.heap.size + 1 + 1 + 1) rfl #[.int .i64 x.nx, .int .i64 0, .int .i64 0, .int .i64 0, .int .i64 0, .int .i64 0, .int .i64 t.al] rfl (by kernel_rfl) (by simp [Value.oneCell']) #[.int .i64 0, .int .i64 0, .int .i64 0, .int .i64 0, .int .i64 0, .int .i64 0, .int .i64 0] 23 H8l.out rfl rfl ?_
              intro V2 hU
              have H9d : Hid (Blk V2 (w.heap.size) #[.int .i64 x.me, .int .i64 x.rv, .int .i64 x.nx, .int .i64 x.mo, .int .i64 x.bo, .int .i64 x.fr, .slice p len cap] 55) := hU.keep H8d.out (by omega)
              have H9t : Hid (Blk V2 (w.heap.size + 1) #[.slice pt lt ct, .int .i64 t.ff, .int .i64 t.fb, .int .i64 t.db, .int .i64 t.al] 40) := hU.keep H8t.out (by omega)
              have H9r : Hid (Blk V2 (w.heap.size + 1 + 1) #[.int .i64 b.me, .int .i64 b.rv, .int .i64 (x.nx + 1), .int .i64 b.mo, .int .i64 b.bo, .int .i64 m, .slice pr lr cr] 55) := hU.keep H8r.out (by omega)
              have H9l : Hid (Blk V2 (w.heap.size + 1 + 1 + 1) #[.int .i64 x.nx, .int .i64 0, .int .i64 0, .int .i64 0, .int .i64 0, .int .i64 0, .int .i64 t.al] 23) := hU.blk
              have H9n : Hid (Blk V2 (w3.heap.size) #[.int .i64 b.me, .int .i64 b.rv, .int .i64 (x.nx + 1), .int .i64 b.mo, .int .i64 b.bo, .int .i64 m, .slice pr lr cr] 55) := hU.keep H8n.out (by omega)
              have H9F : Hid (deb.Fresh V2 w2.heap.size pr lr cr b.ds) := fresh_updN H8F.out hU (fun hn y hy => by have f1 := H8F.out.new hn y hy; have f2 := HUPF.out hn y hy; omega)
              have H9B : Hid (Below w.heap.size w V2) := hU.bel _ _ (by omega) H8B.out
              clear hU H8d H8t H8r H8l H8n H8F H8B
              refine hK.out _ _ ⟨H9n.out, H9d.out, H9t.out⟩ (fun hHeld => ?_)
              clear hK K
              refine take_at 8 8 (.int .i64 0) _ rfl rfl (by kernel_rfl) (by kernel_rfl) (by kernel_rfl) (fun _ _ _ h => h) (Or.inl ⟨by rfl, fun v hv => by skip; clear hv; go_simp⟩) hHeld ?_
              simp only [Act.put, List.setIfInBounds_toArray, List.set_cons_zero, List.set_cons_succ]
              refine wpAnyH_done (by kernel_rfl) ?_ _
              clear hHeld
              have HGV : Hid (⟨b.me, b.rv, x.nx + 1, b.mo, b.bo, m, b.ds⟩ = granted x m) := by
                show _ = _
                unfold granted
                rw [← HBR.out, HBS.out.1, HBS.out.2.1, HBS.out.2.2.2.1]
              have Rr0 : Hid (V2.cell? ⟨w.heap.size + 1 + 1, 0, none⟩ = some (.int .i64 b.me)) := H9r.out.cell 0
              have Rr1 : Hid (V2.cell? ⟨w.heap.size + 1 + 1, 1, none⟩ = some (.int .i64 b.rv)) := H9r.out.cell 1
              have Rr2 : Hid (V2.cell? ⟨w.heap.size + 1 + 1, 2, none⟩ = some (.int .i64 (x.nx + 1))) := H9r.out.cell 2
              have Rr3 : Hid (V2.cell? ⟨w.heap.size + 1 + 1, 3, none⟩ = some (.int .i64 b.mo)) := H9r.out.cell 3
              have Rr4 : Hid (V2.cell? ⟨w.heap.size + 1 + 1, 4, none⟩ = some (.int .i64 b.bo)) := H9r.out.cell 4
              have Rr5 : Hid (V2.cell? ⟨w.heap.size + 1 + 1, 5, none⟩ = some (.int .i64 m)) := H9r.out.cell 5
              have Rr6 : Hid (V2.cell? ⟨w.heap.size + 1 + 1, 6, none⟩ = some (.slice pr lr cr)) := H9r.out.cell 6
              have Rl0 : Hid (V2.cell? ⟨w.heap.size + 1 + 1 + 1, 0, none⟩ = some (.int .i64 x.nx)) := H9l.out.cell 0
              have Rl1 : Hid (V2.cell? ⟨w.heap.size + 1 + 1 + 1, 1, none⟩ = some (.int .i64 0)) := H9l.out.cell 1
              have Rl2 : Hid (V2.cell? ⟨w.heap.size + 1 + 1 + 1, 2, none⟩ = some (.int .i64 0)) := H9l.out.cell 2
              have Rl3 : Hid (V2.cell? ⟨w.heap.size + 1 + 1 + 1, 3, none⟩ = some (.int .i64 0)) := H9l.out.cell 3
              have Rl4 : Hid (V2.cell? ⟨w.heap.size + 1 + 1 + 1, 4, none⟩ = some (.int .i64 0)) := H9l.out.cell 4
              have Rl5 : Hid (V2.cell? ⟨w.heap.size + 1 + 1 + 1, 5, none⟩ = some (.int .i64 0)) := H9l.out.cell 5
              have Rl6 : Hid (V2.cell? ⟨w.heap.size + 1 + 1 + 1, 6, none⟩ = some (.int .i64 t.al)) := H9l.out.cell 6
              go_wp2_with fail
              exact bodyPost_ret (v := .tuple #[.agg #[.int .i64 b.me, .int .i64 b.rv, .int .i64 (x.nx + 1), .int .i64 b.mo, .int .i64 b.bo, .int .i64 m, .slice pr lr cr], .agg #[.int .i64 x.nx, .int .i64 0, .int .i64 0, .int .i64 0, .int .i64 0, .int .i64 0, .int .i64 t.al], .int .i64 0]) (by simp [results, Try.results57, Rr0.out, Rr1.out, Rr2.out, Rr3.out, Rr4.out, Rr5.out, Rr6.out, Rl0.out, Rl1.out, Rl2.out, Rl3.out, Rl4.out, Rl5.out, Rl6.out, go_sem]) rfl ⟨⟨b.me, b.rv, x.nx + 1, b.mo, b.bo, m, b.ds⟩, ⟨x.nx, 0, 0, 0, 0, 0, t.al⟩, pr, lr, cr, _, rfl, .inr (.inr (.inr (.inr ⟨HRY.out, h5, h6, h7, rfl, HGV.out, rfl⟩))), H9F.out.low (by omega), H9B.out⟩
            · have d7 : (x.nx == 1048576) = true := by simp; omega
              have HV : Hid (GrantIs x t m ac0 bi0 20) := .inr (.inr (.inr (.inl ⟨HRY.out, h5, h6, h7, rfl, rfl, rfl⟩)))
              clear h5 h6 h7
              have qt4 : W4.cell? ⟨w.heap.size + 1, 4, none⟩ = some (.int .i64 t.al) := H5t.out.cell 4
              have qd5 : W4.cell? ⟨w.heap.size, 5, none⟩ = some (.int .i64 x.fr) := H5d.out.cell 5
              have qd2 : W4.cell? ⟨w.heap.size, 2, none⟩ = some (.int .i64 x.nx) := H5d.out.cell 2
              go_wp2_with (first
                | (refine wp_letAll rfl 55 _ _ rfl (w.heap.size + 1 + 1) rfl #[.int .i64 0, .int .i64 0, .int .i64 0, .int .i64 0, .int .i64 0, .int .i64 0, .slice none 0 0] rfl (by kernel_rfl) (by simp [Value.oneCell']) #[.int .i64 0, .int .i64 0, .int .i64 0, .int .i64 0, .int .i64 0, .int .i64 0, .slice none 0 0] 55 H5r.out rfl ?_)
                | (refine wp_whole rfl 55 _ rfl (w.heap.size) rfl 55 #[.int .i64 x.me, .int .i64 x.rv, .int .i64 x.nx, .int .i64 x.mo, .int .i64 x.bo, .int .i64 x.fr, .slice p len cap] _ H5d.out Try.underlying55 rfl (by kernel_rfl) ?_)
                | (refine wp_whole rfl 40 _ rfl (w.heap.size + 1) rfl 40 #[.slice pt lt ct, .int .i64 t.ff, .int .i64 t.fb, .int .i64 t.db, .int .i64 t.al] _ H5t.out Try.underlying40 rfl (by kernel_rfl) ?_)
                | (refine wp_whole rfl 55 _ rfl (w.heap.size + 1 + 1) rfl 55 #[.int .i64 0, .int .i64 0, .int .i64 0, .int .i64 0, .int .i64 0, .int .i64 0, .slice none 0 0] _ H5r.out Try.underlying55 rfl (by kernel_rfl) ?_)
                | (refine wp_whole rfl 23 _ rfl (w.heap.size + 1 + 1 + 1) rfl 23 #[.int .i64 0, .int .i64 0, .int .i64 0, .int .i64 0, .int .i64 0, .int .i64 0, .int .i64 0] _ H5l.out Try.underlying23 rfl (by kernel_rfl) ?_)
                | (refine wp_whole rfl 55 _ rfl (w3.heap.size) rfl 55 #[.int .i64 b.me, .int .i64 b.rv, .int .i64 b.nx, .int .i64 b.mo, .int .i64 b.bo, .int .i64 b.fr, .slice pr lr cr] _ H5n.out Try.underlying55 rfl (by kernel_rfl) ?_)
                | fail)
              intro W4a hU
              have H6d : Hid (Blk W4a (w.heap.size) #[.int .i64 x.me, .int .i64 x.rv, .int .i64 x.nx, .int .i64 x.mo, .int .i64 x.bo, .int .i64 x.fr, .slice p len cap] 55) := hU.keep H5d.out (by omega)
              have H6t : Hid (Blk W4a (w.heap.size + 1) #[.slice pt lt ct, .int .i64 t.ff, .int .i64 t.fb, .int .i64 t.db, .int .i64 t.al] 40) := hU.keep H5t.out (by omega)
              have H6r : Hid (Blk W4a (w.heap.size + 1 + 1) #[.int .i64 0, .int .i64 0, .int .i64 0, .int .i64 0, .int .i64 0, .int .i64 0, .slice none 0 0] 55) := hU.blk
              have H6l : Hid (Blk W4a (w.heap.size + 1 + 1 + 1) #[.int .i64 0, .int .i64 0, .int .i64 0, .int .i64 0, .int .i64 0, .int .i64 0, .int .i64 0] 23) := hU.keep H5l.out (by omega)
              have H6n : Hid (Blk W4a (w3.heap.size) #[.int .i64 b.me, .int .i64 b.rv, .int .i64 b.nx, .int .i64 b.mo, .int .i64 b.bo, .int .i64 b.fr, .slice pr lr cr] 55) := hU.keep H5n.out (by omega)
              have H6F : Hid (deb.Fresh W4a w2.heap.size pr lr cr b.ds) := fresh_updN H5F.out hU (fun hn y hy => by have f1 := H5F.out.new hn y hy; have f2 := HUPF.out hn y hy; omega)
              have H6B : Hid (Below w.heap.size w W4a) := hU.bel _ _ (by omega) H5B.out
              have hsW4a : W4a.heap.size = W4.heap.size := hU.size
              clear hU H5d H5t H5r H5l H5n H5R H5T H5F H5B
              go_wp2_with (first
                | (refine wp_letAll rfl 23 _ _ rfl (w.heap.size + 1 + 1 + 1) rfl #[.int .i64 0, .int .i64 0, .int .i64 0, .int .i64 0, .int .i64 0, .int .i64 0, .int .i64 0] rfl (by kernel_rfl) (by simp [Value.oneCell']) #[.int .i64 0, .int .i64 0, .int .i64 0, .int .i64 0, .int .i64 0, .int .i64 0, .int .i64 0] 23 H6l.out rfl ?_)
                | (refine wp_whole rfl 55 _ rfl (w.heap.size) rfl 55 #[.int .i64 x.me, .int .i64 x.rv, .int .i64 x.nx, .int .i64 x.mo, .int .i64 x.bo, .int .i64 x.fr, .slice p len cap] _ H6d.out Try.underlying55 rfl (by kernel_rfl) ?_)
                | (refine wp_whole rfl 40 _ rfl (w.heap.size + 1) rfl 40 #[.slice pt lt ct, .int .i64 t.ff, .int .i64 t.fb, .int .i64 t.db, .int .i64 t.al] _ H6t.out Try.underlying40 rfl (by kernel_rfl) ?_)
                | (refine wp_whole rfl 55 _ rfl (w.heap.size + 1 + 1) rfl 55 #[.int .i64 0, .int .i64 0, .int .i64 0, .int .i64 0, .int .i64 0, .int .i64 0, .slice none 0 0] _ H6r.out Try.underlying55 rfl (by kernel_rfl) ?_)
                | (refine wp_whole rfl 23 _ rfl (w.heap.size + 1 + 1 + 1) rfl 23 #[.int .i64 0, .int .i64 0, .int .i64 0, .int .i64 0, .int .i64 0, .int .i64 0, .int .i64 0] _ H6l.out Try.underlying23 rfl (by kernel_rfl) ?_)
                | (refine wp_whole rfl 55 _ rfl (w3.heap.size) rfl 55 #[.int .i64 b.me, .int .i64 b.rv, .int .i64 b.nx, .int .i64 b.mo, .int .i64 b.bo, .int .i64 b.fr, .slice pr lr cr] _ H6n.out Try.underlying55 rfl (by kernel_rfl) ?_)
                | fail)
              intro W4ab hU
              have H7d : Hid (Blk W4ab (w.heap.size) #[.int .i64 x.me, .int .i64 x.rv, .int .i64 x.nx, .int .i64 x.mo, .int .i64 x.bo, .int .i64 x.fr, .slice p len cap] 55) := hU.keep H6d.out (by omega)
              have H7t : Hid (Blk W4ab (w.heap.size + 1) #[.slice pt lt ct, .int .i64 t.ff, .int .i64 t.fb, .int .i64 t.db, .int .i64 t.al] 40) := hU.keep H6t.out (by omega)
              have H7r : Hid (Blk W4ab (w.heap.size + 1 + 1) #[.int .i64 0, .int .i64 0, .int .i64 0, .int .i64 0, .int .i64 0, .int .i64 0, .slice none 0 0] 55) := hU.keep H6r.out (by omega)
              have H7l : Hid (Blk W4ab (w.heap.size + 1 + 1 + 1) #[.int .i64 0, .int .i64 0, .int .i64 0, .int .i64 0, .int .i64 0, .int .i64 0, .int .i64 0] 23) := hU.blk
              have H7n : Hid (Blk W4ab (w3.heap.size) #[.int .i64 b.me, .int .i64 b.rv, .int .i64 b.nx, .int .i64 b.mo, .int .i64 b.bo, .int .i64 b.fr, .slice pr lr cr] 55) := hU.keep H6n.out (by omega)
              have H7F : Hid (deb.Fresh W4ab w2.heap.size pr lr cr b.ds) := fresh_updN H6F.out hU (fun hn y hy => by have f1 := H6F.out.new hn y hy; have f2 := HUPF.out hn y hy; omega)
              have H7B : Hid (Below w.heap.size w W4ab) := hU.bel _ _ (by omega) H6B.out
              have hsW4ab : W4ab.heap.size = W4a.heap.size := hU.size
              clear hU H6d H6t H6r H6l H6n H6F H6B
              have Rr0 : Hid (W4ab.cell? ⟨w.heap.size + 1 + 1, 0, none⟩ = some (.int .i64 0)) := H7r.out.cell 0
              have Rr1 : Hid (W4ab.cell? ⟨w.heap.size + 1 + 1, 1, none⟩ = some (.int .i64 0)) := H7r.out.cell 1
              have Rr2 : Hid (W4ab.cell? ⟨w.heap.size + 1 + 1, 2, none⟩ = some (.int .i64 0)) := H7r.out.cell 2
              have Rr3 : Hid (W4ab.cell? ⟨w.heap.size + 1 + 1, 3, none⟩ = some (.int .i64 0)) := H7r.out.cell 3
              have Rr4 : Hid (W4ab.cell? ⟨w.heap.size + 1 + 1, 4, none⟩ = some (.int .i64 0)) := H7r.out.cell 4
              have Rr5 : Hid (W4ab.cell? ⟨w.heap.size + 1 + 1, 5, none⟩ = some (.int .i64 0)) := H7r.out.cell 5
              have Rr6 : Hid (W4ab.cell? ⟨w.heap.size + 1 + 1, 6, none⟩ = some (.slice none 0 0)) := H7r.out.cell 6
              have Rl0 : Hid (W4ab.cell? ⟨w.heap.size + 1 + 1 + 1, 0, none⟩ = some (.int .i64 0)) := H7l.out.cell 0
              have Rl1 : Hid (W4ab.cell? ⟨w.heap.size + 1 + 1 + 1, 1, none⟩ = some (.int .i64 0)) := H7l.out.cell 1
              have Rl2 : Hid (W4ab.cell? ⟨w.heap.size + 1 + 1 + 1, 2, none⟩ = some (.int .i64 0)) := H7l.out.cell 2
              have Rl3 : Hid (W4ab.cell? ⟨w.heap.size + 1 + 1 + 1, 3, none⟩ = some (.int .i64 0)) := H7l.out.cell 3
              have Rl4 : Hid (W4ab.cell? ⟨w.heap.size + 1 + 1 + 1, 4, none⟩ = some (.int .i64 0)) := H7l.out.cell 4
              have Rl5 : Hid (W4ab.cell? ⟨w.heap.size + 1 + 1 + 1, 5, none⟩ = some (.int .i64 0)) := H7l.out.cell 5
              have Rl6 : Hid (W4ab.cell? ⟨w.heap.size + 1 + 1 + 1, 6, none⟩ = some (.int .i64 0)) := H7l.out.cell 6
              go_wp2_with fail
              exact bodyPost_ret (v := .tuple #[.agg #[.int .i64 0, .int .i64 0, .int .i64 0, .int .i64 0, .int .i64 0, .int .i64 0, .slice none 0 0], .agg #[.int .i64 0, .int .i64 0, .int .i64 0, .int .i64 0, .int .i64 0, .int .i64 0, .int .i64 0], .int .i64 20]) (by simp [results, Try.results57, Rr0.out, Rr1.out, Rr2.out, Rr3.out, Rr4.out, Rr5.out, Rr6.out, Rl0.out, Rl1.out, Rl2.out, Rl3.out, Rl4.out, Rl5.out, Rl6.out, go_sem]) rfl ⟨ac0, bi0, none, 0, 0, _, rfl, HV.out, deb.fresh_nil _ _, H7B.out⟩
      · have hne : (fr != 0) = true := by simpa using h4
        have HV : Hid (Refused x t m fr) := by
          rcases hi3 with ⟨q, _⟩ | ⟨_, q, r, _⟩ | ⟨_, _, _, r⟩
          · exact absurd HM.out q
          · exact .inr (.inr ⟨HM.out, HT.out, q, r⟩)
          · exact absurd r h4
        clear hi3 h4
        have H5d : Hid (Blk (w3.alloc (.cells #[.int .i64 b.me, .int .i64 b.rv, .int .i64 b.nx, .int .i64 b.mo, .int .i64 b.bo, .int .i64 b.fr, .slice pr lr cr] 55)) (w.heap.size) #[.int .i64 x.me, .int .i64 x.rv, .int .i64 x.nx, .int .i64 x.mo, .int .i64 x.bo, .int .i64 x.fr, .slice p len cap] 55) := H3d.out.alloc _
        have H5t : Hid (Blk (w3.alloc (.cells #[.int .i64 b.me, .int .i64 b.rv, .int .i64 b.nx, .int .i64 b.mo, .int .i64 b.bo, .int .i64 b.fr, .slice pr lr cr] 55)) (w.heap.size + 1) #[.slice pt lt ct, .int .i64 t.ff, .int .i64 t.fb, .int .i64 t.db, .int .i64 t.al] 40) := H3t.out.alloc _
        have H5r : Hid (Blk (w3.alloc (.cells #[.int .i64 b.me, .int .i64 b.rv, .int .i64 b.nx, .int .i64 b.mo, .int .i64 b.bo, .int .i64 b.fr, .slice pr lr cr] 55)) (w.heap.size + 1 + 1) #[.int .i64 0, .int .i64 0, .int .i64 0, .int .i64 0, .int .i64 0, .int .i64 0, .slice none 0 0] 55) := H3r.out.alloc _
        have H5l : Hid (Blk (w3.alloc (.cells #[.int .i64 b.me, .int .i64 b.rv, .int .i64 b.nx, .int .i64 b.mo, .int .i64 b.bo, .int .i64 b.fr, .slice pr lr cr] 55)) (w.heap.size + 1 + 1 + 1) #[.int .i64 0, .int .i64 0, .int .i64 0, .int .i64 0, .int .i64 0, .int .i64 0, .int .i64 0] 23) := H3l.out.alloc _
        have H5R : Hid (RowD (w3.alloc (.cells #[.int .i64 b.me, .int .i64 b.rv, .int .i64 b.nx, .int .i64 b.mo, .int .i64 b.bo, .int .i64 b.fr, .slice pr lr cr] 55)) p len x.ds) := H3R.out.below ((Below.refl w3.heap.size w3).alloc (Nat.le_refl _) _)
        have H5T : Hid (RowD (w3.alloc (.cells #[.int .i64 b.me, .int .i64 b.rv, .int .i64 b.nx, .int .i64 b.mo, .int .i64 b.bo, .int .i64 b.fr, .slice pr lr cr] 55)) pt lt t.ts) := H3T.out.below ((Below.refl w3.heap.size w3).alloc (Nat.le_refl _) _)
        have H5F : Hid (deb.Fresh (w3.alloc (.cells #[.int .i64 b.me, .int .i64 b.rv, .int .i64 b.nx, .int .i64 b.mo, .int .i64 b.bo, .int .i64 b.fr, .slice pr lr cr] 55)) w2.heap.size pr lr cr b.ds) := H4F.out.below ((Below.refl w3.heap.size w3).alloc (Nat.le_refl _) _)
        have H5n : Hid (Blk (w3.alloc (.cells #[.int .i64 b.me, .int .i64 b.rv, .int .i64 b.nx, .int .i64 b.mo, .int .i64 b.bo, .int .i64 b.fr, .slice pr lr cr] 55)) w3.heap.size #[.int .i64 b.me, .int .i64 b.rv, .int .i64 b.nx, .int .i64 b.mo, .int .i64 b.bo, .int .i64 b.fr, .slice pr lr cr] 55) := Blk.new w3 _ _
        have H5B : Hid (Below w.heap.size w (w3.alloc (.cells #[.int .i64 b.me, .int .i64 b.rv, .int .i64 b.nx, .int .i64 b.mo, .int .i64 b.bo, .int .i64 b.fr, .slice pr lr cr] 55))) := H3B.out.alloc H3B.out.size _
        have hsW4 : w3.heap.size < (w3.alloc (.cells #[.int .i64 b.me, .int .i64 b.rv, .int .i64 b.nx, .int .i64 b.mo, .int .i64 b.bo, .int .i64 b.fr, .slice pr lr cr] 55)).heap.size := (Blk.new w3 #[.int .i64 b.me, .int .i64 b.rv, .int .i64 b.nx, .int .i64 b.mo, .int .i64 b.bo, .int .i64 b.fr, .slice pr lr cr] 55).lt
        clear H3d H3t H3r H3l H3R H3T H4F H3B
        go_upto_region 7 with fail
        generalize (w3.alloc (.cells #[.int .i64 b.me, .int .i64 b.rv, .int .i64 b.nx, .int .i64 b.mo, .int .i64 b.bo, .int .i64 b.fr, .slice pr lr cr] 55)) = W4 at *
        go_wp2_with (first
          | (refine wp_letAll rfl 55 _ _ rfl (w.heap.size + 1 + 1) rfl #[.int .i64 0, .int .i64 0, .int .i64 0, .int .i64 0, .int .i64 0, .int .i64 0, .slice none 0 0] rfl (by kernel_rfl) (by simp [Value.oneCell']) #[.int .i64 0, .int .i64 0, .int .i64 0, .int .i64 0, .int .i64 0, .int .i64 0, .slice none 0 0] 55 H5r.out rfl ?_)
          | (refine wp_whole rfl 55 _ rfl (w.heap.size) rfl 55 #[.int .i64 x.me, .int .i64 x.rv, .int .i64 x.nx, .int .i64 x.mo, .int .i64 x.bo, .int .i64 x.fr, .slice p len cap] _ H5d.out Try.underlying55 rfl (by kernel_rfl) ?_)
          | (refine wp_whole rfl 40 _ rfl (w.heap.size + 1) rfl 40 #[.slice pt lt ct, .int .i64 t.ff, .int .i64 t.fb, .int .i64 t.db, .int .i64 t.al] _ H5t.out Try.underlying40 rfl (by kernel_rfl) ?_)
          | (refine wp_whole rfl 55 _ rfl (w.heap.size + 1 + 1) rfl 55 #[.int .i64 0, .int .i64 0, .int .i64 0, .int .i64 0, .int .i64 0, .int .i64 0, .slice none 0 0] _ H5r.out Try.underlying55 rfl (by kernel_rfl) ?_)
          | (refine wp_whole rfl 23 _ rfl (w.heap.size + 1 + 1 + 1) rfl 23 #[.int .i64 0, .int .i64 0, .int .i64 0, .int .i64 0, .int .i64 0, .int .i64 0, .int .i64 0] _ H5l.out Try.underlying23 rfl (by kernel_rfl) ?_)
          | (refine wp_whole rfl 55 _ rfl (w3.heap.size) rfl 55 #[.int .i64 b.me, .int .i64 b.rv, .int .i64 b.nx, .int .i64 b.mo, .int .i64 b.bo, .int .i64 b.fr, .slice pr lr cr] _ H5n.out Try.underlying55 rfl (by kernel_rfl) ?_)
          | fail)
        intro W4a hU
        have H6d : Hid (Blk W4a (w.heap.size) #[.int .i64 x.me, .int .i64 x.rv, .int .i64 x.nx, .int .i64 x.mo, .int .i64 x.bo, .int .i64 x.fr, .slice p len cap] 55) := hU.keep H5d.out (by omega)
        have H6t : Hid (Blk W4a (w.heap.size + 1) #[.slice pt lt ct, .int .i64 t.ff, .int .i64 t.fb, .int .i64 t.db, .int .i64 t.al] 40) := hU.keep H5t.out (by omega)
        have H6r : Hid (Blk W4a (w.heap.size + 1 + 1) #[.int .i64 0, .int .i64 0, .int .i64 0, .int .i64 0, .int .i64 0, .int .i64 0, .slice none 0 0] 55) := hU.blk
        have H6l : Hid (Blk W4a (w.heap.size + 1 + 1 + 1) #[.int .i64 0, .int .i64 0, .int .i64 0, .int .i64 0, .int .i64 0, .int .i64 0, .int .i64 0] 23) := hU.keep H5l.out (by omega)
        have H6n : Hid (Blk W4a (w3.heap.size) #[.int .i64 b.me, .int .i64 b.rv, .int .i64 b.nx, .int .i64 b.mo, .int .i64 b.bo, .int .i64 b.fr, .slice pr lr cr] 55) := hU.keep H5n.out (by omega)
        have H6F : Hid (deb.Fresh W4a w2.heap.size pr lr cr b.ds) := fresh_updN H5F.out hU (fun hn y hy => by have f1 := H5F.out.new hn y hy; have f2 := HUPF.out hn y hy; omega)
        have H6B : Hid (Below w.heap.size w W4a) := hU.bel _ _ (by omega) H5B.out
        have hsW4a : W4a.heap.size = W4.heap.size := hU.size
        clear hU H5d H5t H5r H5l H5n H5R H5T H5F H5B
        go_wp2_with (first
          | (refine wp_letAll rfl 23 _ _ rfl (w.heap.size + 1 + 1 + 1) rfl #[.int .i64 0, .int .i64 0, .int .i64 0, .int .i64 0, .int .i64 0, .int .i64 0, .int .i64 0] rfl (by kernel_rfl) (by simp [Value.oneCell']) #[.int .i64 0, .int .i64 0, .int .i64 0, .int .i64 0, .int .i64 0, .int .i64 0, .int .i64 0] 23 H6l.out rfl ?_)
          | (refine wp_whole rfl 55 _ rfl (w.heap.size) rfl 55 #[.int .i64 x.me, .int .i64 x.rv, .int .i64 x.nx, .int .i64 x.mo, .int .i64 x.bo, .int .i64 x.fr, .slice p len cap] _ H6d.out Try.underlying55 rfl (by kernel_rfl) ?_)
          | (refine wp_whole rfl 40 _ rfl (w.heap.size + 1) rfl 40 #[.slice pt lt ct, .int .i64 t.ff, .int .i64 t.fb, .int .i64 t.db, .int .i64 t.al] _ H6t.out Try.underlying40 rfl (by kernel_rfl) ?_)
          | (refine wp_whole rfl 55 _ rfl (w.heap.size + 1 + 1) rfl 55 #[.int .i64 0, .int .i64 0, .int .i64 0, .int .i64 0, .int .i64 0, .int .i64 0, .slice none 0 0] _ H6r.out Try.underlying55 rfl (by kernel_rfl) ?_)
          | (refine wp_whole rfl 23 _ rfl (w.heap.size + 1 + 1 + 1) rfl 23 #[.int .i64 0, .int .i64 0, .int .i64 0, .int .i64 0, .int .i64 0, .int .i64 0, .int .i64 0] _ H6l.out Try.underlying23 rfl (by kernel_rfl) ?_)
          | (refine wp_whole rfl 55 _ rfl (w3.heap.size) rfl 55 #[.int .i64 b.me, .int .i64 b.rv, .int .i64 b.nx, .int .i64 b.mo, .int .i64 b.bo, .int .i64 b.fr, .slice pr lr cr] _ H6n.out Try.underlying55 rfl (by kernel_rfl) ?_)
          | fail)
        intro W4ab hU
        have H7d : Hid (Blk W4ab (w.heap.size) #[.int .i64 x.me, .int .i64 x.rv, .int .i64 x.nx, .int .i64 x.mo, .int .i64 x.bo, .int .i64 x.fr, .slice p len cap] 55) := hU.keep H6d.out (by omega)
        have H7t : Hid (Blk W4ab (w.heap.size + 1) #[.slice pt lt ct, .int .i64 t.ff, .int .i64 t.fb, .int .i64 t.db, .int .i64 t.al] 40) := hU.keep H6t.out (by omega)
        have H7r : Hid (Blk W4ab (w.heap.size + 1 + 1) #[.int .i64 0, .int .i64 0, .int .i64 0, .int .i64 0, .int .i64 0, .int .i64 0, .slice none 0 0] 55) := hU.keep H6r.out (by omega)
        have H7l : Hid (Blk W4ab (w.heap.size + 1 + 1 + 1) #[.int .i64 0, .int .i64 0, .int .i64 0, .int .i64 0, .int .i64 0, .int .i64 0, .int .i64 0] 23) := hU.blk
        have H7n : Hid (Blk W4ab (w3.heap.size) #[.int .i64 b.me, .int .i64 b.rv, .int .i64 b.nx, .int .i64 b.mo, .int .i64 b.bo, .int .i64 b.fr, .slice pr lr cr] 55) := hU.keep H6n.out (by omega)
        have H7F : Hid (deb.Fresh W4ab w2.heap.size pr lr cr b.ds) := fresh_updN H6F.out hU (fun hn y hy => by have f1 := H6F.out.new hn y hy; have f2 := HUPF.out hn y hy; omega)
        have H7B : Hid (Below w.heap.size w W4ab) := hU.bel _ _ (by omega) H6B.out
        have hsW4ab : W4ab.heap.size = W4a.heap.size := hU.size
        clear hU H6d H6t H6r H6l H6n H6F H6B
        have Rr0 : Hid (W4ab.cell? ⟨w.heap.size + 1 + 1, 0, none⟩ = some (.int .i64 0)) := H7r.out.cell 0
        have Rr1 : Hid (W4ab.cell? ⟨w.heap.size + 1 + 1, 1, none⟩ = some (.int .i64 0)) := H7r.out.cell 1
        have Rr2 : Hid (W4ab.cell? ⟨w.heap.size + 1 + 1, 2, none⟩ = some (.int .i64 0)) := H7r.out.cell 2
        have Rr3 : Hid (W4ab.cell? ⟨w.heap.size + 1 + 1, 3, none⟩ = some (.int .i64 0)) := H7r.out.cell 3
        have Rr4 : Hid (W4ab.cell? ⟨w.heap.size + 1 + 1, 4, none⟩ = some (.int .i64 0)) := H7r.out.cell 4
        have Rr5 : Hid (W4ab.cell? ⟨w.heap.size + 1 + 1, 5, none⟩ = some (.int .i64 0)) := H7r.out.cell 5
        have Rr6 : Hid (W4ab.cell? ⟨w.heap.size + 1 + 1, 6, none⟩ = some (.slice none 0 0)) := H7r.out.cell 6
        have Rl0 : Hid (W4ab.cell? ⟨w.heap.size + 1 + 1 + 1, 0, none⟩ = some (.int .i64 0)) := H7l.out.cell 0
        have Rl1 : Hid (W4ab.cell? ⟨w.heap.size + 1 + 1 + 1, 1, none⟩ = some (.int .i64 0)) := H7l.out.cell 1
        have Rl2 : Hid (W4ab.cell? ⟨w.heap.size + 1 + 1 + 1, 2, none⟩ = some (.int .i64 0)) := H7l.out.cell 2
        have Rl3 : Hid (W4ab.cell? ⟨w.heap.size + 1 + 1 + 1, 3, none⟩ = some (.int .i64 0)) := H7l.out.cell 3
        have Rl4 : Hid (W4ab.cell? ⟨w.heap.size + 1 + 1 + 1, 4, none⟩ = some (.int .i64 0)) := H7l.out.cell 4
        have Rl5 : Hid (W4ab.cell? ⟨w.heap.size + 1 + 1 + 1, 5, none⟩ = some (.int .i64 0)) := H7l.out.cell 5
        have Rl6 : Hid (W4ab.cell? ⟨w.heap.size + 1 + 1 + 1, 6, none⟩ = some (.int .i64 0)) := H7l.out.cell 6
        go_wp2_with fail
        exact bodyPost_ret (v := .tuple #[.agg #[.int .i64 0, .int .i64 0, .int .i64 0, .int .i64 0, .int .i64 0, .int .i64 0, .slice none 0 0], .agg #[.int .i64 0, .int .i64 0, .int .i64 0, .int .i64 0, .int .i64 0, .int .i64 0, .int .i64 0], .int .i64 fr]) (by simp [results, Try.results57, Rr0.out, Rr1.out, Rr2.out, Rr3.out, Rr4.out, Rr5.out, Rr6.out, Rl0.out, Rl1.out, Rl2.out, Rl3.out, Rl4.out, Rl5.out, Rl6.out, go_sem]) rfl ⟨ac0, bi0, none, 0, 0, _, rfl, .inl ⟨HV.out, rfl, rfl⟩, deb.fresh_nil _ _, H7B.out⟩
    · have hne : (ft != 0) = true := by simpa using h0
      have HV : Hid (Refused x t m ft) := .inr (.inl ⟨HM.out, fun h => h0 (hft.ok.2 h), hft⟩)
      clear hft h0
      go_wp2_with (first
        | (refine wp_letAll rfl 55 _ _ rfl (w.heap.size + 1 + 1) rfl #[.int .i64 0, .int .i64 0, .int .i64 0, .int .i64 0, .int .i64 0, .int .i64 0, .slice none 0 0] rfl (by kernel_rfl) (by simp [Value.oneCell']) #[.int .i64 0, .int .i64 0, .int .i64 0, .int .i64 0, .int .i64 0, .int .i64 0, .slice none 0 0] 55 H2r.out rfl ?_)
        | (refine wp_whole rfl 55 _ rfl (w.heap.size) rfl 55 #[.int .i64 x.me, .int .i64 x.rv, .int .i64 x.nx, .int .i64 x.mo, .int .i64 x.bo, .int .i64 x.fr, .slice p len cap] _ H2d.out Try.underlying55 rfl (by kernel_rfl) ?_)
        | (refine wp_whole rfl 40 _ rfl (w.heap.size + 1) rfl 40 #[.slice pt lt ct, .int .i64 t.ff, .int .i64 t.fb, .int .i64 t.db, .int .i64 t.al] _ H2t.out Try.underlying40 rfl (by kernel_rfl) ?_)
        | (refine wp_whole rfl 55 _ rfl (w.heap.size + 1 + 1) rfl 55 #[.int .i64 0, .int .i64 0, .int .i64 0, .int .i64 0, .int .i64 0, .int .i64 0, .slice none 0 0] _ H2r.out Try.underlying55 rfl (by kernel_rfl) ?_)
        | (refine wp_whole rfl 23 _ rfl (w.heap.size + 1 + 1 + 1) rfl 23 #[.int .i64 0, .int .i64 0, .int .i64 0, .int .i64 0, .int .i64 0, .int .i64 0, .int .i64 0] _ H2l.out Try.underlying23 rfl (by kernel_rfl) ?_)
        | fail)
      intro w2a hU
      have H3d : Hid (Blk w2a (w.heap.size) #[.int .i64 x.me, .int .i64 x.rv, .int .i64 x.nx, .int .i64 x.mo, .int .i64 x.bo, .int .i64 x.fr, .slice p len cap] 55) := hU.keep H2d.out (by omega)
      have H3t : Hid (Blk w2a (w.heap.size + 1) #[.slice pt lt ct, .int .i64 t.ff, .int .i64 t.fb, .int .i64 t.db, .int .i64 t.al] 40) := hU.keep H2t.out (by omega)
      have H3r : Hid (Blk w2a (w.heap.size + 1 + 1) #[.int .i64 0, .int .i64 0, .int .i64 0, .int .i64 0, .int .i64 0, .int .i64 0, .slice none 0 0] 55) := hU.blk
      have H3l : Hid (Blk w2a (w.heap.size + 1 + 1 + 1) #[.int .i64 0, .int .i64 0, .int .i64 0, .int .i64 0, .int .i64 0, .int .i64 0, .int .i64 0] 23) := hU.keep H2l.out (by omega)
      have H3B : Hid (Below w.heap.size w w2a) := hU.bel _ _ (by omega) H2B.out
      have hsw2a : w2a.heap.size = w2.heap.size := hU.size
      clear hU H2d H2t H2r H2l H2R H2T H2B
      go_wp2_with (first
        | (refine wp_letAll rfl 23 _ _ rfl (w.heap.size + 1 + 1 + 1) rfl #[.int .i64 0, .int .i64 0, .int .i64 0, .int .i64 0, .int .i64 0, .int .i64 0, .int .i64 0] rfl (by kernel_rfl) (by simp [Value.oneCell']) #[.int .i64 0, .int .i64 0, .int .i64 0, .int .i64 0, .int .i64 0, .int .i64 0, .int .i64 0] 23 H3l.out rfl ?_)
        | (refine wp_whole rfl 55 _ rfl (w.heap.size) rfl 55 #[.int .i64 x.me, .int .i64 x.rv, .int .i64 x.nx, .int .i64 x.mo, .int .i64 x.bo, .int .i64 x.fr, .slice p len cap] _ H3d.out Try.underlying55 rfl (by kernel_rfl) ?_)
        | (refine wp_whole rfl 40 _ rfl (w.heap.size + 1) rfl 40 #[.slice pt lt ct, .int .i64 t.ff, .int .i64 t.fb, .int .i64 t.db, .int .i64 t.al] _ H3t.out Try.underlying40 rfl (by kernel_rfl) ?_)
        | (refine wp_whole rfl 55 _ rfl (w.heap.size + 1 + 1) rfl 55 #[.int .i64 0, .int .i64 0, .int .i64 0, .int .i64 0, .int .i64 0, .int .i64 0, .slice none 0 0] _ H3r.out Try.underlying55 rfl (by kernel_rfl) ?_)
        | (refine wp_whole rfl 23 _ rfl (w.heap.size + 1 + 1 + 1) rfl 23 #[.int .i64 0, .int .i64 0, .int .i64 0, .int .i64 0, .int .i64 0, .int .i64 0, .int .i64 0] _ H3l.out Try.underlying23 rfl (by kernel_rfl) ?_)
        | fail)
      intro w2ab hU
      have H4d : Hid (Blk w2ab (w.heap.size) #[.int .i64 x.me, .int .i64 x.rv, .int .i64 x.nx, .int .i64 x.mo, .int .i64 x.bo, .int .i64 x.fr, .slice p len cap] 55) := hU.keep H3d.out (by omega)
      have H4t : Hid (Blk w2ab (w.heap.size + 1) #[.slice pt lt ct, .int .i64 t.ff, .int .i64 t.fb, .int .i64 t.db, .int .i64 t.al] 40) := hU.keep H3t.out (by omega)
      have H4r : Hid (Blk w2ab (w.heap.size + 1 + 1) #[.int .i64 0, .int .i64 0, .int .i64 0, .int .i64 0, .int .i64 0, .int .i64 0, .slice none 0 0] 55) := hU.keep H3r.out (by omega)
      have H4l : Hid (Blk w2ab (w.heap.size + 1 + 1 + 1) #[.int .i64 0, .int .i64 0, .int .i64 0, .int .i64 0, .int .i64 0, .int .i64 0, .int .i64 0] 23) := hU.blk
      have H4B : Hid (Below w.heap.size w w2ab) := hU.bel _ _ (by omega) H3B.out
      have hsw2ab : w2ab.heap.size = w2a.heap.size := hU.size
      clear hU H3d H3t H3r H3l H3B
      have Rr0 : Hid (w2ab.cell? ⟨w.heap.size + 1 + 1, 0, none⟩ = some (.int .i64 0)) := H4r.out.cell 0
      have Rr1 : Hid (w2ab.cell? ⟨w.heap.size + 1 + 1, 1, none⟩ = some (.int .i64 0)) := H4r.out.cell 1
      have Rr2 : Hid (w2ab.cell? ⟨w.heap.size + 1 + 1, 2, none⟩ = some (.int .i64 0)) := H4r.out.cell 2
      have Rr3 : Hid (w2ab.cell? ⟨w.heap.size + 1 + 1, 3, none⟩ = some (.int .i64 0)) := H4r.out.cell 3
      have Rr4 : Hid (w2ab.cell? ⟨w.heap.size + 1 + 1, 4, none⟩ = some (.int .i64 0)) := H4r.out.cell 4
      have Rr5 : Hid (w2ab.cell? ⟨w.heap.size + 1 + 1, 5, none⟩ = some (.int .i64 0)) := H4r.out.cell 5
      have Rr6 : Hid (w2ab.cell? ⟨w.heap.size + 1 + 1, 6, none⟩ = some (.slice none 0 0)) := H4r.out.cell 6
      have Rl0 : Hid (w2ab.cell? ⟨w.heap.size + 1 + 1 + 1, 0, none⟩ = some (.int .i64 0)) := H4l.out.cell 0
      have Rl1 : Hid (w2ab.cell? ⟨w.heap.size + 1 + 1 + 1, 1, none⟩ = some (.int .i64 0)) := H4l.out.cell 1
      have Rl2 : Hid (w2ab.cell? ⟨w.heap.size + 1 + 1 + 1, 2, none⟩ = some (.int .i64 0)) := H4l.out.cell 2
      have Rl3 : Hid (w2ab.cell? ⟨w.heap.size + 1 + 1 + 1, 3, none⟩ = some (.int .i64 0)) := H4l.out.cell 3
      have Rl4 : Hid (w2ab.cell? ⟨w.heap.size + 1 + 1 + 1, 4, none⟩ = some (.int .i64 0)) := H4l.out.cell 4
      have Rl5 : Hid (w2ab.cell? ⟨w.heap.size + 1 + 1 + 1, 5, none⟩ = some (.int .i64 0)) := H4l.out.cell 5
      have Rl6 : Hid (w2ab.cell? ⟨w.heap.size + 1 + 1 + 1, 6, none⟩ = some (.int .i64 0)) := H4l.out.cell 6
      go_wp2_with fail
      exact bodyPost_ret (v := .tuple #[.agg #[.int .i64 0, .int .i64 0, .int .i64 0, .int .i64 0, .int .i64 0, .int .i64 0, .slice none 0 0], .agg #[.int .i64 0, .int .i64 0, .int .i64 0, .int .i64 0, .int .i64 0, .int .i64 0, .int .i64 0], .int .i64 ft]) (by simp [results, Try.results57, Rr0.out, Rr1.out, Rr2.out, Rr3.out, Rr4.out, Rr5.out, Rr6.out, Rl0.out, Rl1.out, Rl2.out, Rl3.out, Rl4.out, Rl5.out, Rl6.out, go_sem]) rfl ⟨ac0, bi0, none, 0, 0, _, rfl, .inl ⟨HV.out, rfl, rfl⟩, deb.fresh_nil _ _, H4B.out⟩
  · have HM : Hid (¬ AMay x) := hm
    have H0d : Hid (Blk ((((w.alloc (.cells #[.int .i64 x.me, .int .i64 x.rv, .int .i64 x.nx, .int .i64 x.mo, .int .i64 x.bo, .int .i64 x.fr, .slice p len cap] 55)).alloc (.cells #[.slice pt lt ct, .int .i64 t.ff, .int .i64 t.fb, .int .i64 t.db, .int .i64 t.al] 40)).alloc (.cells #[.int .i64 0, .int .i64 0, .int .i64 0, .int .i64 0, .int .i64 0, .int .i64 0, .slice none 0 0] 55)).alloc (.cells #[.int .i64 0, .int .i64 0, .int .i64 0, .int .i64 0, .int .i64 0, .int .i64 0, .int .i64 0] 23)) (w.heap.size) #[.int .i64 x.me, .int .i64 x.rv, .int .i64 x.nx, .int .i64 x.mo, .int .i64 x.bo, .int .i64 x.fr, .slice p len cap] 55) := (((Blk.new w _ _).alloc _).alloc _).alloc _
    have H0t : Hid (Blk ((((w.alloc (.cells #[.int .i64 x.me, .int .i64 x.rv, .int .i64 x.nx, .int .i64 x.mo, .int .i64 x.bo, .int .i64 x.fr, .slice p len cap] 55)).alloc (.cells #[.slice pt lt ct, .int .i64 t.ff, .int .i64 t.fb, .int .i64 t.db, .int .i64 t.al] 40)).alloc (.cells #[.int .i64 0, .int .i64 0, .int .i64 0, .int .i64 0, .int .i64 0, .int .i64 0, .slice none 0 0] 55)).alloc (.cells #[.int .i64 0, .int .i64 0, .int .i64 0, .int .i64 0, .int .i64 0, .int .i64 0, .int .i64 0] 23)) (w.heap.size + 1) #[.slice pt lt ct, .int .i64 t.ff, .int .i64 t.fb, .int .i64 t.db, .int .i64 t.al] 40) := ((Blk.new1 w _ _ _).alloc _).alloc _
    have H0r : Hid (Blk ((((w.alloc (.cells #[.int .i64 x.me, .int .i64 x.rv, .int .i64 x.nx, .int .i64 x.mo, .int .i64 x.bo, .int .i64 x.fr, .slice p len cap] 55)).alloc (.cells #[.slice pt lt ct, .int .i64 t.ff, .int .i64 t.fb, .int .i64 t.db, .int .i64 t.al] 40)).alloc (.cells #[.int .i64 0, .int .i64 0, .int .i64 0, .int .i64 0, .int .i64 0, .int .i64 0, .slice none 0 0] 55)).alloc (.cells #[.int .i64 0, .int .i64 0, .int .i64 0, .int .i64 0, .int .i64 0, .int .i64 0, .int .i64 0] 23)) (w.heap.size + 1 + 1) #[.int .i64 0, .int .i64 0, .int .i64 0, .int .i64 0, .int .i64 0, .int .i64 0, .slice none 0 0] 55) := (Blk.new2 w _ _ _ _).alloc _
    have H0l : Hid (Blk ((((w.alloc (.cells #[.int .i64 x.me, .int .i64 x.rv, .int .i64 x.nx, .int .i64 x.mo, .int .i64 x.bo, .int .i64 x.fr, .slice p len cap] 55)).alloc (.cells #[.slice pt lt ct, .int .i64 t.ff, .int .i64 t.fb, .int .i64 t.db, .int .i64 t.al] 40)).alloc (.cells #[.int .i64 0, .int .i64 0, .int .i64 0, .int .i64 0, .int .i64 0, .int .i64 0, .slice none 0 0] 55)).alloc (.cells #[.int .i64 0, .int .i64 0, .int .i64 0, .int .i64 0, .int .i64 0, .int .i64 0, .int .i64 0] 23)) (w.heap.size + 1 + 1 + 1) #[.int .i64 0, .int .i64 0, .int .i64 0, .int .i64 0, .int .i64 0, .int .i64 0, .int .i64 0] 23) := Blk.new3 w _ _ _ _ _
    have H0B : Hid (Below w.heap.size w ((((w.alloc (.cells #[.int .i64 x.me, .int .i64 x.rv, .int .i64 x.nx, .int .i64 x.mo, .int .i64 x.bo, .int .i64 x.fr, .slice p len cap] 55)).alloc (.cells #[.slice pt lt ct, .int .i64 t.ff, .int .i64 t.fb, .int .i64 t.db, .int .i64 t.al] 40)).alloc (.cells #[.int .i64 0, .int .i64 0, .int .i64 0, .int .i64 0, .int .i64 0, .int .i64 0, .slice none 0 0] 55)).alloc (.cells #[.int .i64 0, .int .i64 0, .int .i64 0, .int .i64 0, .int .i64 0, .int .i64 0, .int .i64 0] 23))) := ((((Below.refl w.heap.size w).alloc (by simp) _).alloc (by simp) _).alloc (by simp; omega) _).alloc (by simp; omega) _
    have H0R : Hid (RowD ((((w.alloc (.cells #[.int .i64 x.me, .int .i64 x.rv, .int .i64 x.nx, .int .i64 x.mo, .int .i64 x.bo, .int .i64 x.fr, .slice p len cap] 55)).alloc (.cells #[.slice pt lt ct, .int .i64 t.ff, .int .i64 t.fb, .int .i64 t.db, .int .i64 t.al] 40)).alloc (.cells #[.int .i64 0, .int .i64 0, .int .i64 0, .int .i64 0, .int .i64 0, .int .i64 0, .slice none 0 0] 55)).alloc (.cells #[.int .i64 0, .int .i64 0, .int .i64 0, .int .i64 0, .int .i64 0, .int .i64 0, .int .i64 0] 23)) p len x.ds) := h.below H0B.out
    have H0T : Hid (RowD ((((w.alloc (.cells #[.int .i64 x.me, .int .i64 x.rv, .int .i64 x.nx, .int .i64 x.mo, .int .i64 x.bo, .int .i64 x.fr, .slice p len cap] 55)).alloc (.cells #[.slice pt lt ct, .int .i64 t.ff, .int .i64 t.fb, .int .i64 t.db, .int .i64 t.al] 40)).alloc (.cells #[.int .i64 0, .int .i64 0, .int .i64 0, .int .i64 0, .int .i64 0, .int .i64 0, .slice none 0 0] 55)).alloc (.cells #[.int .i64 0, .int .i64 0, .int .i64 0, .int .i64 0, .int .i64 0, .int .i64 0, .int .i64 0] 23)) pt lt t.ts) := ht.below H0B.out
    have hs0 : w.heap.size + 1 + 1 + 1 < ((((w.alloc (.cells #[.int .i64 x.me, .int .i64 x.rv, .int .i64 x.nx, .int .i64 x.mo, .int .i64 x.bo, .int .i64 x.fr, .slice p len cap] 55)).alloc (.cells #[.slice pt lt ct, .int .i64 t.ff, .int .i64 t.fb, .int .i64 t.db, .int .i64 t.al] 40)).alloc (.cells #[.int .i64 0, .int .i64 0, .int .i64 0, .int .i64 0, .int .i64 0, .int .i64 0, .slice none 0 0] 55)).alloc (.cells #[.int .i64 0, .int .i64 0, .int .i64 0, .int .i64 0, .int .i64 0, .int .i64 0, .int .i64 0] 23)).heap.size := H0l.out.lt
    generalize hWW : ((((w.alloc (.cells #[.int .i64 x.me, .int .i64 x.rv, .int .i64 x.nx, .int .i64 x.mo, .int .i64 x.bo, .int .i64 x.fr, .slice p len cap] 55)).alloc (.cells #[.slice pt lt ct, .int .i64 t.ff, .int .i64 t.fb, .int .i64 t.db, .int .i64 t.al] 40)).alloc (.cells #[.int .i64 0, .int .i64 0, .int .i64 0, .int .i64 0, .int .i64 0, .int .i64 0, .slice none 0 0] 55)).alloc (.cells #[.int .i64 0, .int .i64 0, .int .i64 0, .int .i64 0, .int .i64 0, .int .i64 0, .int .i64 0] 23)) = W0 at *
    have HWW : Hid (((((w.alloc (.cells #[.int .i64 x.me, .int .i64 x.rv, .int .i64 x.nx, .int .i64 x.mo, .int .i64 x.bo, .int .i64 x.fr, .slice p len cap] 55)).alloc (.cells #[.slice pt lt ct, .int .i64 t.ff, .int .i64 t.fb, .int .i64 t.db, .int .i64 t.al] 40)).alloc (.cells #[.int .i64 0, .int .i64 0, .int .i64 0, .int .i64 0, .int .i64 0, .int .i64 0, .slice none 0 0] 55)).alloc (.cells #[.int .i64 0, .int .i64 0, .int .i64 0, .int .i64 0, .int .i64 0, .int .i64 0, .int .i64 0] 23)) = W0) := hWW
    clear hWW
    go_enter Try.func57, Try.ntmps57
    go_upto_region 1 with fail
    rw [HWW.out]
    clear HWW
    have HAM : Hid (Calls Try.prog 68 #[.agg #[.int .i64 x.me, .int .i64 x.rv, .int .i64 x.nx, .int .i64 x.mo, .int .i64 x.bo, .int .i64 x.fr, .slice p len cap]] W0 fun e w' => e = .returned (.bool false) ∧ Below W0.heap.size W0 w') := ranot x p len cap _ H0R.out hl hm
    go_wp2_with (first
      | (refine wp_whole rfl 55 _ rfl (w.heap.size) rfl 55 #[.int .i64 x.me, .int .i64 x.rv, .int .i64 x.nx, .int .i64 x.mo, .int .i64 x.bo, .int .i64 x.fr, .slice p len cap] _ H0d.out Try.underlying55 rfl (by kernel_rfl) ?_)
      | (refine wp_whole rfl 40 _ rfl (w.heap.size + 1) rfl 40 #[.slice pt lt ct, .int .i64 t.ff, .int .i64 t.fb, .int .i64 t.db, .int .i64 t.al] _ H0t.out Try.underlying40 rfl (by kernel_rfl) ?_)
      | (refine wp_whole rfl 55 _ rfl (w.heap.size + 1 + 1) rfl 55 #[.int .i64 0, .int .i64 0, .int .i64 0, .int .i64 0, .int .i64 0, .int .i64 0, .slice none 0 0] _ H0r.out Try.underlying55 rfl (by kernel_rfl) ?_)
      | (refine wp_whole rfl 23 _ rfl (w.heap.size + 1 + 1 + 1) rfl 23 #[.int .i64 0, .int .i64 0, .int .i64 0, .int .i64 0, .int .i64 0, .int .i64 0, .int .i64 0] _ H0l.out Try.underlying23 rfl (by kernel_rfl) ?_)
      | fail)
    refine HAM.out.mono ?_
    rintro e w1 ⟨rfl, hb1⟩
    have H1d : Hid (Blk w1 (w.heap.size) #[.int .i64 x.me, .int .i64 x.rv, .int .i64 x.nx, .int .i64 x.mo, .int .i64 x.bo, .int .i64 x.fr, .slice p len cap] 55) := H0d.out.next hb1
    have H1t : Hid (Blk w1 (w.heap.size + 1) #[.slice pt lt ct, .int .i64 t.ff, .int .i64 t.fb, .int .i64 t.db, .int .i64 t.al] 40) := H0t.out.next hb1
    have H1r : Hid (Blk w1 (w.heap.size + 1 + 1) #[.int .i64 0, .int .i64 0, .int .i64 0, .int .i64 0, .int .i64 0, .int .i64 0, .slice none 0 0] 55) := H0r.out.next hb1
    have H1l : Hid (Blk w1 (w.heap.size + 1 + 1 + 1) #[.int .i64 0, .int .i64 0, .int .i64 0, .int .i64 0, .int .i64 0, .int .i64 0, .int .i64 0] 23) := H0l.out.next hb1
    have H1R : Hid (RowD w1 p len x.ds) := H0R.out.below hb1
    have H1T : Hid (RowD w1 pt lt t.ts) := H0T.out.below hb1
    have H1B : Hid (Below w.heap.size w w1) := H0B.out.trans (hb1.mono H0B.out.size)
    have hsw1 : W0.heap.size ≤ w1.heap.size := hb1.size
    clear hb1 H0d H0t H0r H0l H0R H0T H0B
    clear HAM
    go_wp2_with (first
      | (refine wp_letAll rfl 55 _ _ rfl (w.heap.size + 1 + 1) rfl #[.int .i64 0, .int .i64 0, .int .i64 0, .int .i64 0, .int .i64 0, .int .i64 0, .slice none 0 0] rfl (by kernel_rfl) (by simp [Value.oneCell']) #[.int .i64 0, .int .i64 0, .int .i64 0, .int .i64 0, .int .i64 0, .int .i64 0, .slice none 0 0] 55 H1r.out rfl ?_)
      | (refine wp_whole rfl 55 _ rfl (w.heap.size) rfl 55 #[.int .i64 x.me, .int .i64 x.rv, .int .i64 x.nx, .int .i64 x.mo, .int .i64 x.bo, .int .i64 x.fr, .slice p len cap] _ H1d.out Try.underlying55 rfl (by kernel_rfl) ?_)
      | (refine wp_whole rfl 40 _ rfl (w.heap.size + 1) rfl 40 #[.slice pt lt ct, .int .i64 t.ff, .int .i64 t.fb, .int .i64 t.db, .int .i64 t.al] _ H1t.out Try.underlying40 rfl (by kernel_rfl) ?_)
      | (refine wp_whole rfl 55 _ rfl (w.heap.size + 1 + 1) rfl 55 #[.int .i64 0, .int .i64 0, .int .i64 0, .int .i64 0, .int .i64 0, .int .i64 0, .slice none 0 0] _ H1r.out Try.underlying55 rfl (by kernel_rfl) ?_)
      | (refine wp_whole rfl 23 _ rfl (w.heap.size + 1 + 1 + 1) rfl 23 #[.int .i64 0, .int .i64 0, .int .i64 0, .int .i64 0, .int .i64 0, .int .i64 0, .int .i64 0] _ H1l.out Try.underlying23 rfl (by kernel_rfl) ?_)
      | fail)
    intro w1a hU
    have H2d : Hid (Blk w1a (w.heap.size) #[.int .i64 x.me, .int .i64 x.rv, .int .i64 x.nx, .int .i64 x.mo, .int .i64 x.bo, .int .i64 x.fr, .slice p len cap] 55) := hU.keep H1d.out (by omega)
    have H2t : Hid (Blk w1a (w.heap.size + 1) #[.slice pt lt ct, .int .i64 t.ff, .int .i64 t.fb, .int .i64 t.db, .int .i64 t.al] 40) := hU.keep H1t.out (by omega)
    have H2r : Hid (Blk w1a (w.heap.size + 1 + 1) #[.int .i64 0, .int .i64 0, .int .i64 0, .int .i64 0, .int .i64 0, .int .i64 0, .slice none 0 0] 55) := hU.blk
    have H2l : Hid (Blk w1a (w.heap.size + 1 + 1 + 1) #[.int .i64 0, .int .i64 0, .int .i64 0, .int .i64 0, .int .i64 0, .int .i64 0, .int .i64 0] 23) := hU.keep H1l.out (by omega)
    have H2B : Hid (Below w.heap.size w w1a) := hU.bel _ _ (by omega) H1B.out
    have hsw1a : w1a.heap.size = w1.heap.size := hU.size
    clear hU H1d H1t H1r H1l H1R H1T H1B
    go_wp2_with (first
      | (refine wp_letAll rfl 23 _ _ rfl (w.heap.size + 1 + 1 + 1) rfl #[.int .i64 0, .int .i64 0, .int .i64 0, .int .i64 0, .int .i64 0, .int .i64 0, .int .i64 0] rfl (by kernel_rfl) (by simp [Value.oneCell']) #[.int .i64 0, .int .i64 0, .int .i64 0, .int .i64 0, .int .i64 0, .int .i64 0, .int .i64 0] 23 H2l.out rfl ?_)
      | (refine wp_whole rfl 55 _ rfl (w.heap.size) rfl 55 #[.int .i64 x.me, .int .i64 x.rv, .int .i64 x.nx, .int .i64 x.mo, .int .i64 x.bo, .int .i64 x.fr, .slice p len cap] _ H2d.out Try.underlying55 rfl (by kernel_rfl) ?_)
      | (refine wp_whole rfl 40 _ rfl (w.heap.size + 1) rfl 40 #[.slice pt lt ct, .int .i64 t.ff, .int .i64 t.fb, .int .i64 t.db, .int .i64 t.al] _ H2t.out Try.underlying40 rfl (by kernel_rfl) ?_)
      | (refine wp_whole rfl 55 _ rfl (w.heap.size + 1 + 1) rfl 55 #[.int .i64 0, .int .i64 0, .int .i64 0, .int .i64 0, .int .i64 0, .int .i64 0, .slice none 0 0] _ H2r.out Try.underlying55 rfl (by kernel_rfl) ?_)
      | (refine wp_whole rfl 23 _ rfl (w.heap.size + 1 + 1 + 1) rfl 23 #[.int .i64 0, .int .i64 0, .int .i64 0, .int .i64 0, .int .i64 0, .int .i64 0, .int .i64 0] _ H2l.out Try.underlying23 rfl (by kernel_rfl) ?_)
      | fail)
    intro w1ab hU
    have H3d : Hid (Blk w1ab (w.heap.size) #[.int .i64 x.me, .int .i64 x.rv, .int .i64 x.nx, .int .i64 x.mo, .int .i64 x.bo, .int .i64 x.fr, .slice p len cap] 55) := hU.keep H2d.out (by omega)
    have H3t : Hid (Blk w1ab (w.heap.size + 1) #[.slice pt lt ct, .int .i64 t.ff, .int .i64 t.fb, .int .i64 t.db, .int .i64 t.al] 40) := hU.keep H2t.out (by omega)
    have H3r : Hid (Blk w1ab (w.heap.size + 1 + 1) #[.int .i64 0, .int .i64 0, .int .i64 0, .int .i64 0, .int .i64 0, .int .i64 0, .slice none 0 0] 55) := hU.keep H2r.out (by omega)
    have H3l : Hid (Blk w1ab (w.heap.size + 1 + 1 + 1) #[.int .i64 0, .int .i64 0, .int .i64 0, .int .i64 0, .int .i64 0, .int .i64 0, .int .i64 0] 23) := hU.blk
    have H3B : Hid (Below w.heap.size w w1ab) := hU.bel _ _ (by omega) H2B.out
    have hsw1ab : w1ab.heap.size = w1a.heap.size := hU.size
    clear hU H2d H2t H2r H2l H2B
    have Rr0 : Hid (w1ab.cell? ⟨w.heap.size + 1 + 1, 0, none⟩ = some (.int .i64 0)) := H3r.out.cell 0
    have Rr1 : Hid (w1ab.cell? ⟨w.heap.size + 1 + 1, 1, none⟩ = some (.int .i64 0)) := H3r.out.cell 1
    have Rr2 : Hid (w1ab.cell? ⟨w.heap.size + 1 + 1, 2, none⟩ = some (.int .i64 0)) := H3r.out.cell 2
    have Rr3 : Hid (w1ab.cell? ⟨w.heap.size + 1 + 1, 3, none⟩ = some (.int .i64 0)) := H3r.out.cell 3
    have Rr4 : Hid (w1ab.cell? ⟨w.heap.size + 1 + 1, 4, none⟩ = some (.int .i64 0)) := H3r.out.cell 4
    have Rr5 : Hid (w1ab.cell? ⟨w.heap.size + 1 + 1, 5, none⟩ = some (.int .i64 0)) := H3r.out.cell 5
    have Rr6 : Hid (w1ab.cell? ⟨w.heap.size + 1 + 1, 6, none⟩ = some (.slice none 0 0)) := H3r.out.cell 6
    have Rl0 : Hid (w1ab.cell? ⟨w.heap.size + 1 + 1 + 1, 0, none⟩ = some (.int .i64 0)) := H3l.out.cell 0
    have Rl1 : Hid (w1ab.cell? ⟨w.heap.size + 1 + 1 + 1, 1, none⟩ = some (.int .i64 0)) := H3l.out.cell 1
    have Rl2 : Hid (w1ab.cell? ⟨w.heap.size + 1 + 1 + 1, 2, none⟩ = some (.int .i64 0)) := H3l.out.cell 2
    have Rl3 : Hid (w1ab.cell? ⟨w.heap.size + 1 + 1 + 1, 3, none⟩ = some (.int .i64 0)) := H3l.out.cell 3
    have Rl4 : Hid (w1ab.cell? ⟨w.heap.size + 1 + 1 + 1, 4, none⟩ = some (.int .i64 0)) := H3l.out.cell 4
    have Rl5 : Hid (w1ab.cell? ⟨w.heap.size + 1 + 1 + 1, 5, none⟩ = some (.int .i64 0)) := H3l.out.cell 5
    have Rl6 : Hid (w1ab.cell? ⟨w.heap.size + 1 + 1 + 1, 6, none⟩ = some (.int .i64 0)) := H3l.out.cell 6
    go_wp2_with fail
    exact bodyPost_ret (v := .tuple #[.agg #[.int .i64 0, .int .i64 0, .int .i64 0, .int .i64 0, .int .i64 0, .int .i64 0, .slice none 0 0], .agg #[.int .i64 0, .int .i64 0, .int .i64 0, .int .i64 0, .int .i64 0, .int .i64 0, .int .i64 0], .int .i64 5]) (by simp [results, Try.results57, Rr0.out, Rr1.out, Rr2.out, Rr3.out, Rr4.out, Rr5.out, Rr6.out, Rl0.out, Rl1.out, Rl2.out, Rl3.out, Rl4.out, Rl5.out, Rl6.out, go_sem]) rfl ⟨ac0, bi0, none, 0, 0, _, rfl, .inl ⟨.inl ⟨HM.out, rfl⟩, rfl, rfl⟩, deb.fresh_nil _ _, H3B.out⟩

end Go.Proofs.Ytfhlokjpdkmdjaa.acc

/- What a grant does to a customer, as the document has it. -/
namespace Go.Proofs.Ytfhlokjpdkmdjaa.book
open Go.RowKit
open Go.Proofs.Ytfhlokjpdkmdjaa.acc (Ac Tm Bi APost BPost OweIs SellIs GrantIs RekeyIs)
set_option maxRecDepth 100000
set_option linter.unusedVariables false
set_option linter.unusedSimpArgs false

set_option maxHeartbeats 8000000 in
theorem rhap3 (a : Ac) (sol : List So) (dp : Option Addr) (dn dc : Nat) (sp : Option Addr) (sn sc : Nat) (t : Tm) (pt : Option Addr) (lt ct : Nat) (v : Ev) (base : Nat) (w : World) (hx : Has w base (cuA a dp dn dc sp sn sc) ⟨a, sol⟩) (ht : tar.RowD w pt lt t.ts) (htl : lt ≤ maxLen) (hbase : base ≤ w.heap.size) (hkd : v.kd = 3) (hsol : sol.length ≤ 2000000) :
    Calls Try.prog 38 #[.agg #[.slice pt lt ct, .int .i64 t.ff, .int .i64 t.fb, .int .i64 t.db, .int .i64 t.al], .agg #[.int .i64 a.me, .int .i64 a.rv, .int .i64 a.nx, .int .i64 a.mo, .int .i64 a.bo, .int .i64 a.fr, .slice dp dn dc, .slice sp sn sc], .agg #[.int .i64 v.kd, .int .i64 v.me, .int .i64 v.mo, .int .i64 v.id, .int .i64 v.te, .int .i64 v.de, .int .i64 v.fe, .int .i64 v.pr, .int .i64 v.ch, .int .i64 v.un, .int .i64 v.tg, .int .i64 v.ow, .int .i64 v.bp]] w fun e w' => HapPost w base t (cuA a dp dn dc sp sn sc) ⟨a, sol⟩ v e w' := by
  have n2 : (v.kd == 2) = false := by rw [hkd]; rfl
  have n3 : (v.kd == 3) = true := by rw [hkd]; rfl
  have n4 : (v.kd == 4) = false := by rw [hkd]; rfl
  have n5 : (v.kd == 5) = false := by rw [hkd]; rfl
  have HKD : Hid (v.kd = 3) := hkd
  have HK5 : Hid (v.kd ≠ 5) := by show v.kd ≠ 5; rw [hkd]; decide
  clear hkd
  have HB0 : Hid (Below w.heap.size w w) := Below.refl _ _
  have HH : Hid (Has w base (cuA a dp dn dc sp sn sc) ⟨a, sol⟩) := hx
  have HBS : Hid (base ≤ w.heap.size) := hbase
  have HOWN : Hid (∀ k, (Value.slice sp sn sc).ownBlock = some k → k < w.heap.size) := fun k hk => (World.ownsRow.lt hx.so k hk).2
  have HCA : Hid (∀ W, Below w.heap.size w W → Calls Try.prog 57 #[.agg #[.int .i64 a.me, .int .i64 a.rv, .int .i64 a.nx, .int .i64 a.mo, .int .i64 a.bo, .int .i64 a.fr, .slice dp dn dc], .agg #[.slice pt lt ct, .int .i64 t.ff, .int .i64 t.fb, .int .i64 t.db, .int .i64 t.al], .int .i64 v.mo] W fun e w' => BPost W (GrantIs a t v.mo) e w') := fun W hB => acc.rgranted a dp dn dc t pt lt ct v.mo W (hx.ds.came.below hB).row hx.ds.came.most (ht.below hB) htl
  clear hx ht htl hbase
  have Ht1 : Hid (Blk (w.alloc (.cells #[.slice pt lt ct, .int .i64 t.ff, .int .i64 t.fb, .int .i64 t.db, .int .i64 t.al] 40)) (w.heap.size) #[.slice pt lt ct, .int .i64 t.ff, .int .i64 t.fb, .int .i64 t.db, .int .i64 t.al] 40) := Blk.new _ _ _
  have HB1 : Hid (Below w.heap.size w (w.alloc (.cells #[.slice pt lt ct, .int .i64 t.ff, .int .i64 t.fb, .int .i64 t.db, .int .i64 t.al] 40))) := HB0.out.alloc HB0.out.size _
  have Ht2 : Hid (Blk ((w.alloc (.cells #[.slice pt lt ct, .int .i64 t.ff, .int .i64 t.fb, .int .i64 t.db, .int .i64 t.al] 40)).alloc (.cells #[.int .i64 a.me, .int .i64 a.rv, .int .i64 a.nx, .int .i64 a.mo, .int .i64 a.bo, .int .i64 a.fr, .slice dp dn dc, .slice sp sn sc] 58)) (w.heap.size) #[.slice pt lt ct, .int .i64 t.ff, .int .i64 t.fb, .int .i64 t.db, .int .i64 t.al] 40) := Ht1.out.alloc _
  have Hx2 : Hid (Blk ((w.alloc (.cells #[.slice pt lt ct, .int .i64 t.ff, .int .i64 t.fb, .int .i64 t.db, .int .i64 t.al] 40)).alloc (.cells #[.int .i64 a.me, .int .i64 a.rv, .int .i64 a.nx, .int .i64 a.mo, .int .i64 a.bo, .int .i64 a.fr, .slice dp dn dc, .slice sp sn sc] 58)) ((w.alloc (.cells #[.slice pt lt ct, .int .i64 t.ff, .int .i64 t.fb, .int .i64 t.db, .int .i64 t.al] 40)).heap.size) #[.int .i64 a.me, .int .i64 a.rv, .int .i64 a.nx, .int .i64 a.mo, .int .i64 a.bo, .int .i64 a.fr, .slice dp dn dc, .slice sp sn sc] 58) := Blk.new _ _ _
  have HB2 : Hid (Below w.heap.size w ((w.alloc (.cells #[.slice pt lt ct, .int .i64 t.ff, .int .i64 t.fb, .int .i64 t.db, .int .i64 t.al] 40)).alloc (.cells #[.int .i64 a.me, .int .i64 a.rv, .int .i64 a.nx, .int .i64 a.mo, .int .i64 a.bo, .int .i64 a.fr, .slice dp dn dc, .slice sp sn sc] 58))) := HB1.out.alloc HB1.out.size _
  have Ht3 : Hid (Blk (((w.alloc (.cells #[.slice pt lt ct, .int .i64 t.ff, .int .i64 t.fb, .int .i64 t.db, .int .i64 t.al] 40)).alloc (.cells #[.int .i64 a.me, .int .i64 a.rv, .int .i64 a.nx, .int .i64 a.mo, .int .i64 a.bo, .int .i64 a.fr, .slice dp dn dc, .slice sp sn sc] 58)).alloc (.cells #[.int .i64 v.kd, .int .i64 v.me, .int .i64 v.mo, .int .i64 v.id, .int .i64 v.te, .int .i64 v.de, .int .i64 v.fe, .int .i64 v.pr, .int .i64 v.ch, .int .i64 v.un, .int .i64 v.tg, .int .i64 v.ow, .int .i64 v.bp] 27)) (w.heap.size) #[.slice pt lt ct, .int .i64 t.ff, .int .i64 t.fb, .int .i64 t.db, .int .i64 t.al] 40) := Ht2.out.alloc _
  have Hx3 : Hid (Blk (((w.alloc (.cells #[.slice pt lt ct, .int .i64 t.ff, .int .i64 t.fb, .int .i64 t.db, .int .i64 t.al] 40)).alloc (.cells #[.int .i64 a.me, .int .i64 a.rv, .int .i64 a.nx, .int .i64 a.mo, .int .i64 a.bo, .int .i64 a.fr, .slice dp dn dc, .slice sp sn sc] 58)).alloc (.cells #[.int .i64 v.kd, .int .i64 v.me, .int .i64 v.mo, .int .i64 v.id, .int .i64 v.te, .int .i64 v.de, .int .i64 v.fe, .int .i64 v.pr, .int .i64 v.ch, .int .i64 v.un, .int .i64 v.tg, .int .i64 v.ow, .int .i64 v.bp] 27)) ((w.alloc (.cells #[.slice pt lt ct, .int .i64 t.ff, .int .i64 t.fb, .int .i64 t.db, .int .i64 t.al] 40)).heap.size) #[.int .i64 a.me, .int .i64 a.rv, .int .i64 a.nx, .int .i64 a.mo, .int .i64 a.bo, .int .i64 a.fr, .slice dp dn dc, .slice sp sn sc] 58) := Hx2.out.alloc _
  have Hv3 : Hid (Blk (((w.alloc (.cells #[.slice pt lt ct, .int .i64 t.ff, .int .i64 t.fb, .int .i64 t.db, .int .i64 t.al] 40)).alloc (.cells #[.int .i64 a.me, .int .i64 a.rv, .int .i64 a.nx, .int .i64 a.mo, .int .i64 a.bo, .int .i64 a.fr, .slice dp dn dc, .slice sp sn sc] 58)).alloc (.cells #[.int .i64 v.kd, .int .i64 v.me, .int .i64 v.mo, .int .i64 v.id, .int .i64 v.te, .int .i64 v.de, .int .i64 v.fe, .int .i64 v.pr, .int .i64 v.ch, .int .i64 v.un, .int .i64 v.tg, .int .i64 v.ow, .int .i64 v.bp] 27)) (((w.alloc (.cells #[.slice pt lt ct, .int .i64 t.ff, .int .i64 t.fb, .int .i64 t.db, .int .i64 t.al] 40)).alloc (.cells #[.int .i64 a.me, .int .i64 a.rv, .int .i64 a.nx, .int .i64 a.mo, .int .i64 a.bo, .int .i64 a.fr, .slice dp dn dc, .slice sp sn sc] 58)).heap.size) #[.int .i64 v.kd, .int .i64 v.me, .int .i64 v.mo, .int .i64 v.id, .int .i64 v.te, .int .i64 v.de, .int .i64 v.fe, .int .i64 v.pr, .int .i64 v.ch, .int .i64 v.un, .int .i64 v.tg, .int .i64 v.ow, .int .i64 v.bp] 27) := Blk.new _ _ _
  have HB3 : Hid (Below w.heap.size w (((w.alloc (.cells #[.slice pt lt ct, .int .i64 t.ff, .int .i64 t.fb, .int .i64 t.db, .int .i64 t.al] 40)).alloc (.cells #[.int .i64 a.me, .int .i64 a.rv, .int .i64 a.nx, .int .i64 a.mo, .int .i64 a.bo, .int .i64 a.fr, .slice dp dn dc, .slice sp sn sc] 58)).alloc (.cells #[.int .i64 v.kd, .int .i64 v.me, .int .i64 v.mo, .int .i64 v.id, .int .i64 v.te, .int .i64 v.de, .int .i64 v.fe, .int .i64 v.pr, .int .i64 v.ch, .int .i64 v.un, .int .i64 v.tg, .int .i64 v.ow, .int .i64 v.bp] 27))) := HB2.out.alloc HB2.out.size _
  have Ht4 : Hid (Blk ((((w.alloc (.cells #[.slice pt lt ct, .int .i64 t.ff, .int .i64 t.fb, .int .i64 t.db, .int .i64 t.al] 40)).alloc (.cells #[.int .i64 a.me, .int .i64 a.rv, .int .i64 a.nx, .int .i64 a.mo, .int .i64 a.bo, .int .i64 a.fr, .slice dp dn dc, .slice sp sn sc] 58)).alloc (.cells #[.int .i64 v.kd, .int .i64 v.me, .int .i64 v.mo, .int .i64 v.id, .int .i64 v.te, .int .i64 v.de, .int .i64 v.fe, .int .i64 v.pr, .int .i64 v.ch, .int .i64 v.un, .int .i64 v.tg, .int .i64 v.ow, .int .i64 v.bp] 27)).alloc (.cells #[.int .i64 0, .int .i64 0, .int .i64 0, .int .i64 0, .int .i64 0, .int .i64 0, .slice none 0 0, .slice none 0 0] 58)) (w.heap.size) #[.slice pt lt ct, .int .i64 t.ff, .int .i64 t.fb, .int .i64 t.db, .int .i64 t.al] 40) := Ht3.out.alloc _
  have Hx4 : Hid (Blk ((((w.alloc (.cells #[.slice pt lt ct, .int .i64 t.ff, .int .i64 t.fb, .int .i64 t.db, .int .i64 t.al] 40)).alloc (.cells #[.int .i64 a.me, .int .i64 a.rv, .int .i64 a.nx, .int .i64 a.mo, .int .i64 a.bo, .int .i64 a.fr, .slice dp dn dc, .slice sp sn sc] 58)).alloc (.cells #[.int .i64 v.kd, .int .i64 v.me, .int .i64 v.mo, .int .i64 v.id, .int .i64 v.te, .int .i64 v.de, .int .i64 v.fe, .int .i64 v.pr, .int .i64 v.ch, .int .i64 v.un, .int .i64 v.tg, .int .i64 v.ow, .int .i64 v.bp] 27)).alloc (.cells #[.int .i64 0, .int .i64 0, .int .i64 0, .int .i64 0, .int .i64 0, .int .i64 0, .slice none 0 0, .slice none 0 0] 58)) ((w.alloc (.cells #[.slice pt lt ct, .int .i64 t.ff, .int .i64 t.fb, .int .i64 t.db, .int .i64 t.al] 40)).heap.size) #[.int .i64 a.me, .int .i64 a.rv, .int .i64 a.nx, .int .i64 a.mo, .int .i64 a.bo, .int .i64 a.fr, .slice dp dn dc, .slice sp sn sc] 58) := Hx3.out.alloc _
  have Hv4 : Hid (Blk ((((w.alloc (.cells #[.slice pt lt ct, .int .i64 t.ff, .int .i64 t.fb, .int .i64 t.db, .int .i64 t.al] 40)).alloc (.cells #[.int .i64 a.me, .int .i64 a.rv, .int .i64 a.nx, .int .i64 a.mo, .int .i64 a.bo, .int .i64 a.fr, .slice dp dn dc, .slice sp sn sc] 58)).alloc (.cells #[.int .i64 v.kd, .int .i64 v.me, .int .i64 v.mo, .int .i64 v.id, .int .i64 v.te, .int .i64 v.de, .int .i64 v.fe, .int .i64 v.pr, .int .i64 v.ch, .int .i64 v.un, .int .i64 v.tg, .int .i64 v.ow, .int .i64 v.bp] 27)).alloc (.cells #[.int .i64 0, .int .i64 0, .int .i64 0, .int .i64 0, .int .i64 0, .int .i64 0, .slice none 0 0, .slice none 0 0] 58)) (((w.alloc (.cells #[.slice pt lt ct, .int .i64 t.ff, .int .i64 t.fb, .int .i64 t.db, .int .i64 t.al] 40)).alloc (.cells #[.int .i64 a.me, .int .i64 a.rv, .int .i64 a.nx, .int .i64 a.mo, .int .i64 a.bo, .int .i64 a.fr, .slice dp dn dc, .slice sp sn sc] 58)).heap.size) #[.int .i64 v.kd, .int .i64 v.me, .int .i64 v.mo, .int .i64 v.id, .int .i64 v.te, .int .i64 v.de, .int .i64 v.fe, .int .i64 v.pr, .int .i64 v.ch, .int .i64 v.un, .int .i64 v.tg, .int .i64 v.ow, .int .i64 v.bp] 27) := Hv3.out.alloc _
  have Hr4 : Hid (Blk ((((w.alloc (.cells #[.slice pt lt ct, .int .i64 t.ff, .int .i64 t.fb, .int .i64 t.db, .int .i64 t.al] 40)).alloc (.cells #[.int .i64 a.me, .int .i64 a.rv, .int .i64 a.nx, .int .i64 a.mo, .int .i64 a.bo, .int .i64 a.fr, .slice dp dn dc, .slice sp sn sc] 58)).alloc (.cells #[.int .i64 v.kd, .int .i64 v.me, .int .i64 v.mo, .int .i64 v.id, .int .i64 v.te, .int .i64 v.de, .int .i64 v.fe, .int .i64 v.pr, .int .i64 v.ch, .int .i64 v.un, .int .i64 v.tg, .int .i64 v.ow, .int .i64 v.bp] 27)).alloc (.cells #[.int .i64 0, .int .i64 0, .int .i64 0, .int .i64 0, .int .i64 0, .int .i64 0, .slice none 0 0, .slice none 0 0] 58)) ((((w.alloc (.cells #[.slice pt lt ct, .int .i64 t.ff, .int .i64 t.fb, .int .i64 t.db, .int .i64 t.al] 40)).alloc (.cells #[.int .i64 a.me, .int .i64 a.rv, .int .i64 a.nx, .int .i64 a.mo, .int .i64 a.bo, .int .i64 a.fr, .slice dp dn dc, .slice sp sn sc] 58)).alloc (.cells #[.int .i64 v.kd, .int .i64 v.me, .int .i64 v.mo, .int .i64 v.id, .int .i64 v.te, .int .i64 v.de, .int .i64 v.fe, .int .i64 v.pr, .int .i64 v.ch, .int .i64 v.un, .int .i64 v.tg, .int .i64 v.ow, .int .i64 v.bp] 27)).heap.size) #[.int .i64 0, .int .i64 0, .int .i64 0, .int .i64 0, .int .i64 0, .int .i64 0, .slice none 0 0, .slice none 0 0] 58) := Blk.new _ _ _
  have HB4 : Hid (Below w.heap.size w ((((w.alloc (.cells #[.slice pt lt ct, .int .i64 t.ff, .int .i64 t.fb, .int .i64 t.db, .int .i64 t.al] 40)).alloc (.cells #[.int .i64 a.me, .int .i64 a.rv, .int .i64 a.nx, .int .i64 a.mo, .int .i64 a.bo, .int .i64 a.fr, .slice dp dn dc, .slice sp sn sc] 58)).alloc (.cells #[.int .i64 v.kd, .int .i64 v.me, .int .i64 v.mo, .int .i64 v.id, .int .i64 v.te, .int .i64 v.de, .int .i64 v.fe, .int .i64 v.pr, .int .i64 v.ch, .int .i64 v.un, .int .i64 v.tg, .int .i64 v.ow, .int .i64 v.bp] 27)).alloc (.cells #[.int .i64 0, .int .i64 0, .int .i64 0, .int .i64 0, .int .i64 0, .int .i64 0, .slice none 0 0, .slice none 0 0] 58))) := HB3.out.alloc HB3.out.size _
  go_enter Try.func38, Try.ntmps38
  go_upto_region 1 with fail
  have HS3 : Hid ((w.alloc (.cells #[.slice pt lt ct, .int .i64 t.ff, .int .i64 t.fb, .int .i64 t.db, .int .i64 t.al] 40)).heap.size = w.heap.size + 1 ∧ ((w.alloc (.cells #[.slice pt lt ct, .int .i64 t.ff, .int .i64 t.fb, .int .i64 t.db, .int .i64 t.al] 40)).alloc (.cells #[.int .i64 a.me, .int .i64 a.rv, .int .i64 a.nx, .int .i64 a.mo, .int .i64 a.bo, .int .i64 a.fr, .slice dp dn dc, .slice sp sn sc] 58)).heap.size = w.heap.size + 1 + 1 ∧ (((w.alloc (.cells #[.slice pt lt ct, .int .i64 t.ff, .int .i64 t.fb, .int .i64 t.db, .int .i64 t.al] 40)).alloc (.cells #[.int .i64 a.me, .int .i64 a.rv, .int .i64 a.nx, .int .i64 a.mo, .int .i64 a.bo, .int .i64 a.fr, .slice dp dn dc, .slice sp sn sc] 58)).alloc (.cells #[.int .i64 v.kd, .int .i64 v.me, .int .i64 v.mo, .int .i64 v.id, .int .i64 v.te, .int .i64 v.de, .int .i64 v.fe, .int .i64 v.pr, .int .i64 v.ch, .int .i64 v.un, .int .i64 v.tg, .int .i64 v.ow, .int .i64 v.bp] 27)).heap.size = w.heap.size + 1 + 1 + 1) := by refine ⟨?_, ?_, ?_⟩ <;> simp
  have Qx : Hid (Blk ((((w.alloc (.cells #[.slice pt lt ct, .int .i64 t.ff, .int .i64 t.fb, .int .i64 t.db, .int .i64 t.al] 40)).alloc (.cells #[.int .i64 a.me, .int .i64 a.rv, .int .i64 a.nx, .int .i64 a.mo, .int .i64 a.bo, .int .i64 a.fr, .slice dp dn dc, .slice sp sn sc] 58)).alloc (.cells #[.int .i64 v.kd, .int .i64 v.me, .int .i64 v.mo, .int .i64 v.id, .int .i64 v.te, .int .i64 v.de, .int .i64 v.fe, .int .i64 v.pr, .int .i64 v.ch, .int .i64 v.un, .int .i64 v.tg, .int .i64 v.ow, .int .i64 v.bp] 27)).alloc (.cells #[.int .i64 0, .int .i64 0, .int .i64 0, .int .i64 0, .int .i64 0, .int .i64 0, .slice none 0 0, .slice none 0 0] 58)) (w.heap.size + 1) #[.int .i64 a.me, .int .i64 a.rv, .int .i64 a.nx, .int .i64 a.mo, .int .i64 a.bo, .int .i64 a.fr, .slice dp dn dc, .slice sp sn sc] 58) := by have q := Hx4.out; rw [HS3.out.1] at q; exact q
  have Qv : Hid (Blk ((((w.alloc (.cells #[.slice pt lt ct, .int .i64 t.ff, .int .i64 t.fb, .int .i64 t.db, .int .i64 t.al] 40)).alloc (.cells #[.int .i64 a.me, .int .i64 a.rv, .int .i64 a.nx, .int .i64 a.mo, .int .i64 a.bo, .int .i64 a.fr, .slice dp dn dc, .slice sp sn sc] 58)).alloc (.cells #[.int .i64 v.kd, .int .i64 v.me, .int .i64 v.mo, .int .i64 v.id, .int .i64 v.te, .int .i64 v.de, .int .i64 v.fe, .int .i64 v.pr, .int .i64 v.ch, .int .i64 v.un, .int .i64 v.tg, .int .i64 v.ow, .int .i64 v.bp] 27)).alloc (.cells #[.int .i64 0, .int .i64 0, .int .i64 0, .int .i64 0, .int .i64 0, .int .i64 0, .slice none 0 0, .slice none 0 0] 58)) (w.heap.size + 1 + 1) #[.int .i64 v.kd, .int .i64 v.me, .int .i64 v.mo, .int .i64 v.id, .int .i64 v.te, .int .i64 v.de, .int .i64 v.fe, .int .i64 v.pr, .int .i64 v.ch, .int .i64 v.un, .int .i64 v.tg, .int .i64 v.ow, .int .i64 v.bp] 27) := by have q := Hv4.out; rw [HS3.out.2.1] at q; exact q
  have Qr : Hid (Blk ((((w.alloc (.cells #[.slice pt lt ct, .int .i64 t.ff, .int .i64 t.fb, .int .i64 t.db, .int .i64 t.al] 40)).alloc (.cells #[.int .i64 a.me, .int .i64 a.rv, .int .i64 a.nx, .int .i64 a.mo, .int .i64 a.bo, .int .i64 a.fr, .slice dp dn dc, .slice sp sn sc] 58)).alloc (.cells #[.int .i64 v.kd, .int .i64 v.me, .int .i64 v.mo, .int .i64 v.id, .int .i64 v.te, .int .i64 v.de, .int .i64 v.fe, .int .i64 v.pr, .int .i64 v.ch, .int .i64 v.un, .int .i64 v.tg, .int .i64 v.ow, .int .i64 v.bp] 27)).alloc (.cells #[.int .i64 0, .int .i64 0, .int .i64 0, .int .i64 0, .int .i64 0, .int .i64 0, .slice none 0 0, .slice none 0 0] 58)) (w.heap.size + 1 + 1 + 1) #[.int .i64 0, .int .i64 0, .int .i64 0, .int .i64 0, .int .i64 0, .int .i64 0, .slice none 0 0, .slice none 0 0] 58) := by have q := Hr4.out; rw [HS3.out.2.2] at q; exact q
  have HS0 : Hid (w.heap.size + 1 + 1 + 1 < ((((w.alloc (.cells #[.slice pt lt ct, .int .i64 t.ff, .int .i64 t.fb, .int .i64 t.db, .int .i64 t.al] 40)).alloc (.cells #[.int .i64 a.me, .int .i64 a.rv, .int .i64 a.nx, .int .i64 a.mo, .int .i64 a.bo, .int .i64 a.fr, .slice dp dn dc, .slice sp sn sc] 58)).alloc (.cells #[.int .i64 v.kd, .int .i64 v.me, .int .i64 v.mo, .int .i64 v.id, .int .i64 v.te, .int .i64 v.de, .int .i64 v.fe, .int .i64 v.pr, .int .i64 v.ch, .int .i64 v.un, .int .i64 v.tg, .int .i64 v.ow, .int .i64 v.bp] 27)).alloc (.cells #[.int .i64 0, .int .i64 0, .int .i64 0, .int .i64 0, .int .i64 0, .int .i64 0, .slice none 0 0, .slice none 0 0] 58)).heap.size) := Qr.out.lt
  generalize ((((w.alloc (.cells #[.slice pt lt ct, .int .i64 t.ff, .int .i64 t.fb, .int .i64 t.db, .int .i64 t.al] 40)).alloc (.cells #[.int .i64 a.me, .int .i64 a.rv, .int .i64 a.nx, .int .i64 a.mo, .int .i64 a.bo, .int .i64 a.fr, .slice dp dn dc, .slice sp sn sc] 58)).alloc (.cells #[.int .i64 v.kd, .int .i64 v.me, .int .i64 v.mo, .int .i64 v.id, .int .i64 v.te, .int .i64 v.de, .int .i64 v.fe, .int .i64 v.pr, .int .i64 v.ch, .int .i64 v.un, .int .i64 v.tg, .int .i64 v.ow, .int .i64 v.bp] 27)).alloc (.cells #[.int .i64 0, .int .i64 0, .int .i64 0, .int .i64 0, .int .i64 0, .int .i64 0, .slice none 0 0, .slice none 0 0] 58)) = W0 at *
  have kx0 : W0.cell? ⟨w.heap.size + 1, 0, none⟩ = some (.int .i64 a.me) := Qx.out.cell 0
  have kx1 : W0.cell? ⟨w.heap.size + 1, 1, none⟩ = some (.int .i64 a.rv) := Qx.out.cell 1
  have kx2 : W0.cell? ⟨w.heap.size + 1, 2, none⟩ = some (.int .i64 a.nx) := Qx.out.cell 2
  have kx3 : W0.cell? ⟨w.heap.size + 1, 3, none⟩ = some (.int .i64 a.mo) := Qx.out.cell 3
  have kx4 : W0.cell? ⟨w.heap.size + 1, 4, none⟩ = some (.int .i64 a.bo) := Qx.out.cell 4
  have kx5 : W0.cell? ⟨w.heap.size + 1, 5, none⟩ = some (.int .i64 a.fr) := Qx.out.cell 5
  have kx6 : W0.cell? ⟨w.heap.size + 1, 6, none⟩ = some (.slice dp dn dc) := Qx.out.cell 6
  have kx7 : W0.cell? ⟨w.heap.size + 1, 7, none⟩ = some (.slice sp sn sc) := Qx.out.cell 7
  have kv0 : W0.cell? ⟨w.heap.size + 1 + 1, 0, none⟩ = some (.int .i64 v.kd) := Qv.out.cell 0
  have kv1 : W0.cell? ⟨w.heap.size + 1 + 1, 1, none⟩ = some (.int .i64 v.me) := Qv.out.cell 1
  have kv2 : W0.cell? ⟨w.heap.size + 1 + 1, 2, none⟩ = some (.int .i64 v.mo) := Qv.out.cell 2
  have kv3 : W0.cell? ⟨w.heap.size + 1 + 1, 3, none⟩ = some (.int .i64 v.id) := Qv.out.cell 3
  have kv4 : W0.cell? ⟨w.heap.size + 1 + 1, 4, none⟩ = some (.int .i64 v.te) := Qv.out.cell 4
  have kv5 : W0.cell? ⟨w.heap.size + 1 + 1, 5, none⟩ = some (.int .i64 v.de) := Qv.out.cell 5
  have kv6 : W0.cell? ⟨w.heap.size + 1 + 1, 6, none⟩ = some (.int .i64 v.fe) := Qv.out.cell 6
  have kv7 : W0.cell? ⟨w.heap.size + 1 + 1, 7, none⟩ = some (.int .i64 v.pr) := Qv.out.cell 7
  have kv8 : W0.cell? ⟨w.heap.size + 1 + 1, 8, none⟩ = some (.int .i64 v.ch) := Qv.out.cell 8
  have kv9 : W0.cell? ⟨w.heap.size + 1 + 1, 9, none⟩ = some (.int .i64 v.un) := Qv.out.cell 9
  have kv10 : W0.cell? ⟨w.heap.size + 1 + 1, 10, none⟩ = some (.int .i64 v.tg) := Qv.out.cell 10
  have kv11 : W0.cell? ⟨w.heap.size + 1 + 1, 11, none⟩ = some (.int .i64 v.ow) := Qv.out.cell 11
  have kv12 : W0.cell? ⟨w.heap.size + 1 + 1, 12, none⟩ = some (.int .i64 v.bp) := Qv.out.cell 12
  have Ht5 : Hid (Blk (W0.alloc (.cells #[.int .i64 v.id, .int .i64 0, .int .i64 v.un, .int .i64 v.tg, .int .i64 a.rv] 103)) (w.heap.size) #[.slice pt lt ct, .int .i64 t.ff, .int .i64 t.fb, .int .i64 t.db, .int .i64 t.al] 40) := Ht4.out.alloc _
  have Hx5 : Hid (Blk (W0.alloc (.cells #[.int .i64 v.id, .int .i64 0, .int .i64 v.un, .int .i64 v.tg, .int .i64 a.rv] 103)) (w.heap.size + 1) #[.int .i64 a.me, .int .i64 a.rv, .int .i64 a.nx, .int .i64 a.mo, .int .i64 a.bo, .int .i64 a.fr, .slice dp dn dc, .slice sp sn sc] 58) := Qx.out.alloc _
  have Hv5 : Hid (Blk (W0.alloc (.cells #[.int .i64 v.id, .int .i64 0, .int .i64 v.un, .int .i64 v.tg, .int .i64 a.rv] 103)) (w.heap.size + 1 + 1) #[.int .i64 v.kd, .int .i64 v.me, .int .i64 v.mo, .int .i64 v.id, .int .i64 v.te, .int .i64 v.de, .int .i64 v.fe, .int .i64 v.pr, .int .i64 v.ch, .int .i64 v.un, .int .i64 v.tg, .int .i64 v.ow, .int .i64 v.bp] 27) := Qv.out.alloc _
  have Hr5 : Hid (Blk (W0.alloc (.cells #[.int .i64 v.id, .int .i64 0, .int .i64 v.un, .int .i64 v.tg, .int .i64 a.rv] 103)) (w.heap.size + 1 + 1 + 1) #[.int .i64 0, .int .i64 0, .int .i64 0, .int .i64 0, .int .i64 0, .int .i64 0, .slice none 0 0, .slice none 0 0] 58) := Qr.out.alloc _
  have Hs5 : Hid (Blk (W0.alloc (.cells #[.int .i64 v.id, .int .i64 0, .int .i64 v.un, .int .i64 v.tg, .int .i64 a.rv] 103)) (W0.heap.size) #[.int .i64 v.id, .int .i64 0, .int .i64 v.un, .int .i64 v.tg, .int .i64 a.rv] 103) := Blk.new _ _ _
  have HB5 : Hid (Below w.heap.size w (W0.alloc (.cells #[.int .i64 v.id, .int .i64 0, .int .i64 v.un, .int .i64 v.tg, .int .i64 a.rv] 103))) := HB4.out.alloc HB4.out.size _
  have Ht6 : Hid (Blk ((W0.alloc (.cells #[.int .i64 v.id, .int .i64 0, .int .i64 v.un, .int .i64 v.tg, .int .i64 a.rv] 103)).alloc (.cells #[.int .i64 0, .int .i64 0, .int .i64 0, .int .i64 0, .int .i64 0, .int .i64 0, .slice none 0 0] 55)) (w.heap.size) #[.slice pt lt ct, .int .i64 t.ff, .int .i64 t.fb, .int .i64 t.db, .int .i64 t.al] 40) := Ht5.out.alloc _
  have Hx6 : Hid (Blk ((W0.alloc (.cells #[.int .i64 v.id, .int .i64 0, .int .i64 v.un, .int .i64 v.tg, .int .i64 a.rv] 103)).alloc (.cells #[.int .i64 0, .int .i64 0, .int .i64 0, .int .i64 0, .int .i64 0, .int .i64 0, .slice none 0 0] 55)) (w.heap.size + 1) #[.int .i64 a.me, .int .i64 a.rv, .int .i64 a.nx, .int .i64 a.mo, .int .i64 a.bo, .int .i64 a.fr, .slice dp dn dc, .slice sp sn sc] 58) := Hx5.out.alloc _
  have Hv6 : Hid (Blk ((W0.alloc (.cells #[.int .i64 v.id, .int .i64 0, .int .i64 v.un, .int .i64 v.tg, .int .i64 a.rv] 103)).alloc (.cells #[.int .i64 0, .int .i64 0, .int .i64 0, .int .i64 0, .int .i64 0, .int .i64 0, .slice none 0 0] 55)) (w.heap.size + 1 + 1) #[.int .i64 v.kd, .int .i64 v.me, .int .i64 v.mo, .int .i64 v.id, .int .i64 v.te, .int .i64 v.de, .int .i64 v.fe, .int .i64 v.pr, .int .i64 v.ch, .int .i64 v.un, .int .i64 v.tg, .int .i64 v.ow, .int .i64 v.bp] 27) := Hv5.out.alloc _
  have Hr6 : Hid (Blk ((W0.alloc (.cells #[.int .i64 v.id, .int .i64 0, .int .i64 v.un, .int .i64 v.tg, .int .i64 a.rv] 103)).alloc (.cells #[.int .i64 0, .int .i64 0, .int .i64 0, .int .i64 0, .int .i64 0, .int .i64 0, .slice none 0 0] 55)) (w.heap.size + 1 + 1 + 1) #[.int .i64 0, .int .i64 0, .int .i64 0, .int .i64 0, .int .i64 0, .int .i64 0, .slice none 0 0, .slice none 0 0] 58) := Hr5.out.alloc _
  have Hs6 : Hid (Blk ((W0.alloc (.cells #[.int .i64 v.id, .int .i64 0, .int .i64 v.un, .int .i64 v.tg, .int .i64 a.rv] 103)).alloc (.cells #[.int .i64 0, .int .i64 0, .int .i64 0, .int .i64 0, .int .i64 0, .int .i64 0, .slice none 0 0] 55)) (W0.heap.size) #[.int .i64 v.id, .int .i64 0, .int .i64 v.un, .int .i64 v.tg, .int .i64 a.rv] 103) := Hs5.out.alloc _
  have Ha6 : Hid (Blk ((W0.alloc (.cells #[.int .i64 v.id, .int .i64 0, .int .i64 v.un, .int .i64 v.tg, .int .i64 a.rv] 103)).alloc (.cells #[.int .i64 0, .int .i64 0, .int .i64 0, .int .i64 0, .int .i64 0, .int .i64 0, .slice none 0 0] 55)) ((W0.alloc (.cells #[.int .i64 v.id, .int .i64 0, .int .i64 v.un, .int .i64 v.tg, .int .i64 a.rv] 103)).heap.size) #[.int .i64 0, .int .i64 0, .int .i64 0, .int .i64 0, .int .i64 0, .int .i64 0, .slice none 0 0] 55) := Blk.new _ _ _
  have HB6 : Hid (Below w.heap.size w ((W0.alloc (.cells #[.int .i64 v.id, .int .i64 0, .int .i64 v.un, .int .i64 v.tg, .int .i64 a.rv] 103)).alloc (.cells #[.int .i64 0, .int .i64 0, .int .i64 0, .int .i64 0, .int .i64 0, .int .i64 0, .slice none 0 0] 55))) := HB5.out.alloc HB5.out.size _
  have Ht7 : Hid (Blk (((W0.alloc (.cells #[.int .i64 v.id, .int .i64 0, .int .i64 v.un, .int .i64 v.tg, .int .i64 a.rv] 103)).alloc (.cells #[.int .i64 0, .int .i64 0, .int .i64 0, .int .i64 0, .int .i64 0, .int .i64 0, .slice none 0 0] 55)).alloc (.cells #[.int .i64 0, .int .i64 0, .int .i64 0, .int .i64 0, .int .i64 0, .int .i64 0, .int .i64 0] 23)) (w.heap.size) #[.slice pt lt ct, .int .i64 t.ff, .int .i64 t.fb, .int .i64 t.db, .int .i64 t.al] 40) := Ht6.out.alloc _
  have Hx7 : Hid (Blk (((W0.alloc (.cells #[.int .i64 v.id, .int .i64 0, .int .i64 v.un, .int .i64 v.tg, .int .i64 a.rv] 103)).alloc (.cells #[.int .i64 0, .int .i64 0, .int .i64 0, .int .i64 0, .int .i64 0, .int .i64 0, .slice none 0 0] 55)).alloc (.cells #[.int .i64 0, .int .i64 0, .int .i64 0, .int .i64 0, .int .i64 0, .int .i64 0, .int .i64 0] 23)) (w.heap.size + 1) #[.int .i64 a.me, .int .i64 a.rv, .int .i64 a.nx, .int .i64 a.mo, .int .i64 a.bo, .int .i64 a.fr, .slice dp dn dc, .slice sp sn sc] 58) := Hx6.out.alloc _
  have Hv7 : Hid (Blk (((W0.alloc (.cells #[.int .i64 v.id, .int .i64 0, .int .i64 v.un, .int .i64 v.tg, .int .i64 a.rv] 103)).alloc (.cells #[.int .i64 0, .int .i64 0, .int .i64 0, .int .i64 0, .int .i64 0, .int .i64 0, .slice none 0 0] 55)).alloc (.cells #[.int .i64 0, .int .i64 0, .int .i64 0, .int .i64 0, .int .i64 0, .int .i64 0, .int .i64 0] 23)) (w.heap.size + 1 + 1) #[.int .i64 v.kd, .int .i64 v.me, .int .i64 v.mo, .int .i64 v.id, .int .i64 v.te, .int .i64 v.de, .int .i64 v.fe, .int .i64 v.pr, .int .i64 v.ch, .int .i64 v.un, .int .i64 v.tg, .int .i64 v.ow, .int .i64 v.bp] 27) := Hv6.out.alloc _
  have Hr7 : Hid (Blk (((W0.alloc (.cells #[.int .i64 v.id, .int .i64 0, .int .i64 v.un, .int .i64 v.tg, .int .i64 a.rv] 103)).alloc (.cells #[.int .i64 0, .int .i64 0, .int .i64 0, .int .i64 0, .int .i64 0, .int .i64 0, .slice none 0 0] 55)).alloc (.cells #[.int .i64 0, .int .i64 0, .int .i64 0, .int .i64 0, .int .i64 0, .int .i64 0, .int .i64 0] 23)) (w.heap.size + 1 + 1 + 1) #[.int .i64 0, .int .i64 0, .int .i64 0, .int .i64 0, .int .i64 0, .int .i64 0, .slice none 0 0, .slice none 0 0] 58) := Hr6.out.alloc _
  have Hs7 : Hid (Blk (((W0.alloc (.cells #[.int .i64 v.id, .int .i64 0, .int .i64 v.un, .int .i64 v.tg, .int .i64 a.rv] 103)).alloc (.cells #[.int .i64 0, .int .i64 0, .int .i64 0, .int .i64 0, .int .i64 0, .int .i64 0, .slice none 0 0] 55)).alloc (.cells #[.int .i64 0, .int .i64 0, .int .i64 0, .int .i64 0, .int .i64 0, .int .i64 0, .int .i64 0] 23)) (W0.heap.size) #[.int .i64 v.id, .int .i64 0, .int .i64 v.un, .int .i64 v.tg, .int .i64 a.rv] 103) := Hs6.out.alloc _
  have Ha7 : Hid (Blk (((W0.alloc (.cells #[.int .i64 v.id, .int .i64 0, .int .i64 v.un, .int .i64 v.tg, .int .i64 a.rv] 103)).alloc (.cells #[.int .i64 0, .int .i64 0, .int .i64 0, .int .i64 0, .int .i64 0, .int .i64 0, .slice none 0 0] 55)).alloc (.cells #[.int .i64 0, .int .i64 0, .int .i64 0, .int .i64 0, .int .i64 0, .int .i64 0, .int .i64 0] 23)) ((W0.alloc (.cells #[.int .i64 v.id, .int .i64 0, .int .i64 v.un, .int .i64 v.tg, .int .i64 a.rv] 103)).heap.size) #[.int .i64 0, .int .i64 0, .int .i64 0, .int .i64 0, .int .i64 0, .int .i64 0, .slice none 0 0] 55) := Ha6.out.alloc _
  have Hb7 : Hid (Blk (((W0.alloc (.cells #[.int .i64 v.id, .int .i64 0, .int .i64 v.un, .int .i64 v.tg, .int .i64 a.rv] 103)).alloc (.cells #[.int .i64 0, .int .i64 0, .int .i64 0, .int .i64 0, .int .i64 0, .int .i64 0, .slice none 0 0] 55)).alloc (.cells #[.int .i64 0, .int .i64 0, .int .i64 0, .int .i64 0, .int .i64 0, .int .i64 0, .int .i64 0] 23)) (((W0.alloc (.cells #[.int .i64 v.id, .int .i64 0, .int .i64 v.un, .int .i64 v.tg, .int .i64 a.rv] 103)).alloc (.cells #[.int .i64 0, .int .i64 0, .int .i64 0, .int .i64 0, .int .i64 0, .int .i64 0, .slice none 0 0] 55)).heap.size) #[.int .i64 0, .int .i64 0, .int .i64 0, .int .i64 0, .int .i64 0, .int .i64 0, .int .i64 0] 23) := Blk.new _ _ _
  have HB7 : Hid (Below w.heap.size w (((W0.alloc (.cells #[.int .i64 v.id, .int .i64 0, .int .i64 v.un, .int .i64 v.tg, .int .i64 a.rv] 103)).alloc (.cells #[.int .i64 0, .int .i64 0, .int .i64 0, .int .i64 0, .int .i64 0, .int .i64 0, .slice none 0 0] 55)).alloc (.cells #[.int .i64 0, .int .i64 0, .int .i64 0, .int .i64 0, .int .i64 0, .int .i64 0, .int .i64 0] 23))) := HB6.out.alloc HB6.out.size _
  go_upto_region 8 with fail
  have HS4 : Hid ((W0.alloc (.cells #[.int .i64 v.id, .int .i64 0, .int .i64 v.un, .int .i64 v.tg, .int .i64 a.rv] 103)).heap.size = W0.heap.size + 1 ∧ ((W0.alloc (.cells #[.int .i64 v.id, .int .i64 0, .int .i64 v.un, .int .i64 v.tg, .int .i64 a.rv] 103)).alloc (.cells #[.int .i64 0, .int .i64 0, .int .i64 0, .int .i64 0, .int .i64 0, .int .i64 0, .slice none 0 0] 55)).heap.size = W0.heap.size + 1 + 1 ∧ (((W0.alloc (.cells #[.int .i64 v.id, .int .i64 0, .int .i64 v.un, .int .i64 v.tg, .int .i64 a.rv] 103)).alloc (.cells #[.int .i64 0, .int .i64 0, .int .i64 0, .int .i64 0, .int .i64 0, .int .i64 0, .slice none 0 0] 55)).alloc (.cells #[.int .i64 0, .int .i64 0, .int .i64 0, .int .i64 0, .int .i64 0, .int .i64 0, .int .i64 0] 23)).heap.size = W0.heap.size + 1 + 1 + 1) := by refine ⟨?_, ?_, ?_⟩ <;> simp
  have Qa : Hid (Blk (((W0.alloc (.cells #[.int .i64 v.id, .int .i64 0, .int .i64 v.un, .int .i64 v.tg, .int .i64 a.rv] 103)).alloc (.cells #[.int .i64 0, .int .i64 0, .int .i64 0, .int .i64 0, .int .i64 0, .int .i64 0, .slice none 0 0] 55)).alloc (.cells #[.int .i64 0, .int .i64 0, .int .i64 0, .int .i64 0, .int .i64 0, .int .i64 0, .int .i64 0] 23)) (W0.heap.size + 1) #[.int .i64 0, .int .i64 0, .int .i64 0, .int .i64 0, .int .i64 0, .int .i64 0, .slice none 0 0] 55) := by have q := Ha7.out; rw [HS4.out.1] at q; exact q
  have Qb : Hid (Blk (((W0.alloc (.cells #[.int .i64 v.id, .int .i64 0, .int .i64 v.un, .int .i64 v.tg, .int .i64 a.rv] 103)).alloc (.cells #[.int .i64 0, .int .i64 0, .int .i64 0, .int .i64 0, .int .i64 0, .int .i64 0, .slice none 0 0] 55)).alloc (.cells #[.int .i64 0, .int .i64 0, .int .i64 0, .int .i64 0, .int .i64 0, .int .i64 0, .int .i64 0] 23)) (W0.heap.size + 1 + 1) #[.int .i64 0, .int .i64 0, .int .i64 0, .int .i64 0, .int .i64 0, .int .i64 0, .int .i64 0] 23) := by have q := Hb7.out; rw [HS4.out.2.1] at q; exact q
  have HS5 : Hid ((((W0.alloc (.cells #[.int .i64 v.id, .int .i64 0, .int .i64 v.un, .int .i64 v.tg, .int .i64 a.rv] 103)).alloc (.cells #[.int .i64 0, .int .i64 0, .int .i64 0, .int .i64 0, .int .i64 0, .int .i64 0, .slice none 0 0] 55)).alloc (.cells #[.int .i64 0, .int .i64 0, .int .i64 0, .int .i64 0, .int .i64 0, .int .i64 0, .int .i64 0] 23)).heap.size = W0.heap.size + 1 + 1 + 1) := HS4.out.2.2
  clear kx0 kx1 kx2 kx3 kx4 kx5 kx6 kx7 kv0 kv1 kv2 kv3 kv4 kv5 kv6 kv7 kv8 kv9 kv10 kv11 kv12
  generalize (((W0.alloc (.cells #[.int .i64 v.id, .int .i64 0, .int .i64 v.un, .int .i64 v.tg, .int .i64 a.rv] 103)).alloc (.cells #[.int .i64 0, .int .i64 0, .int .i64 0, .int .i64 0, .int .i64 0, .int .i64 0, .slice none 0 0] 55)).alloc (.cells #[.int .i64 0, .int .i64 0, .int .i64 0, .int .i64 0, .int .i64 0, .int .i64 0, .int .i64 0] 23)) = W1 at *
  generalize W0.heap.size = gs at *
  have kt0 : W1.cell? ⟨w.heap.size, 0, none⟩ = some (.slice pt lt ct) := Ht7.out.cell 0
  have kt1 : W1.cell? ⟨w.heap.size, 1, none⟩ = some (.int .i64 t.ff) := Ht7.out.cell 1
  have kt2 : W1.cell? ⟨w.heap.size, 2, none⟩ = some (.int .i64 t.fb) := Ht7.out.cell 2
  have kt3 : W1.cell? ⟨w.heap.size, 3, none⟩ = some (.int .i64 t.db) := Ht7.out.cell 3
  have kt4 : W1.cell? ⟨w.heap.size, 4, none⟩ = some (.int .i64 t.al) := Ht7.out.cell 4
  have kx0 : W1.cell? ⟨w.heap.size + 1, 0, none⟩ = some (.int .i64 a.me) := Hx7.out.cell 0
  have kx1 : W1.cell? ⟨w.heap.size + 1, 1, none⟩ = some (.int .i64 a.rv) := Hx7.out.cell 1
  have kx2 : W1.cell? ⟨w.heap.size + 1, 2, none⟩ = some (.int .i64 a.nx) := Hx7.out.cell 2
  have kx3 : W1.cell? ⟨w.heap.size + 1, 3, none⟩ = some (.int .i64 a.mo) := Hx7.out.cell 3
  have kx4 : W1.cell? ⟨w.heap.size + 1, 4, none⟩ = some (.int .i64 a.bo) := Hx7.out.cell 4
  have kx5 : W1.cell? ⟨w.heap.size + 1, 5, none⟩ = some (.int .i64 a.fr) := Hx7.out.cell 5
  have kx6 : W1.cell? ⟨w.heap.size + 1, 6, none⟩ = some (.slice dp dn dc) := Hx7.out.cell 6
  have kx7 : W1.cell? ⟨w.heap.size + 1, 7, none⟩ = some (.slice sp sn sc) := Hx7.out.cell 7
  have kv0 : W1.cell? ⟨w.heap.size + 1 + 1, 0, none⟩ = some (.int .i64 v.kd) := Hv7.out.cell 0
  have kv1 : W1.cell? ⟨w.heap.size + 1 + 1, 1, none⟩ = some (.int .i64 v.me) := Hv7.out.cell 1
  have kv2 : W1.cell? ⟨w.heap.size + 1 + 1, 2, none⟩ = some (.int .i64 v.mo) := Hv7.out.cell 2
  have kv3 : W1.cell? ⟨w.heap.size + 1 + 1, 3, none⟩ = some (.int .i64 v.id) := Hv7.out.cell 3
  have kv4 : W1.cell? ⟨w.heap.size + 1 + 1, 4, none⟩ = some (.int .i64 v.te) := Hv7.out.cell 4
  have kv5 : W1.cell? ⟨w.heap.size + 1 + 1, 5, none⟩ = some (.int .i64 v.de) := Hv7.out.cell 5
  have kv6 : W1.cell? ⟨w.heap.size + 1 + 1, 6, none⟩ = some (.int .i64 v.fe) := Hv7.out.cell 6
  have kv7 : W1.cell? ⟨w.heap.size + 1 + 1, 7, none⟩ = some (.int .i64 v.pr) := Hv7.out.cell 7
  have kv8 : W1.cell? ⟨w.heap.size + 1 + 1, 8, none⟩ = some (.int .i64 v.ch) := Hv7.out.cell 8
  have kv9 : W1.cell? ⟨w.heap.size + 1 + 1, 9, none⟩ = some (.int .i64 v.un) := Hv7.out.cell 9
  have kv10 : W1.cell? ⟨w.heap.size + 1 + 1, 10, none⟩ = some (.int .i64 v.tg) := Hv7.out.cell 10
  have kv11 : W1.cell? ⟨w.heap.size + 1 + 1, 11, none⟩ = some (.int .i64 v.ow) := Hv7.out.cell 11
  have kv12 : W1.cell? ⟨w.heap.size + 1 + 1, 12, none⟩ = some (.int .i64 v.bp) := Hv7.out.cell 12
  have HC1 : Hid (Calls Try.prog 57 #[.agg #[.int .i64 a.me, .int .i64 a.rv, .int .i64 a.nx, .int .i64 a.mo, .int .i64 a.bo, .int .i64 a.fr, .slice dp dn dc], .agg #[.slice pt lt ct, .int .i64 t.ff, .int .i64 t.fb, .int .i64 t.db, .int .i64 t.al], .int .i64 v.mo] W1 fun e w' => BPost W1 (GrantIs a t v.mo) e w') := HCA.out W1 HB7.out
  clear HCA
  go_wp2_with fail
  refine HC1.out.mono ?_
  rintro e w2 ⟨b, l, pb, lb, cb, f, rfl, hi, hf, hb2⟩
  have HI : Hid (GrantIs a t v.mo b l f) := hi
  have Ht8 : Hid (Blk w2 (w.heap.size) #[.slice pt lt ct, .int .i64 t.ff, .int .i64 t.fb, .int .i64 t.db, .int .i64 t.al] 40) := Ht7.out.next hb2
  have Hx8 : Hid (Blk w2 (w.heap.size + 1) #[.int .i64 a.me, .int .i64 a.rv, .int .i64 a.nx, .int .i64 a.mo, .int .i64 a.bo, .int .i64 a.fr, .slice dp dn dc, .slice sp sn sc] 58) := Hx7.out.next hb2
  have Hv8 : Hid (Blk w2 (w.heap.size + 1 + 1) #[.int .i64 v.kd, .int .i64 v.me, .int .i64 v.mo, .int .i64 v.id, .int .i64 v.te, .int .i64 v.de, .int .i64 v.fe, .int .i64 v.pr, .int .i64 v.ch, .int .i64 v.un, .int .i64 v.tg, .int .i64 v.ow, .int .i64 v.bp] 27) := Hv7.out.next hb2
  have Hr8 : Hid (Blk w2 (w.heap.size + 1 + 1 + 1) #[.int .i64 0, .int .i64 0, .int .i64 0, .int .i64 0, .int .i64 0, .int .i64 0, .slice none 0 0, .slice none 0 0] 58) := Hr7.out.next hb2
  have Hs8 : Hid (Blk w2 (gs) #[.int .i64 v.id, .int .i64 0, .int .i64 v.un, .int .i64 v.tg, .int .i64 a.rv] 103) := Hs7.out.next hb2
  have Ha8 : Hid (Blk w2 (gs + 1) #[.int .i64 0, .int .i64 0, .int .i64 0, .int .i64 0, .int .i64 0, .int .i64 0, .slice none 0 0] 55) := Qa.out.next hb2
  have Hb8 : Hid (Blk w2 (gs + 1 + 1) #[.int .i64 0, .int .i64 0, .int .i64 0, .int .i64 0, .int .i64 0, .int .i64 0, .int .i64 0] 23) := Qb.out.next hb2
  have HB8 : Hid (Below w.heap.size w w2) := HB7.out.trans (hb2.mono HB7.out.size)
  have HF2 : Hid (deb.Fresh w2 W1.heap.size pb lb cb b.ds) := hf
  have HW1 : Hid (W1.heap.size ≤ w2.heap.size) := hb2.size
  clear hb2 hf hi HC1 kt0 kt1 kt2 kt3 kt4 kx0 kx1 kx2 kx3 kx4 kx5 kx6 kx7 kv0 kv1 kv2 kv3 kv4 kv5 kv6 kv7 kv8 kv9 kv10 kv11 kv12
  unfold acc.Ac.v acc.Ac.cs acc.Bi.v
  have kt0 : w2.cell? ⟨w.heap.size, 0, none⟩ = some (.slice pt lt ct) := Ht8.out.cell 0
  have kt1 : w2.cell? ⟨w.heap.size, 1, none⟩ = some (.int .i64 t.ff) := Ht8.out.cell 1
  have kt2 : w2.cell? ⟨w.heap.size, 2, none⟩ = some (.int .i64 t.fb) := Ht8.out.cell 2
  have kt3 : w2.cell? ⟨w.heap.size, 3, none⟩ = some (.int .i64 t.db) := Ht8.out.cell 3
  have kt4 : w2.cell? ⟨w.heap.size, 4, none⟩ = some (.int .i64 t.al) := Ht8.out.cell 4
  have kx0 : w2.cell? ⟨w.heap.size + 1, 0, none⟩ = some (.int .i64 a.me) := Hx8.out.cell 0
  have kx1 : w2.cell? ⟨w.heap.size + 1, 1, none⟩ = some (.int .i64 a.rv) := Hx8.out.cell 1
  have kx2 : w2.cell? ⟨w.heap.size + 1, 2, none⟩ = some (.int .i64 a.nx) := Hx8.out.cell 2
  have kx3 : w2.cell? ⟨w.heap.size + 1, 3, none⟩ = some (.int .i64 a.mo) := Hx8.out.cell 3
  have kx4 : w2.cell? ⟨w.heap.size + 1, 4, none⟩ = some (.int .i64 a.bo) := Hx8.out.cell 4
  have kx5 : w2.cell? ⟨w.heap.size + 1, 5, none⟩ = some (.int .i64 a.fr) := Hx8.out.cell 5
  have kx6 : w2.cell? ⟨w.heap.size + 1, 6, none⟩ = some (.slice dp dn dc) := Hx8.out.cell 6
  have kx7 : w2.cell? ⟨w.heap.size + 1, 7, none⟩ = some (.slice sp sn sc) := Hx8.out.cell 7
  have kv0 : w2.cell? ⟨w.heap.size + 1 + 1, 0, none⟩ = some (.int .i64 v.kd) := Hv8.out.cell 0
  have kv1 : w2.cell? ⟨w.heap.size + 1 + 1, 1, none⟩ = some (.int .i64 v.me) := Hv8.out.cell 1
  have kv2 : w2.cell? ⟨w.heap.size + 1 + 1, 2, none⟩ = some (.int .i64 v.mo) := Hv8.out.cell 2
  have kv3 : w2.cell? ⟨w.heap.size + 1 + 1, 3, none⟩ = some (.int .i64 v.id) := Hv8.out.cell 3
  have kv4 : w2.cell? ⟨w.heap.size + 1 + 1, 4, none⟩ = some (.int .i64 v.te) := Hv8.out.cell 4
  have kv5 : w2.cell? ⟨w.heap.size + 1 + 1, 5, none⟩ = some (.int .i64 v.de) := Hv8.out.cell 5
  have kv6 : w2.cell? ⟨w.heap.size + 1 + 1, 6, none⟩ = some (.int .i64 v.fe) := Hv8.out.cell 6
  have kv7 : w2.cell? ⟨w.heap.size + 1 + 1, 7, none⟩ = some (.int .i64 v.pr) := Hv8.out.cell 7
  have kv8 : w2.cell? ⟨w.heap.size + 1 + 1, 8, none⟩ = some (.int .i64 v.ch) := Hv8.out.cell 8
  have kv9 : w2.cell? ⟨w.heap.size + 1 + 1, 9, none⟩ = some (.int .i64 v.un) := Hv8.out.cell 9
  have kv10 : w2.cell? ⟨w.heap.size + 1 + 1, 10, none⟩ = some (.int .i64 v.tg) := Hv8.out.cell 10
  have kv11 : w2.cell? ⟨w.heap.size + 1 + 1, 11, none⟩ = some (.int .i64 v.ow) := Hv8.out.cell 11
  have kv12 : w2.cell? ⟨w.heap.size + 1 + 1, 12, none⟩ = some (.int .i64 v.bp) := Hv8.out.cell 12
  have ks0 : w2.cell? ⟨gs, 0, none⟩ = some (.int .i64 v.id) := Hs8.out.cell 0
  have ks1 : w2.cell? ⟨gs, 1, none⟩ = some (.int .i64 0) := Hs8.out.cell 1
  have ks2 : w2.cell? ⟨gs, 2, none⟩ = some (.int .i64 v.un) := Hs8.out.cell 2
  have ks3 : w2.cell? ⟨gs, 3, none⟩ = some (.int .i64 v.tg) := Hs8.out.cell 3
  have ks4 : w2.cell? ⟨gs, 4, none⟩ = some (.int .i64 a.rv) := Hs8.out.cell 4
  go_wp2_with (first | (refine wp_letAll rfl 55 _ _ rfl (gs + 1) rfl #[.int .i64 b.me, .int .i64 b.rv, .int .i64 b.nx, .int .i64 b.mo, .int .i64 b.bo, .int .i64 b.fr, .slice pb lb cb] rfl (by kernel_rfl) (by simp [Value.oneCell']) #[.int .i64 0, .int .i64 0, .int .i64 0, .int .i64 0, .int .i64 0, .int .i64 0, .slice none 0 0] 55 Ha8.out rfl ?_) | fail)
  intro w3 hU
  have Ht9 : Hid (Blk w3 (w.heap.size) #[.slice pt lt ct, .int .i64 t.ff, .int .i64 t.fb, .int .i64 t.db, .int .i64 t.al] 40) := hU.keep Ht8.out (by have := HS0.out; omega)
  have Hx9 : Hid (Blk w3 (w.heap.size + 1) #[.int .i64 a.me, .int .i64 a.rv, .int .i64 a.nx, .int .i64 a.mo, .int .i64 a.bo, .int .i64 a.fr, .slice dp dn dc, .slice sp sn sc] 58) := hU.keep Hx8.out (by have := HS0.out; omega)
  have Hv9 : Hid (Blk w3 (w.heap.size + 1 + 1) #[.int .i64 v.kd, .int .i64 v.me, .int .i64 v.mo, .int .i64 v.id, .int .i64 v.te, .int .i64 v.de, .int .i64 v.fe, .int .i64 v.pr, .int .i64 v.ch, .int .i64 v.un, .int .i64 v.tg, .int .i64 v.ow, .int .i64 v.bp] 27) := hU.keep Hv8.out (by have := HS0.out; omega)
  have Hr9 : Hid (Blk w3 (w.heap.size + 1 + 1 + 1) #[.int .i64 0, .int .i64 0, .int .i64 0, .int .i64 0, .int .i64 0, .int .i64 0, .slice none 0 0, .slice none 0 0] 58) := hU.keep Hr8.out (by have := HS0.out; omega)
  have Hs9 : Hid (Blk w3 (gs) #[.int .i64 v.id, .int .i64 0, .int .i64 v.un, .int .i64 v.tg, .int .i64 a.rv] 103) := hU.keep Hs8.out (by have := HS0.out; omega)
  have Ha9 : Hid (Blk w3 (gs + 1) #[.int .i64 b.me, .int .i64 b.rv, .int .i64 b.nx, .int .i64 b.mo, .int .i64 b.bo, .int .i64 b.fr, .slice pb lb cb] 55) := hU.blk
  have Hb9 : Hid (Blk w3 (gs + 1 + 1) #[.int .i64 0, .int .i64 0, .int .i64 0, .int .i64 0, .int .i64 0, .int .i64 0, .int .i64 0] 23) := hU.keep Hb8.out (by have := HS0.out; omega)
  have HB9 : Hid (Below w.heap.size w w3) := hU.bel _ _ (by have := HS0.out; omega) HB8.out
  have HF3 : Hid (deb.Fresh w3 W1.heap.size pb lb cb b.ds) := ⟨acc_upd HF2.out.came hU (fun hn y hy q => by have h1 := HF2.out.new hn y hy; have h2 := HS5.out; omega), HF2.out.new⟩
  have HW3 : Hid (w2.heap.size = w3.heap.size) := hU.size.symm
  clear hU kt0 kt1 kt2 kt3 kt4 kx0 kx1 kx2 kx3 kx4 kx5 kx6 kx7 kv0 kv1 kv2 kv3 kv4 kv5 kv6 kv7 kv8 kv9 kv10 kv11 kv12 ks0 ks1 ks2 ks3 ks4
  have kt0 : w3.cell? ⟨w.heap.size, 0, none⟩ = some (.slice pt lt ct) := Ht9.out.cell 0
  have kt1 : w3.cell? ⟨w.heap.size, 1, none⟩ = some (.int .i64 t.ff) := Ht9.out.cell 1
  have kt2 : w3.cell? ⟨w.heap.size, 2, none⟩ = some (.int .i64 t.fb) := Ht9.out.cell 2
  have kt3 : w3.cell? ⟨w.heap.size, 3, none⟩ = some (.int .i64 t.db) := Ht9.out.cell 3
  have kt4 : w3.cell? ⟨w.heap.size, 4, none⟩ = some (.int .i64 t.al) := Ht9.out.cell 4
  have kx0 : w3.cell? ⟨w.heap.size + 1, 0, none⟩ = some (.int .i64 a.me) := Hx9.out.cell 0
  have kx1 : w3.cell? ⟨w.heap.size + 1, 1, none⟩ = some (.int .i64 a.rv) := Hx9.out.cell 1
  have kx2 : w3.cell? ⟨w.heap.size + 1, 2, none⟩ = some (.int .i64 a.nx) := Hx9.out.cell 2
  have kx3 : w3.cell? ⟨w.heap.size + 1, 3, none⟩ = some (.int .i64 a.mo) := Hx9.out.cell 3
  have kx4 : w3.cell? ⟨w.heap.size + 1, 4, none⟩ = some (.int .i64 a.bo) := Hx9.out.cell 4
  have kx5 : w3.cell? ⟨w.heap.size + 1, 5, none⟩ = some (.int .i64 a.fr) := Hx9.out.cell 5
  have kx6 : w3.cell? ⟨w.heap.size + 1, 6, none⟩ = some (.slice dp dn dc) := Hx9.out.cell 6
  have kx7 : w3.cell? ⟨w.heap.size + 1, 7, none⟩ = some (.slice sp sn sc) := Hx9.out.cell 7
  have kv0 : w3.cell? ⟨w.heap.size + 1 + 1, 0, none⟩ = some (.int .i64 v.kd) := Hv9.out.cell 0
  have kv1 : w3.cell? ⟨w.heap.size + 1 + 1, 1, none⟩ = some (.int .i64 v.me) := Hv9.out.cell 1
  have kv2 : w3.cell? ⟨w.heap.size + 1 + 1, 2, none⟩ = some (.int .i64 v.mo) := Hv9.out.cell 2
  have kv3 : w3.cell? ⟨w.heap.size + 1 + 1, 3, none⟩ = some (.int .i64 v.id) := Hv9.out.cell 3
  have kv4 : w3.cell? ⟨w.heap.size + 1 + 1, 4, none⟩ = some (.int .i64 v.te) := Hv9.out.cell 4
  have kv5 : w3.cell? ⟨w.heap.size + 1 + 1, 5, none⟩ = some (.int .i64 v.de) := Hv9.out.cell 5
  have kv6 : w3.cell? ⟨w.heap.size + 1 + 1, 6, none⟩ = some (.int .i64 v.fe) := Hv9.out.cell 6
  have kv7 : w3.cell? ⟨w.heap.size + 1 + 1, 7, none⟩ = some (.int .i64 v.pr) := Hv9.out.cell 7
  have kv8 : w3.cell? ⟨w.heap.size + 1 + 1, 8, none⟩ = some (.int .i64 v.ch) := Hv9.out.cell 8
  have kv9 : w3.cell? ⟨w.heap.size + 1 + 1, 9, none⟩ = some (.int .i64 v.un) := Hv9.out.cell 9
  have kv10 : w3.cell? ⟨w.heap.size + 1 + 1, 10, none⟩ = some (.int .i64 v.tg) := Hv9.out.cell 10
  have kv11 : w3.cell? ⟨w.heap.size + 1 + 1, 11, none⟩ = some (.int .i64 v.ow) := Hv9.out.cell 11
  have kv12 : w3.cell? ⟨w.heap.size + 1 + 1, 12, none⟩ = some (.int .i64 v.bp) := Hv9.out.cell 12
  have ks0 : w3.cell? ⟨gs, 0, none⟩ = some (.int .i64 v.id) := Hs9.out.cell 0
  have ks1 : w3.cell? ⟨gs, 1, none⟩ = some (.int .i64 0) := Hs9.out.cell 1
  have ks2 : w3.cell? ⟨gs, 2, none⟩ = some (.int .i64 v.un) := Hs9.out.cell 2
  have ks3 : w3.cell? ⟨gs, 3, none⟩ = some (.int .i64 v.tg) := Hs9.out.cell 3
  have ks4 : w3.cell? ⟨gs, 4, none⟩ = some (.int .i64 a.rv) := Hs9.out.cell 4
  go_wp2_with (first | (refine wp_letAll rfl 23 _ _ rfl (gs + 1 + 1) rfl #[.int .i64 l.id, .int .i64 l.te, .int .i64 l.de, .int .i64 l.fe, .int .i64 l.pr, .int .i64 l.ch, .int .i64 l.un] rfl (by kernel_rfl) (by simp [Value.oneCell']) #[.int .i64 0, .int .i64 0, .int .i64 0, .int .i64 0, .int .i64 0, .int .i64 0, .int .i64 0] 23 Hb9.out rfl ?_) | fail)
  intro w4 hU
  have Ht10 : Hid (Blk w4 (w.heap.size) #[.slice pt lt ct, .int .i64 t.ff, .int .i64 t.fb, .int .i64 t.db, .int .i64 t.al] 40) := hU.keep Ht9.out (by have := HS0.out; omega)
  have Hx10 : Hid (Blk w4 (w.heap.size + 1) #[.int .i64 a.me, .int .i64 a.rv, .int .i64 a.nx, .int .i64 a.mo, .int .i64 a.bo, .int .i64 a.fr, .slice dp dn dc, .slice sp sn sc] 58) := hU.keep Hx9.out (by have := HS0.out; omega)
  have Hv10 : Hid (Blk w4 (w.heap.size + 1 + 1) #[.int .i64 v.kd, .int .i64 v.me, .int .i64 v.mo, .int .i64 v.id, .int .i64 v.te, .int .i64 v.de, .int .i64 v.fe, .int .i64 v.pr, .int .i64 v.ch, .int .i64 v.un, .int .i64 v.tg, .int .i64 v.ow, .int .i64 v.bp] 27) := hU.keep Hv9.out (by have := HS0.out; omega)
  have Hr10 : Hid (Blk w4 (w.heap.size + 1 + 1 + 1) #[.int .i64 0, .int .i64 0, .int .i64 0, .int .i64 0, .int .i64 0, .int .i64 0, .slice none 0 0, .slice none 0 0] 58) := hU.keep Hr9.out (by have := HS0.out; omega)
  have Hs10 : Hid (Blk w4 (gs) #[.int .i64 v.id, .int .i64 0, .int .i64 v.un, .int .i64 v.tg, .int .i64 a.rv] 103) := hU.keep Hs9.out (by have := HS0.out; omega)
  have Ha10 : Hid (Blk w4 (gs + 1) #[.int .i64 b.me, .int .i64 b.rv, .int .i64 b.nx, .int .i64 b.mo, .int .i64 b.bo, .int .i64 b.fr, .slice pb lb cb] 55) := hU.keep Ha9.out (by have := HS0.out; omega)
  have Hb10 : Hid (Blk w4 (gs + 1 + 1) #[.int .i64 l.id, .int .i64 l.te, .int .i64 l.de, .int .i64 l.fe, .int .i64 l.pr, .int .i64 l.ch, .int .i64 l.un] 23) := hU.blk
  have HB10 : Hid (Below w.heap.size w w4) := hU.bel _ _ (by have := HS0.out; omega) HB9.out
  have HF4 : Hid (deb.Fresh w4 W1.heap.size pb lb cb b.ds) := ⟨acc_upd HF3.out.came hU (fun hn y hy q => by have h1 := HF3.out.new hn y hy; have h2 := HS5.out; omega), HF3.out.new⟩
  have HW4 : Hid (w3.heap.size = w4.heap.size) := hU.size.symm
  clear hU kt0 kt1 kt2 kt3 kt4 kx0 kx1 kx2 kx3 kx4 kx5 kx6 kx7 kv0 kv1 kv2 kv3 kv4 kv5 kv6 kv7 kv8 kv9 kv10 kv11 kv12 ks0 ks1 ks2 ks3 ks4
  have HW1w : Hid (w.heap.size ≤ W1.heap.size) := by have h1 := HS5.out; have h2 := HS0.out; show _ ≤ _; omega
  have HSZ : Hid (W1.heap.size ≤ w4.heap.size) := by show _ ≤ _; have := HW1.out; have := HW3.out; have := HW4.out; omega
  by_cases hfz : f = 0
  · have HFZ : Hid (f = 0) := hfz
    have nf : (f != 0) = false := by simpa using hfz
    clear hfz
    by_cases hlb : l = billOf v
    · have HLB : Hid (l = billOf v) := hlb
      have qe : ∀ wz : World, (Op.equalIn 10000 23 (.agg #[.int .i64 l.id, .int .i64 l.te, .int .i64 l.de, .int .i64 l.fe, .int .i64 l.pr, .int .i64 l.ch, .int .i64 l.un]) (.agg #[.int .i64 v.id, .int .i64 v.te, .int .i64 v.de, .int .i64 v.fe, .int .i64 v.pr, .int .i64 v.ch, .int .i64 v.un])).run Try.prog wz = .ok true wz := fun wz => by rw [hlb, show (10000 : Nat) = 9998 + 2 from rfl, eqBi]; unfold billOf; simp
      clear hlb
      have kt0 : w4.cell? ⟨w.heap.size, 0, none⟩ = some (.slice pt lt ct) := Ht10.out.cell 0
      have kt1 : w4.cell? ⟨w.heap.size, 1, none⟩ = some (.int .i64 t.ff) := Ht10.out.cell 1
      have kt2 : w4.cell? ⟨w.heap.size, 2, none⟩ = some (.int .i64 t.fb) := Ht10.out.cell 2
      have kt3 : w4.cell? ⟨w.heap.size, 3, none⟩ = some (.int .i64 t.db) := Ht10.out.cell 3
      have kt4 : w4.cell? ⟨w.heap.size, 4, none⟩ = some (.int .i64 t.al) := Ht10.out.cell 4
      have kx0 : w4.cell? ⟨w.heap.size + 1, 0, none⟩ = some (.int .i64 a.me) := Hx10.out.cell 0
      have kx1 : w4.cell? ⟨w.heap.size + 1, 1, none⟩ = some (.int .i64 a.rv) := Hx10.out.cell 1
      have kx2 : w4.cell? ⟨w.heap.size + 1, 2, none⟩ = some (.int .i64 a.nx) := Hx10.out.cell 2
      have kx3 : w4.cell? ⟨w.heap.size + 1, 3, none⟩ = some (.int .i64 a.mo) := Hx10.out.cell 3
      have kx4 : w4.cell? ⟨w.heap.size + 1, 4, none⟩ = some (.int .i64 a.bo) := Hx10.out.cell 4
      have kx5 : w4.cell? ⟨w.heap.size + 1, 5, none⟩ = some (.int .i64 a.fr) := Hx10.out.cell 5
      have kx6 : w4.cell? ⟨w.heap.size + 1, 6, none⟩ = some (.slice dp dn dc) := Hx10.out.cell 6
      have kx7 : w4.cell? ⟨w.heap.size + 1, 7, none⟩ = some (.slice sp sn sc) := Hx10.out.cell 7
      have kv0 : w4.cell? ⟨w.heap.size + 1 + 1, 0, none⟩ = some (.int .i64 v.kd) := Hv10.out.cell 0
      have kv1 : w4.cell? ⟨w.heap.size + 1 + 1, 1, none⟩ = some (.int .i64 v.me) := Hv10.out.cell 1
      have kv2 : w4.cell? ⟨w.heap.size + 1 + 1, 2, none⟩ = some (.int .i64 v.mo) := Hv10.out.cell 2
      have kv3 : w4.cell? ⟨w.heap.size + 1 + 1, 3, none⟩ = some (.int .i64 v.id) := Hv10.out.cell 3
      have kv4 : w4.cell? ⟨w.heap.size + 1 + 1, 4, none⟩ = some (.int .i64 v.te) := Hv10.out.cell 4
      have kv5 : w4.cell? ⟨w.heap.size + 1 + 1, 5, none⟩ = some (.int .i64 v.de) := Hv10.out.cell 5
      have kv6 : w4.cell? ⟨w.heap.size + 1 + 1, 6, none⟩ = some (.int .i64 v.fe) := Hv10.out.cell 6
      have kv7 : w4.cell? ⟨w.heap.size + 1 + 1, 7, none⟩ = some (.int .i64 v.pr) := Hv10.out.cell 7
      have kv8 : w4.cell? ⟨w.heap.size + 1 + 1, 8, none⟩ = some (.int .i64 v.ch) := Hv10.out.cell 8
      have kv9 : w4.cell? ⟨w.heap.size + 1 + 1, 9, none⟩ = some (.int .i64 v.un) := Hv10.out.cell 9
      have kv10 : w4.cell? ⟨w.heap.size + 1 + 1, 10, none⟩ = some (.int .i64 v.tg) := Hv10.out.cell 10
      have kv11 : w4.cell? ⟨w.heap.size + 1 + 1, 11, none⟩ = some (.int .i64 v.ow) := Hv10.out.cell 11
      have kv12 : w4.cell? ⟨w.heap.size + 1 + 1, 12, none⟩ = some (.int .i64 v.bp) := Hv10.out.cell 12
      have kb0 : w4.cell? ⟨gs + 1 + 1, 0, none⟩ = some (.int .i64 l.id) := Hb10.out.cell 0
      have kb1 : w4.cell? ⟨gs + 1 + 1, 1, none⟩ = some (.int .i64 l.te) := Hb10.out.cell 1
      have kb2 : w4.cell? ⟨gs + 1 + 1, 2, none⟩ = some (.int .i64 l.de) := Hb10.out.cell 2
      have kb3 : w4.cell? ⟨gs + 1 + 1, 3, none⟩ = some (.int .i64 l.fe) := Hb10.out.cell 3
      have kb4 : w4.cell? ⟨gs + 1 + 1, 4, none⟩ = some (.int .i64 l.pr) := Hb10.out.cell 4
      have kb5 : w4.cell? ⟨gs + 1 + 1, 5, none⟩ = some (.int .i64 l.ch) := Hb10.out.cell 5
      have kb6 : w4.cell? ⟨gs + 1 + 1, 6, none⟩ = some (.int .i64 l.un) := Hb10.out.cell 6
      go_upto_region 20 with fail
      clear kt0 kt1 kt2 kt3 kt4 kx0 kx1 kx2 kx3 kx4 kx5 kx6 kx7 kv0 kv1 kv2 kv3 kv4 kv5 kv6 kv7 kv8 kv9 kv10 kv11 kv12 kb0 kb1 kb2 kb3 kb4 kb5 kb6
      have HSD : Hid ((fun u : World => Blk u (gs + 1) #[.int .i64 b.me, .int .i64 b.rv, .int .i64 b.nx, .int .i64 b.mo, .int .i64 b.bo, .int .i64 b.fr, .slice pb lb cb] 55 ∧ Blk u (w.heap.size + 1) #[.int .i64 a.me, .int .i64 a.rv, .int .i64 a.nx, .int .i64 a.mo, .int .i64 a.bo, .int .i64 a.fr, .slice dp dn dc, .slice sp sn sc] 58 ∧ Blk u gs #[.int .i64 v.id, .int .i64 0, .int .i64 v.un, .int .i64 v.tg, .int .i64 a.rv] 103) w4.drew) := ⟨Ha10.out, Hx10.out, Hs10.out⟩
      refine wp_region_held_drew (S := (fun u : World => Blk u (gs + 1) #[.int .i64 b.me, .int .i64 b.rv, .int .i64 b.nx, .int .i64 b.mo, .int .i64 b.bo, .int .i64 b.fr, .slice pb lb cb] 55 ∧ Blk u (w.heap.size + 1) #[.int .i64 a.me, .int .i64 a.rv, .int .i64 a.nx, .int .i64 a.mo, .int .i64 a.bo, .int .i64 a.fr, .slice dp dn dc, .slice sp sn sc] 58 ∧ Blk u gs #[.int .i64 v.id, .int .i64 0, .int .i64 v.un, .int .i64 v.tg, .int .i64 a.rv] 103)) (by kernel_rfl) HSD.out (fun hHeld => ?_)
      refine take_at 0 96 (.agg #[.int .i64 b.me, .int .i64 b.rv, .int .i64 b.nx, .int .i64 b.mo, .int .i64 b.bo, .int .i64 b.fr, .slice pb lb cb]) _ rfl rfl (by kernel_rfl) (by kernel_rfl) (by kernel_rfl) (fun _ _ _ h => h) (yieldsIf_whole (by rfl) 55 _ rfl (gs + 1) rfl 55 #[.int .i64 b.me, .int .i64 b.rv, .int .i64 b.nx, .int .i64 b.mo, .int .i64 b.bo, .int .i64 b.fr, .slice pb lb cb] _ (fun u hu => hu.1) Try.underlying55 rfl (by kernel_rfl)) hHeld ?_
      simp only [Act.put, List.setIfInBounds_toArray, List.set_cons_zero, List.set_cons_succ]
      refine take_at 1 97 (.pointer (some ⟨w.heap.size + 1, 7, none⟩)) _ rfl rfl (by kernel_rfl) (by kernel_rfl) (by kernel_rfl) (fun _ _ _ h => h) (Or.inl ⟨by rfl, fun v hv => by skip; clear hv; go_simp⟩) hHeld ?_
      simp only [Act.put, List.setIfInBounds_toArray, List.set_cons_zero, List.set_cons_succ]
      refine take_at 2 98 (.slice sp sn sc) _ rfl rfl (by kernel_rfl) (by kernel_rfl) (by kernel_rfl) (fun _ _ _ h => h) (Or.inl ⟨by rfl, fun v hv => by have h2 := hv.2.1.cell 7; clear hv; go_simp⟩) hHeld ?_
      simp only [Act.put, List.setIfInBounds_toArray, List.set_cons_zero, List.set_cons_succ]
      refine take_at 3 99 (.agg #[.int .i64 v.id, .int .i64 0, .int .i64 v.un, .int .i64 v.tg, .int .i64 a.rv]) _ rfl rfl (by kernel_rfl) (by kernel_rfl) (by kernel_rfl) (fun _ _ _ h => h) (yieldsIf_whole (by rfl) 103 _ rfl (gs) rfl 103 #[.int .i64 v.id, .int .i64 0, .int .i64 v.un, .int .i64 v.tg, .int .i64 a.rv] _ (fun u hu => hu.2.2) Try.underlying103 rfl (by kernel_rfl)) hHeld ?_
      simp only [Act.put, List.setIfInBounds_toArray, List.set_cons_zero, List.set_cons_succ]
      have HA0 : Hid (Blk w4.drew (gs + 1) #[.int .i64 b.me, .int .i64 b.rv, .int .i64 b.nx, .int .i64 b.mo, .int .i64 b.bo, .int .i64 b.fr, .slice pb lb cb] 55 ∧ Blk w4.drew (w.heap.size + 1) #[.int .i64 a.me, .int .i64 a.rv, .int .i64 a.nx, .int .i64 a.mo, .int .i64 a.bo, .int .i64 a.fr, .slice dp dn dc, .slice sp sn sc] 58 ∧ Blk w4.drew gs #[.int .i64 v.id, .int .i64 0, .int .i64 v.un, .int .i64 v.tg, .int .i64 a.rv] 103) := HSD.out
      have HR0 : Hid (Blk w4.drew (w.heap.size + 1 + 1 + 1) #[.int .i64 0, .int .i64 0, .int .i64 0, .int .i64 0, .int .i64 0, .int .i64 0, .slice none 0 0, .slice none 0 0] 58) := Hr10.out
      have HB0d : Hid (Below w.heap.size w w4.drew) := HB10.out.drew
      have HF0 : Hid (deb.Fresh w4.drew W1.heap.size pb lb cb b.ds) := drew_fresh HF4.out
      have HSU : Hid (W1.heap.size ≤ w4.drew.heap.size) := HSZ.out
      have HL0 : Hid (Lo w4.drew base (.slice sp sn sc) sol) := HH.out.so.next HB0d.out
      clear HSD
      generalize w4.drew = U at *
      refine wpAnyH_ready (rs := [4]) (by kernel_rfl) (by simp) (AllReadyH.cons rfl (fun K hK => ?_) AllReadyH.nil)
      rw [if_pos (by rfl)]
      have HAA : Hid (Blk (U.alloc (.cells #[.int .i64 v.id, .int .i64 0, .int .i64 v.un, .int .i64 v.tg, .int .i64 a.rv] 103)) (gs + 1) #[.int .i64 b.me, .int .i64 b.rv, .int .i64 b.nx, .int .i64 b.mo, .int .i64 b.bo, .int .i64 b.fr, .slice pb lb cb] 55 ∧ Blk (U.alloc (.cells #[.int .i64 v.id, .int .i64 0, .int .i64 v.un, .int .i64 v.tg, .int .i64 a.rv] 103)) (w.heap.size + 1) #[.int .i64 a.me, .int .i64 a.rv, .int .i64 a.nx, .int .i64 a.mo, .int .i64 a.bo, .int .i64 a.fr, .slice dp dn dc, .slice sp sn sc] 58 ∧ Blk (U.alloc (.cells #[.int .i64 v.id, .int .i64 0, .int .i64 v.un, .int .i64 v.tg, .int .i64 a.rv] 103)) gs #[.int .i64 v.id, .int .i64 0, .int .i64 v.un, .int .i64 v.tg, .int .i64 a.rv] 103) := ⟨HA0.out.1.alloc _, HA0.out.2.1.alloc _, HA0.out.2.2.alloc _⟩
      have HRA : Hid (Blk (U.alloc (.cells #[.int .i64 v.id, .int .i64 0, .int .i64 v.un, .int .i64 v.tg, .int .i64 a.rv] 103)) (w.heap.size + 1 + 1 + 1) #[.int .i64 0, .int .i64 0, .int .i64 0, .int .i64 0, .int .i64 0, .int .i64 0, .slice none 0 0, .slice none 0 0] 58) := HR0.out.alloc _
      have HBA : Hid (Below w.heap.size w (U.alloc (.cells #[.int .i64 v.id, .int .i64 0, .int .i64 v.un, .int .i64 v.tg, .int .i64 a.rv] 103))) := HB0d.out.alloc HB0d.out.size _
      have HFA : Hid (deb.Fresh (U.alloc (.cells #[.int .i64 v.id, .int .i64 0, .int .i64 v.un, .int .i64 v.tg, .int .i64 a.rv] 103)) W1.heap.size pb lb cb b.ds) := HF0.out.below ((Below.refl _ _).alloc (Nat.le_refl _) _)
      have HLA : Hid (Lo (U.alloc (.cells #[.int .i64 v.id, .int .i64 0, .int .i64 v.un, .int .i64 v.tg, .int .i64 a.rv] 103)) base (.slice sp sn sc) sol) := HL0.out.alloc _
      have HNA : Hid (Blk (U.alloc (.cells #[.int .i64 v.id, .int .i64 0, .int .i64 v.un, .int .i64 v.tg, .int .i64 a.rv] 103)) U.heap.size #[.int .i64 v.id, .int .i64 0, .int .i64 v.un, .int .i64 v.tg, .int .i64 a.rv] 103) := Blk.new _ _ _
      have HSA : Hid (W1.heap.size ≤ (U.alloc (.cells #[.int .i64 v.id, .int .i64 0, .int .i64 v.un, .int .i64 v.tg, .int .i64 a.rv] 103)).heap.size) := cell.alloc_le HSU.out _
      refine wp_runOp (v := .slice (some ⟨U.heap.size, 0, none⟩) 1 1) (w' := (U.alloc (.cells #[.int .i64 v.id, .int .i64 0, .int .i64 v.un, .int .i64 v.tg, .int .i64 a.rv] 103))) 100 rfl (by clear hK; go_simp) ?_
      refine hK.out _ _ HAA.out (fun hHeld => ?_)
      clear hK HA0 HR0 HB0d HF0 HL0 HSU
      simp only [Act.put, List.setIfInBounds_toArray, List.set_cons_zero, List.set_cons_succ]
      generalize U.heap.size = gn at *
      generalize U.alloc _ = U2 at *
      refine wpAnyH_ready (rs := [5]) (by kernel_rfl) (by simp) (AllReadyH.cons rfl (fun K hK => ?_) AllReadyH.nil)
      rw [if_pos (by rfl)]
      have HRL : Hid (w.heap.size + 1 + 1 + 1 < U2.heap.size) := HRA.out.lt
      refine step_sold 101 rfl _ _ rfl base gn _ sol ⟨v.id, 0, v.un, v.tg, a.rv⟩ rfl rfl HLA.out HNA.out hsol (Nat.le_trans HBS.out HBA.out.size) ?_
      intro v3 w9 h3 hg3 ho3
      obtain ⟨p3, c3, rfl, _, _, _⟩ := h3.row
      have hown : ∀ g, w.heap.size ≤ g → some g ≠ (Value.slice sp sn sc).ownBlock := fun g hg q => by have := HOWN.out g q.symm; omega
      have hk9 : ∀ g cs ty, w.heap.size ≤ g → Blk U2 g cs ty → Blk w9 g cs ty := fun g cs ty hg hb => by show w9.heap[g]? = _; rw [hg3.block g hb.lt (hown g hg)]; exact hb
      have HA9 : Hid (Blk w9 (gs + 1) #[.int .i64 b.me, .int .i64 b.rv, .int .i64 b.nx, .int .i64 b.mo, .int .i64 b.bo, .int .i64 b.fr, .slice pb lb cb] 55 ∧ Blk w9 (w.heap.size + 1) #[.int .i64 a.me, .int .i64 a.rv, .int .i64 a.nx, .int .i64 a.mo, .int .i64 a.bo, .int .i64 a.fr, .slice dp dn dc, .slice sp sn sc] 58 ∧ Blk w9 gs #[.int .i64 v.id, .int .i64 0, .int .i64 v.un, .int .i64 v.tg, .int .i64 a.rv] 103) := ⟨hk9 _ _ _ (by have := HS0.out; omega) HAA.out.1, hk9 _ _ _ (by omega) HAA.out.2.1, hk9 _ _ _ (by have := HS0.out; omega) HAA.out.2.2⟩
      have HR9 : Hid (Blk w9 (w.heap.size + 1 + 1 + 1) #[.int .i64 0, .int .i64 0, .int .i64 0, .int .i64 0, .int .i64 0, .int .i64 0, .slice none 0 0, .slice none 0 0] 58) := hk9 _ _ _ (by omega) HRA.out
      have HG9 : Hid (w.grownBy w9 (Value.slice sp sn sc).ownBlock) := (grown_of HBA.out _).trans hg3
      have HF9 : Hid (tar.Came w9 pb lb cb b.ds) := came_grown HFA.out.came hg3 (fun hn y hy => hown _ (Nat.le_trans HW1w.out (HFA.out.new hn y hy)))
      have HFN : Hid (0 < lb → ∀ y, pb = some y → W1.heap.size ≤ y.block ∧ y.block < U2.heap.size) := fun hn y hy => ⟨HFA.out.new hn y hy, by obtain ⟨bb, oo, e, lbb, _⟩ := HFA.out.came.row.at hn; rw [hy] at e; rw [Option.some.inj e]; exact lbb⟩
      have HL9 : Hid (Lo w9 base (.slice p3 (sol ++ [(⟨v.id, 0, v.un, v.tg, a.rv⟩ : So)]).length c3) (sol ++ [⟨v.id, 0, v.un, v.tg, a.rv⟩])) := h3
      have HO9 : Hid ((Value.slice p3 (sol ++ [(⟨v.id, 0, v.un, v.tg, a.rv⟩ : So)]).length c3).ownBlock = (Value.slice sp sn sc).ownBlock ∨ (Value.slice p3 (sol ++ [(⟨v.id, 0, v.un, v.tg, a.rv⟩ : So)]).length c3).ownBlock = some U2.heap.size) := ho3
      have HU2 : Hid (w.heap.size ≤ U2.heap.size) := HBA.out.size
      refine hK.out _ _ HA9.out (fun hHeld => ?_)
      clear hK h3 hg3 ho3 hown hk9 HAA HRA HBA HFA HLA HNA HSA
      simp only [Act.put, List.setIfInBounds_toArray, List.set_cons_zero, List.set_cons_succ]
      generalize (sol ++ [(⟨v.id, 0, v.un, v.tg, a.rv⟩ : So)]).length = n3 at *
      refine take_at 6 102 (.agg #[.int .i64 b.me, .int .i64 b.rv, .int .i64 b.nx, .int .i64 b.mo, .int .i64 b.bo, .int .i64 b.fr, .slice pb lb cb, .slice p3 n3 c3]) _ rfl rfl (by kernel_rfl) (by kernel_rfl) (by kernel_rfl) (fun _ _ _ h => h) (Or.inl ⟨by rfl, fun v hv => by skip; clear hv; go_simp⟩) hHeld ?_
      simp only [Act.put, List.setIfInBounds_toArray, List.set_cons_zero, List.set_cons_succ]
      refine wpAnyH_ready (rs := [7]) (by kernel_rfl) (by simp) (AllReadyH.cons rfl (fun K hK => ?_) AllReadyH.nil)
      rw [if_pos (by rfl)]
      refine wp_letOp 58 _ _ rfl (w.heap.size + 1 + 1 + 1) rfl #[.int .i64 b.me, .int .i64 b.rv, .int .i64 b.nx, .int .i64 b.mo, .int .i64 b.bo, .int .i64 b.fr, .slice pb lb cb, .slice p3 n3 c3] rfl (by kernel_rfl) (by simp [Value.oneCell']) #[.int .i64 0, .int .i64 0, .int .i64 0, .int .i64 0, .int .i64 0, .int .i64 0, .slice none 0 0, .slice none 0 0] 58 HR9.out rfl rfl ?_
      intro WF hU
      have HRF : Hid (Blk WF (w.heap.size + 1 + 1 + 1) #[.int .i64 b.me, .int .i64 b.rv, .int .i64 b.nx, .int .i64 b.mo, .int .i64 b.bo, .int .i64 b.fr, .slice pb lb cb, .slice p3 n3 c3] 58) := hU.blk
      have HUF : Hid (Upd w9 WF (w.heap.size + 1 + 1 + 1) #[.int .i64 b.me, .int .i64 b.rv, .int .i64 b.nx, .int .i64 b.mo, .int .i64 b.bo, .int .i64 b.fr, .slice pb lb cb, .slice p3 n3 c3] 58) := hU
      have HAF : Hid (Blk WF (gs + 1) #[.int .i64 b.me, .int .i64 b.rv, .int .i64 b.nx, .int .i64 b.mo, .int .i64 b.bo, .int .i64 b.fr, .slice pb lb cb] 55 ∧ Blk WF (w.heap.size + 1) #[.int .i64 a.me, .int .i64 a.rv, .int .i64 a.nx, .int .i64 a.mo, .int .i64 a.bo, .int .i64 a.fr, .slice dp dn dc, .slice sp sn sc] 58 ∧ Blk WF gs #[.int .i64 v.id, .int .i64 0, .int .i64 v.un, .int .i64 v.tg, .int .i64 a.rv] 103) := ⟨hU.keep HA9.out.1 (by have := HS0.out; omega), hU.keep HA9.out.2.1 (by omega), hU.keep HA9.out.2.2 (by have := HS0.out; omega)⟩
      refine hK.out _ _ HAF.out (fun hHeld => ?_)
      clear hK hU HA9 HR9
      refine take_at 8 7 (.int .i64 0) _ rfl rfl (by kernel_rfl) (by kernel_rfl) (by kernel_rfl) (fun _ _ _ h => h) (Or.inl ⟨by rfl, fun v hv => by skip; clear hv; go_simp⟩) hHeld ?_
      simp only [Act.put, List.setIfInBounds_toArray, List.set_cons_zero, List.set_cons_succ]
      refine wpAnyH_done (by kernel_rfl) ?_ _
      clear hHeld
      have R0 : Hid (WF.cell? ⟨w.heap.size + 1 + 1 + 1, 0, none⟩ = some (.int .i64 b.me)) := HRF.out.cell 0
      have R1 : Hid (WF.cell? ⟨w.heap.size + 1 + 1 + 1, 1, none⟩ = some (.int .i64 b.rv)) := HRF.out.cell 1
      have R2 : Hid (WF.cell? ⟨w.heap.size + 1 + 1 + 1, 2, none⟩ = some (.int .i64 b.nx)) := HRF.out.cell 2
      have R3 : Hid (WF.cell? ⟨w.heap.size + 1 + 1 + 1, 3, none⟩ = some (.int .i64 b.mo)) := HRF.out.cell 3
      have R4 : Hid (WF.cell? ⟨w.heap.size + 1 + 1 + 1, 4, none⟩ = some (.int .i64 b.bo)) := HRF.out.cell 4
      have R5 : Hid (WF.cell? ⟨w.heap.size + 1 + 1 + 1, 5, none⟩ = some (.int .i64 b.fr)) := HRF.out.cell 5
      have R6 : Hid (WF.cell? ⟨w.heap.size + 1 + 1 + 1, 6, none⟩ = some (.slice pb lb cb)) := HRF.out.cell 6
      have R7 : Hid (WF.cell? ⟨w.heap.size + 1 + 1 + 1, 7, none⟩ = some (.slice p3 n3 c3)) := HRF.out.cell 7
      have HFIN : Hid (HapPost w base t (cuA a dp dn dc sp sn sc) ⟨a, sol⟩ v (.returned (.tuple #[.agg #[.int .i64 b.me, .int .i64 b.rv, .int .i64 b.nx, .int .i64 b.mo, .int .i64 b.bo, .int .i64 b.fr, .slice pb lb cb, .slice p3 n3 c3], .int .i64 0])) WF) := by
        have hgf : w.grownBy WF (Value.slice sp sn sc).ownBlock := grown_upd HG9.out HUF.out (by omega)
        have hso : soldOf ⟨a, sol⟩ v = ⟨v.id, 0, v.un, v.tg, a.rv⟩ := by unfold soldOf; rw [if_neg (by rw [HKD.out]; decide)]
        refine ⟨cuA b pb lb cb p3 n3 c3, ⟨b, sol ++ [soldOf ⟨a, sol⟩ v]⟩, 0, rfl, .inr ⟨HK5.out, b, l, f, .inr (.inl ⟨HKD.out, HI.out⟩), .inr (.inr ⟨HFZ.out, HLB.out, rfl, rfl⟩)⟩, fun _ => ?_, hgf⟩
        rw [hso]
        refine ⟨hgf, ⟨cuA_num _ _ _ _ _ _ _, ⟨acc_upd HF9.out HUF.out (fun hn y hy q => by have h1 := (HFN.out hn y hy).1; have h2 := HS5.out; have h3 := HS0.out; omega), fun hn y hy => by have h1 := (HFN.out hn y hy).1; have h2 := HW1w.out; have h3 := HBS.out; omega⟩, lo_upd HL9.out HUF.out (fun g hg q => ?_)⟩, fun g hg => ?_, fun hn y hy => Nat.le_trans HW1w.out (HFN.out hn y hy).1, fun g hg hn y hy q => ?_⟩
        · have h0 : (Value.slice p3 n3 c3).ownBlock = some g := hg
          rcases HO9.out with e | e
          · rw [e] at h0; have := HOWN.out g h0; omega
          · rw [e] at h0; have h1 := Option.some.inj h0; have h2 := HRL.out; omega
        · rcases HO9.out with e | e
          · exact .inl (e.symm.trans hg)
          · refine .inr ?_
            have h0 : (Value.slice p3 n3 c3).ownBlock = some g := hg
            rw [e] at h0
            have h1 := Option.some.inj h0
            have h2 := HU2.out
            omega
        · have h0 : (Value.slice p3 n3 c3).ownBlock = some g := hg
          have h1 := HFN.out hn y hy
          rcases HO9.out with e | e
          · rw [e] at h0; have h2 := HOWN.out g h0; have h3 := HW1w.out; omega
          · rw [e] at h0; have h2 := Option.some.inj h0; omega
      go_wp2_with fail
      exact bodyPost_ret (v := .tuple #[.agg #[.int .i64 b.me, .int .i64 b.rv, .int .i64 b.nx, .int .i64 b.mo, .int .i64 b.bo, .int .i64 b.fr, .slice pb lb cb, .slice p3 n3 c3], .int .i64 0]) (by simp [results, Try.results38, R0.out, R1.out, R2.out, R3.out, R4.out, R5.out, R6.out, R7.out, go_sem]) rfl HFIN.out
    · have HLB : Hid (l ≠ billOf v) := hlb
      have qe : ∀ wz : World, (Op.equalIn 10000 23 (.agg #[.int .i64 l.id, .int .i64 l.te, .int .i64 l.de, .int .i64 l.fe, .int .i64 l.pr, .int .i64 l.ch, .int .i64 l.un]) (.agg #[.int .i64 v.id, .int .i64 v.te, .int .i64 v.de, .int .i64 v.fe, .int .i64 v.pr, .int .i64 v.ch, .int .i64 v.un])).run Try.prog wz = .ok false wz := fun wz => by rw [show (10000 : Nat) = 9998 + 2 from rfl, eqBi]; exact congrArg (fun q => Result.ok q wz) (decide_eq_false (bill_ne hlb))
      clear hlb
      have HNZ : Hid (¬ (8 : Int) = 0) := by show ¬ (8 : Int) = 0; decide
      have kt0 : w4.cell? ⟨w.heap.size, 0, none⟩ = some (.slice pt lt ct) := Ht10.out.cell 0
      have kt1 : w4.cell? ⟨w.heap.size, 1, none⟩ = some (.int .i64 t.ff) := Ht10.out.cell 1
      have kt2 : w4.cell? ⟨w.heap.size, 2, none⟩ = some (.int .i64 t.fb) := Ht10.out.cell 2
      have kt3 : w4.cell? ⟨w.heap.size, 3, none⟩ = some (.int .i64 t.db) := Ht10.out.cell 3
      have kt4 : w4.cell? ⟨w.heap.size, 4, none⟩ = some (.int .i64 t.al) := Ht10.out.cell 4
      have kx0 : w4.cell? ⟨w.heap.size + 1, 0, none⟩ = some (.int .i64 a.me) := Hx10.out.cell 0
      have kx1 : w4.cell? ⟨w.heap.size + 1, 1, none⟩ = some (.int .i64 a.rv) := Hx10.out.cell 1
      have kx2 : w4.cell? ⟨w.heap.size + 1, 2, none⟩ = some (.int .i64 a.nx) := Hx10.out.cell 2
      have kx3 : w4.cell? ⟨w.heap.size + 1, 3, none⟩ = some (.int .i64 a.mo) := Hx10.out.cell 3
      have kx4 : w4.cell? ⟨w.heap.size + 1, 4, none⟩ = some (.int .i64 a.bo) := Hx10.out.cell 4
      have kx5 : w4.cell? ⟨w.heap.size + 1, 5, none⟩ = some (.int .i64 a.fr) := Hx10.out.cell 5
      have kx6 : w4.cell? ⟨w.heap.size + 1, 6, none⟩ = some (.slice dp dn dc) := Hx10.out.cell 6
      have kx7 : w4.cell? ⟨w.heap.size + 1, 7, none⟩ = some (.slice sp sn sc) := Hx10.out.cell 7
      have kv0 : w4.cell? ⟨w.heap.size + 1 + 1, 0, none⟩ = some (.int .i64 v.kd) := Hv10.out.cell 0
      have kv1 : w4.cell? ⟨w.heap.size + 1 + 1, 1, none⟩ = some (.int .i64 v.me) := Hv10.out.cell 1
      have kv2 : w4.cell? ⟨w.heap.size + 1 + 1, 2, none⟩ = some (.int .i64 v.mo) := Hv10.out.cell 2
      have kv3 : w4.cell? ⟨w.heap.size + 1 + 1, 3, none⟩ = some (.int .i64 v.id) := Hv10.out.cell 3
      have kv4 : w4.cell? ⟨w.heap.size + 1 + 1, 4, none⟩ = some (.int .i64 v.te) := Hv10.out.cell 4
      have kv5 : w4.cell? ⟨w.heap.size + 1 + 1, 5, none⟩ = some (.int .i64 v.de) := Hv10.out.cell 5
      have kv6 : w4.cell? ⟨w.heap.size + 1 + 1, 6, none⟩ = some (.int .i64 v.fe) := Hv10.out.cell 6
      have kv7 : w4.cell? ⟨w.heap.size + 1 + 1, 7, none⟩ = some (.int .i64 v.pr) := Hv10.out.cell 7
      have kv8 : w4.cell? ⟨w.heap.size + 1 + 1, 8, none⟩ = some (.int .i64 v.ch) := Hv10.out.cell 8
      have kv9 : w4.cell? ⟨w.heap.size + 1 + 1, 9, none⟩ = some (.int .i64 v.un) := Hv10.out.cell 9
      have kv10 : w4.cell? ⟨w.heap.size + 1 + 1, 10, none⟩ = some (.int .i64 v.tg) := Hv10.out.cell 10
      have kv11 : w4.cell? ⟨w.heap.size + 1 + 1, 11, none⟩ = some (.int .i64 v.ow) := Hv10.out.cell 11
      have kv12 : w4.cell? ⟨w.heap.size + 1 + 1, 12, none⟩ = some (.int .i64 v.bp) := Hv10.out.cell 12
      have ks0 : w4.cell? ⟨gs, 0, none⟩ = some (.int .i64 v.id) := Hs10.out.cell 0
      have ks1 : w4.cell? ⟨gs, 1, none⟩ = some (.int .i64 0) := Hs10.out.cell 1
      have ks2 : w4.cell? ⟨gs, 2, none⟩ = some (.int .i64 v.un) := Hs10.out.cell 2
      have ks3 : w4.cell? ⟨gs, 3, none⟩ = some (.int .i64 v.tg) := Hs10.out.cell 3
      have ks4 : w4.cell? ⟨gs, 4, none⟩ = some (.int .i64 a.rv) := Hs10.out.cell 4
      have kb0 : w4.cell? ⟨gs + 1 + 1, 0, none⟩ = some (.int .i64 l.id) := Hb10.out.cell 0
      have kb1 : w4.cell? ⟨gs + 1 + 1, 1, none⟩ = some (.int .i64 l.te) := Hb10.out.cell 1
      have kb2 : w4.cell? ⟨gs + 1 + 1, 2, none⟩ = some (.int .i64 l.de) := Hb10.out.cell 2
      have kb3 : w4.cell? ⟨gs + 1 + 1, 3, none⟩ = some (.int .i64 l.fe) := Hb10.out.cell 3
      have kb4 : w4.cell? ⟨gs + 1 + 1, 4, none⟩ = some (.int .i64 l.pr) := Hb10.out.cell 4
      have kb5 : w4.cell? ⟨gs + 1 + 1, 5, none⟩ = some (.int .i64 l.ch) := Hb10.out.cell 5
      have kb6 : w4.cell? ⟨gs + 1 + 1, 6, none⟩ = some (.int .i64 l.un) := Hb10.out.cell 6
      go_wp2_with (first | (refine wp_letAll rfl 58 _ _ rfl (w.heap.size + 1 + 1 + 1) rfl #[.int .i64 0, .int .i64 0, .int .i64 0, .int .i64 0, .int .i64 0, .int .i64 0, .slice none 0 0, .slice none 0 0] rfl (by kernel_rfl) (by simp [Value.oneCell']) #[.int .i64 0, .int .i64 0, .int .i64 0, .int .i64 0, .int .i64 0, .int .i64 0, .slice none 0 0, .slice none 0 0] 58 Hr10.out rfl ?_) | fail)
      intro WF hU
      have HRF : Hid (Blk WF (w.heap.size + 1 + 1 + 1) #[.int .i64 0, .int .i64 0, .int .i64 0, .int .i64 0, .int .i64 0, .int .i64 0, .slice none 0 0, .slice none 0 0] 58) := hU.blk
      have HBF : Hid (Below w.heap.size w WF) := hU.bel _ _ (by omega) HB10.out
      clear hU kt0 kt1 kt2 kt3 kt4 kx0 kx1 kx2 kx3 kx4 kx5 kx6 kx7 kv0 kv1 kv2 kv3 kv4 kv5 kv6 kv7 kv8 kv9 kv10 kv11 kv12 ks0 ks1 ks2 ks3 ks4 kb0 kb1 kb2 kb3 kb4 kb5 kb6
      have R0 : Hid (WF.cell? ⟨w.heap.size + 1 + 1 + 1, 0, none⟩ = some (.int .i64 0)) := HRF.out.cell 0
      have R1 : Hid (WF.cell? ⟨w.heap.size + 1 + 1 + 1, 1, none⟩ = some (.int .i64 0)) := HRF.out.cell 1
      have R2 : Hid (WF.cell? ⟨w.heap.size + 1 + 1 + 1, 2, none⟩ = some (.int .i64 0)) := HRF.out.cell 2
      have R3 : Hid (WF.cell? ⟨w.heap.size + 1 + 1 + 1, 3, none⟩ = some (.int .i64 0)) := HRF.out.cell 3
      have R4 : Hid (WF.cell? ⟨w.heap.size + 1 + 1 + 1, 4, none⟩ = some (.int .i64 0)) := HRF.out.cell 4
      have R5 : Hid (WF.cell? ⟨w.heap.size + 1 + 1 + 1, 5, none⟩ = some (.int .i64 0)) := HRF.out.cell 5
      have R6 : Hid (WF.cell? ⟨w.heap.size + 1 + 1 + 1, 6, none⟩ = some (.slice none 0 0)) := HRF.out.cell 6
      have R7 : Hid (WF.cell? ⟨w.heap.size + 1 + 1 + 1, 7, none⟩ = some (.slice none 0 0)) := HRF.out.cell 7
      have HFIN : Hid (HapPost w base t (cuA a dp dn dc sp sn sc) ⟨a, sol⟩ v (.returned (.tuple #[.agg #[.int .i64 0, .int .i64 0, .int .i64 0, .int .i64 0, .int .i64 0, .int .i64 0, .slice none 0 0, .slice none 0 0], .int .i64 8])) WF) := ⟨cu0, cm0, 8, rfl, .inr ⟨HK5.out, b, l, f, .inr (.inl ⟨HKD.out, HI.out⟩), .inr (.inl ⟨HFZ.out, HLB.out, rfl⟩)⟩, fun h => absurd h HNZ.out, grown_of HBF.out _⟩
      go_wp2_with fail
      exact bodyPost_ret (v := .tuple #[.agg #[.int .i64 0, .int .i64 0, .int .i64 0, .int .i64 0, .int .i64 0, .int .i64 0, .slice none 0 0, .slice none 0 0], .int .i64 8]) (by simp [results, Try.results38, R0.out, R1.out, R2.out, R3.out, R4.out, R5.out, R6.out, R7.out, go_sem]) rfl HFIN.out
  · have HNZ : Hid (¬ f = 0) := hfz
    have nf : (f != 0) = true := by simpa using hfz
    clear hfz
    have kt0 : w4.cell? ⟨w.heap.size, 0, none⟩ = some (.slice pt lt ct) := Ht10.out.cell 0
    have kt1 : w4.cell? ⟨w.heap.size, 1, none⟩ = some (.int .i64 t.ff) := Ht10.out.cell 1
    have kt2 : w4.cell? ⟨w.heap.size, 2, none⟩ = some (.int .i64 t.fb) := Ht10.out.cell 2
    have kt3 : w4.cell? ⟨w.heap.size, 3, none⟩ = some (.int .i64 t.db) := Ht10.out.cell 3
    have kt4 : w4.cell? ⟨w.heap.size, 4, none⟩ = some (.int .i64 t.al) := Ht10.out.cell 4
    have kx0 : w4.cell? ⟨w.heap.size + 1, 0, none⟩ = some (.int .i64 a.me) := Hx10.out.cell 0
    have kx1 : w4.cell? ⟨w.heap.size + 1, 1, none⟩ = some (.int .i64 a.rv) := Hx10.out.cell 1
    have kx2 : w4.cell? ⟨w.heap.size + 1, 2, none⟩ = some (.int .i64 a.nx) := Hx10.out.cell 2
    have kx3 : w4.cell? ⟨w.heap.size + 1, 3, none⟩ = some (.int .i64 a.mo) := Hx10.out.cell 3
    have kx4 : w4.cell? ⟨w.heap.size + 1, 4, none⟩ = some (.int .i64 a.bo) := Hx10.out.cell 4
    have kx5 : w4.cell? ⟨w.heap.size + 1, 5, none⟩ = some (.int .i64 a.fr) := Hx10.out.cell 5
    have kx6 : w4.cell? ⟨w.heap.size + 1, 6, none⟩ = some (.slice dp dn dc) := Hx10.out.cell 6
    have kx7 : w4.cell? ⟨w.heap.size + 1, 7, none⟩ = some (.slice sp sn sc) := Hx10.out.cell 7
    have kv0 : w4.cell? ⟨w.heap.size + 1 + 1, 0, none⟩ = some (.int .i64 v.kd) := Hv10.out.cell 0
    have kv1 : w4.cell? ⟨w.heap.size + 1 + 1, 1, none⟩ = some (.int .i64 v.me) := Hv10.out.cell 1
    have kv2 : w4.cell? ⟨w.heap.size + 1 + 1, 2, none⟩ = some (.int .i64 v.mo) := Hv10.out.cell 2
    have kv3 : w4.cell? ⟨w.heap.size + 1 + 1, 3, none⟩ = some (.int .i64 v.id) := Hv10.out.cell 3
    have kv4 : w4.cell? ⟨w.heap.size + 1 + 1, 4, none⟩ = some (.int .i64 v.te) := Hv10.out.cell 4
    have kv5 : w4.cell? ⟨w.heap.size + 1 + 1, 5, none⟩ = some (.int .i64 v.de) := Hv10.out.cell 5
    have kv6 : w4.cell? ⟨w.heap.size + 1 + 1, 6, none⟩ = some (.int .i64 v.fe) := Hv10.out.cell 6
    have kv7 : w4.cell? ⟨w.heap.size + 1 + 1, 7, none⟩ = some (.int .i64 v.pr) := Hv10.out.cell 7
    have kv8 : w4.cell? ⟨w.heap.size + 1 + 1, 8, none⟩ = some (.int .i64 v.ch) := Hv10.out.cell 8
    have kv9 : w4.cell? ⟨w.heap.size + 1 + 1, 9, none⟩ = some (.int .i64 v.un) := Hv10.out.cell 9
    have kv10 : w4.cell? ⟨w.heap.size + 1 + 1, 10, none⟩ = some (.int .i64 v.tg) := Hv10.out.cell 10
    have kv11 : w4.cell? ⟨w.heap.size + 1 + 1, 11, none⟩ = some (.int .i64 v.ow) := Hv10.out.cell 11
    have kv12 : w4.cell? ⟨w.heap.size + 1 + 1, 12, none⟩ = some (.int .i64 v.bp) := Hv10.out.cell 12
    have ks0 : w4.cell? ⟨gs, 0, none⟩ = some (.int .i64 v.id) := Hs10.out.cell 0
    have ks1 : w4.cell? ⟨gs, 1, none⟩ = some (.int .i64 0) := Hs10.out.cell 1
    have ks2 : w4.cell? ⟨gs, 2, none⟩ = some (.int .i64 v.un) := Hs10.out.cell 2
    have ks3 : w4.cell? ⟨gs, 3, none⟩ = some (.int .i64 v.tg) := Hs10.out.cell 3
    have ks4 : w4.cell? ⟨gs, 4, none⟩ = some (.int .i64 a.rv) := Hs10.out.cell 4
    have kb0 : w4.cell? ⟨gs + 1 + 1, 0, none⟩ = some (.int .i64 l.id) := Hb10.out.cell 0
    have kb1 : w4.cell? ⟨gs + 1 + 1, 1, none⟩ = some (.int .i64 l.te) := Hb10.out.cell 1
    have kb2 : w4.cell? ⟨gs + 1 + 1, 2, none⟩ = some (.int .i64 l.de) := Hb10.out.cell 2
    have kb3 : w4.cell? ⟨gs + 1 + 1, 3, none⟩ = some (.int .i64 l.fe) := Hb10.out.cell 3
    have kb4 : w4.cell? ⟨gs + 1 + 1, 4, none⟩ = some (.int .i64 l.pr) := Hb10.out.cell 4
    have kb5 : w4.cell? ⟨gs + 1 + 1, 5, none⟩ = some (.int .i64 l.ch) := Hb10.out.cell 5
    have kb6 : w4.cell? ⟨gs + 1 + 1, 6, none⟩ = some (.int .i64 l.un) := Hb10.out.cell 6
    go_wp2_with (first | (refine wp_letAll rfl 58 _ _ rfl (w.heap.size + 1 + 1 + 1) rfl #[.int .i64 0, .int .i64 0, .int .i64 0, .int .i64 0, .int .i64 0, .int .i64 0, .slice none 0 0, .slice none 0 0] rfl (by kernel_rfl) (by simp [Value.oneCell']) #[.int .i64 0, .int .i64 0, .int .i64 0, .int .i64 0, .int .i64 0, .int .i64 0, .slice none 0 0, .slice none 0 0] 58 Hr10.out rfl ?_) | fail)
    intro WF hU
    have HRF : Hid (Blk WF (w.heap.size + 1 + 1 + 1) #[.int .i64 0, .int .i64 0, .int .i64 0, .int .i64 0, .int .i64 0, .int .i64 0, .slice none 0 0, .slice none 0 0] 58) := hU.blk
    have HBF : Hid (Below w.heap.size w WF) := hU.bel _ _ (by omega) HB10.out
    clear hU kt0 kt1 kt2 kt3 kt4 kx0 kx1 kx2 kx3 kx4 kx5 kx6 kx7 kv0 kv1 kv2 kv3 kv4 kv5 kv6 kv7 kv8 kv9 kv10 kv11 kv12 ks0 ks1 ks2 ks3 ks4 kb0 kb1 kb2 kb3 kb4 kb5 kb6
    have R0 : Hid (WF.cell? ⟨w.heap.size + 1 + 1 + 1, 0, none⟩ = some (.int .i64 0)) := HRF.out.cell 0
    have R1 : Hid (WF.cell? ⟨w.heap.size + 1 + 1 + 1, 1, none⟩ = some (.int .i64 0)) := HRF.out.cell 1
    have R2 : Hid (WF.cell? ⟨w.heap.size + 1 + 1 + 1, 2, none⟩ = some (.int .i64 0)) := HRF.out.cell 2
    have R3 : Hid (WF.cell? ⟨w.heap.size + 1 + 1 + 1, 3, none⟩ = some (.int .i64 0)) := HRF.out.cell 3
    have R4 : Hid (WF.cell? ⟨w.heap.size + 1 + 1 + 1, 4, none⟩ = some (.int .i64 0)) := HRF.out.cell 4
    have R5 : Hid (WF.cell? ⟨w.heap.size + 1 + 1 + 1, 5, none⟩ = some (.int .i64 0)) := HRF.out.cell 5
    have R6 : Hid (WF.cell? ⟨w.heap.size + 1 + 1 + 1, 6, none⟩ = some (.slice none 0 0)) := HRF.out.cell 6
    have R7 : Hid (WF.cell? ⟨w.heap.size + 1 + 1 + 1, 7, none⟩ = some (.slice none 0 0)) := HRF.out.cell 7
    have HFIN : Hid (HapPost w base t (cuA a dp dn dc sp sn sc) ⟨a, sol⟩ v (.returned (.tuple #[.agg #[.int .i64 0, .int .i64 0, .int .i64 0, .int .i64 0, .int .i64 0, .int .i64 0, .slice none 0 0, .slice none 0 0], .int .i64 f])) WF) := ⟨cu0, cm0, f, rfl, .inr ⟨HK5.out, b, l, f, .inr (.inl ⟨HKD.out, HI.out⟩), .inl ⟨HNZ.out, rfl⟩⟩, fun h => absurd h HNZ.out, grown_of HBF.out _⟩
    go_wp2_with fail
    exact bodyPost_ret (v := .tuple #[.agg #[.int .i64 0, .int .i64 0, .int .i64 0, .int .i64 0, .int .i64 0, .int .i64 0, .slice none 0 0, .slice none 0 0], .int .i64 f]) (by simp [results, Try.results38, R0.out, R1.out, R2.out, R3.out, R4.out, R5.out, R6.out, R7.out, go_sem]) rfl HFIN.out

end Go.Proofs.Ytfhlokjpdkmdjaa.book
