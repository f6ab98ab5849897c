/- A charge, as the document has it. -/
import Derived.Test.YtfhlokjpdkmdjaaBkJ
import Derived.Test.YtfhlokjpdkmdjaaAcOw
import Derived.Test.YtfhlokjpdkmdjaaLet
import Derived.Test.YtfhlokjpdkmdjaaSh
import Derived.Deep.DeepCutAuto
namespace Go.Proofs.Ytfhlokjpdkmdjaa.book
open Go.RowKit
open Go.Proofs.Ytfhlokjpdkmdjaa.acc (Ac Tm Bi APost BPost OweIs SellIs GrantIs RekeyIs)
set_option maxRecDepth 100000
set_option linter.unusedVariables false
set_option linter.unusedSimpArgs false

theorem acc_upd {w W : World} {g : Nat} {cs : Array Value} {ty : TypeId} {a : Option Addr} {n cap : Nat} {zs : List tar.Du} (h : tar.Came w a n cap zs) (hU : Upd w W g cs ty) (hne : 0 < n → ∀ x, a = some x → x.block ≠ g) : tar.Came W a n cap zs := by
  refine ⟨⟨h.row.1, ?_⟩, h.nil, h.room, h.bytes, h.wf⟩
  rcases h.row.2 with h0 | ⟨b, off, rfl, hc⟩
  · exact .inl h0
  · refine .inr ⟨b, off, rfl, fun i hi => ?_⟩
    have h1 := hc i hi
    have hb : b ≠ g := hne (by omega) ⟨b, off, none⟩ rfl
    rw [hU.cell ⟨b, off + i * 2, none⟩ hb rfl, hU.cell ⟨b, off + i * 2 + 1, none⟩ hb rfl]
    exact h1
set_option maxHeartbeats 4000000 in
theorem rhap5 (a : Ac) (sol : List So) (dp : Option Addr) (dn dc : Nat) (sp : Option Addr) (sn sc : Nat) (t : Tm) (pt : Option Addr) (lt ct : Nat) (v : Ev) (base : Nat) (w : World) (hx : Has w base (cuA a dp dn dc sp sn sc) ⟨a, sol⟩) (ht : tar.RowD w pt lt t.ts) (htl : lt ≤ maxLen) (hbase : base ≤ w.heap.size) (hkd : v.kd = 5) :
    Calls Try.prog 38 #[.agg #[.slice pt lt ct, .int .i64 t.ff, .int .i64 t.fb, .int .i64 t.db, .int .i64 t.al], .agg #[.int .i64 a.me, .int .i64 a.rv, .int .i64 a.nx, .int .i64 a.mo, .int .i64 a.bo, .int .i64 a.fr, .slice dp dn dc, .slice sp sn sc], .agg #[.int .i64 v.kd, .int .i64 v.me, .int .i64 v.mo, .int .i64 v.id, .int .i64 v.te, .int .i64 v.de, .int .i64 v.fe, .int .i64 v.pr, .int .i64 v.ch, .int .i64 v.un, .int .i64 v.tg, .int .i64 v.ow, .int .i64 v.bp]] w fun e w' => HapPost w base t (cuA a dp dn dc sp sn sc) ⟨a, sol⟩ v e w' := by
  have n5 : (v.kd == 5) = true := by simpa using hkd
  have HKD : Hid (v.kd = 5) := hkd
  clear hkd
  have HB0 : Hid (Below w.heap.size w w) := Below.refl _ _
  have HH : Hid (Has w base (cuA a dp dn dc sp sn sc) ⟨a, sol⟩) := hx
  have HBS : Hid (base ≤ w.heap.size) := hbase
  have HOW : Hid (∀ W, Below w.heap.size w W → Calls Try.prog 55 #[.agg #[.int .i64 a.me, .int .i64 a.rv, .int .i64 a.nx, .int .i64 a.mo, .int .i64 a.bo, .int .i64 a.fr, .slice dp dn dc], .agg #[.int .i64 v.ow, .int .i64 v.bp]] W fun e w' => APost W (OweIs a ⟨v.ow, v.bp⟩) e w') := fun W hB => acc.rowes a dp dn dc ⟨v.ow, v.bp⟩ W (hx.ds.came.below hB).row hx.ds.came.most
  clear hx ht htl hbase
  obtain ⟨W0, HWW, Ht4, Qx, Qv, Qr, HB4, hz0⟩ := sh4 w #[.slice pt lt ct, .int .i64 t.ff, .int .i64 t.fb, .int .i64 t.db, .int .i64 t.al] 40 #[.int .i64 a.me, .int .i64 a.rv, .int .i64 a.nx, .int .i64 a.mo, .int .i64 a.bo, .int .i64 a.fr, .slice dp dn dc, .slice sp sn sc] 58 #[.int .i64 v.kd, .int .i64 v.me, .int .i64 v.mo, .int .i64 v.id, .int .i64 v.te, .int .i64 v.de, .int .i64 v.fe, .int .i64 v.pr, .int .i64 v.ch, .int .i64 v.un, .int .i64 v.tg, .int .i64 v.ow, .int .i64 v.bp] 27 #[.int .i64 0, .int .i64 0, .int .i64 0, .int .i64 0, .int .i64 0, .int .i64 0, .slice none 0 0, .slice none 0 0] 58
  go_enter Try.func38, Try.ntmps38
  go_upto_region 1 with fail
  rw [HWW.out]
  clear HWW
  have HS0 : Hid (w.heap.size + 1 + 1 + 1 < W0.heap.size) := hz0
  clear hz0
  have kx0 : W0.cell? ⟨w.heap.size + 1, 0, none⟩ = some (.int .i64 a.me) := Qx.out.cell 0
  have kx1 : W0.cell? ⟨w.heap.size + 1, 1, none⟩ = some (.int .i64 a.rv) := Qx.out.cell 1
  have kx2 : W0.cell? ⟨w.heap.size + 1, 2, none⟩ = some (.int .i64 a.nx) := Qx.out.cell 2
  have kx3 : W0.cell? ⟨w.heap.size + 1, 3, none⟩ = some (.int .i64 a.mo) := Qx.out.cell 3
  have kx4 : W0.cell? ⟨w.heap.size + 1, 4, none⟩ = some (.int .i64 a.bo) := Qx.out.cell 4
  have kx5 : W0.cell? ⟨w.heap.size + 1, 5, none⟩ = some (.int .i64 a.fr) := Qx.out.cell 5
  have kx6 : W0.cell? ⟨w.heap.size + 1, 6, none⟩ = some (.slice dp dn dc) := Qx.out.cell 6
  have kx7 : W0.cell? ⟨w.heap.size + 1, 7, none⟩ = some (.slice sp sn sc) := Qx.out.cell 7
  have kv0 : W0.cell? ⟨w.heap.size + 1 + 1, 0, none⟩ = some (.int .i64 v.kd) := Qv.out.cell 0
  have kv1 : W0.cell? ⟨w.heap.size + 1 + 1, 1, none⟩ = some (.int .i64 v.me) := Qv.out.cell 1
  have kv2 : W0.cell? ⟨w.heap.size + 1 + 1, 2, none⟩ = some (.int .i64 v.mo) := Qv.out.cell 2
  have kv3 : W0.cell? ⟨w.heap.size + 1 + 1, 3, none⟩ = some (.int .i64 v.id) := Qv.out.cell 3
  have kv4 : W0.cell? ⟨w.heap.size + 1 + 1, 4, none⟩ = some (.int .i64 v.te) := Qv.out.cell 4
  have kv5 : W0.cell? ⟨w.heap.size + 1 + 1, 5, none⟩ = some (.int .i64 v.de) := Qv.out.cell 5
  have kv6 : W0.cell? ⟨w.heap.size + 1 + 1, 6, none⟩ = some (.int .i64 v.fe) := Qv.out.cell 6
  have kv7 : W0.cell? ⟨w.heap.size + 1 + 1, 7, none⟩ = some (.int .i64 v.pr) := Qv.out.cell 7
  have kv8 : W0.cell? ⟨w.heap.size + 1 + 1, 8, none⟩ = some (.int .i64 v.ch) := Qv.out.cell 8
  have kv9 : W0.cell? ⟨w.heap.size + 1 + 1, 9, none⟩ = some (.int .i64 v.un) := Qv.out.cell 9
  have kv10 : W0.cell? ⟨w.heap.size + 1 + 1, 10, none⟩ = some (.int .i64 v.tg) := Qv.out.cell 10
  have kv11 : W0.cell? ⟨w.heap.size + 1 + 1, 11, none⟩ = some (.int .i64 v.ow) := Qv.out.cell 11
  have kv12 : W0.cell? ⟨w.heap.size + 1 + 1, 12, none⟩ = some (.int .i64 v.bp) := Qv.out.cell 12
  have HO1 : Hid (Calls Try.prog 55 #[.agg #[.int .i64 a.me, .int .i64 a.rv, .int .i64 a.nx, .int .i64 a.mo, .int .i64 a.bo, .int .i64 a.fr, .slice dp dn dc], .agg #[.int .i64 v.ow, .int .i64 v.bp]] W0 fun e w' => APost W0 (OweIs a ⟨v.ow, v.bp⟩) e w') := HOW.out W0 HB4.out
  clear HOW
  go_wp2_with fail
  refine HO1.out.mono ?_
  rintro e w1 ⟨b, pb, lb, cb, f, rfl, hi, hf, hb1⟩
  have HI : Hid (OweIs a ⟨v.ow, v.bp⟩ b f) := hi
  have Ht5 := shN Ht4 hb1
  have Hx5 := shN Qx hb1
  have Hv5 := shN Qv hb1
  have Hr5 := shN Qr hb1
  have HB5 := shB HB4 hb1
  have HF1 : Hid (deb.Fresh w1 W0.heap.size pb lb cb b.ds) := hf
  have HW0 : Hid (w.heap.size ≤ W0.heap.size) := HB4.out.size
  clear hb1 hf hi HO1 kx0 kx1 kx2 kx3 kx4 kx5 kx6 kx7 kv0 kv1 kv2 kv3 kv4 kv5 kv6 kv7 kv8 kv9 kv10 kv11 kv12
  unfold acc.Ac.v acc.Ac.cs
  have Ht6 : Hid (Blk (w1.alloc (.cells #[.int .i64 b.me, .int .i64 b.rv, .int .i64 b.nx, .int .i64 b.mo, .int .i64 b.bo, .int .i64 b.fr, .slice pb lb cb] 55)) (w.heap.size) #[.slice pt lt ct, .int .i64 t.ff, .int .i64 t.fb, .int .i64 t.db, .int .i64 t.al] 40) := Ht5.out.alloc _
  have Hx6 : Hid (Blk (w1.alloc (.cells #[.int .i64 b.me, .int .i64 b.rv, .int .i64 b.nx, .int .i64 b.mo, .int .i64 b.bo, .int .i64 b.fr, .slice pb lb cb] 55)) (w.heap.size + 1) #[.int .i64 a.me, .int .i64 a.rv, .int .i64 a.nx, .int .i64 a.mo, .int .i64 a.bo, .int .i64 a.fr, .slice dp dn dc, .slice sp sn sc] 58) := Hx5.out.alloc _
  have Hv6 : Hid (Blk (w1.alloc (.cells #[.int .i64 b.me, .int .i64 b.rv, .int .i64 b.nx, .int .i64 b.mo, .int .i64 b.bo, .int .i64 b.fr, .slice pb lb cb] 55)) (w.heap.size + 1 + 1) #[.int .i64 v.kd, .int .i64 v.me, .int .i64 v.mo, .int .i64 v.id, .int .i64 v.te, .int .i64 v.de, .int .i64 v.fe, .int .i64 v.pr, .int .i64 v.ch, .int .i64 v.un, .int .i64 v.tg, .int .i64 v.ow, .int .i64 v.bp] 27) := Hv5.out.alloc _
  have Hr6 : Hid (Blk (w1.alloc (.cells #[.int .i64 b.me, .int .i64 b.rv, .int .i64 b.nx, .int .i64 b.mo, .int .i64 b.bo, .int .i64 b.fr, .slice pb lb cb] 55)) (w.heap.size + 1 + 1 + 1) #[.int .i64 0, .int .i64 0, .int .i64 0, .int .i64 0, .int .i64 0, .int .i64 0, .slice none 0 0, .slice none 0 0] 58) := Hr5.out.alloc _
  have Ha6 : Hid (Blk (w1.alloc (.cells #[.int .i64 b.me, .int .i64 b.rv, .int .i64 b.nx, .int .i64 b.mo, .int .i64 b.bo, .int .i64 b.fr, .slice pb lb cb] 55)) (w1.heap.size) #[.int .i64 b.me, .int .i64 b.rv, .int .i64 b.nx, .int .i64 b.mo, .int .i64 b.bo, .int .i64 b.fr, .slice pb lb cb] 55) := Blk.new _ _ _
  have HB6 : Hid (Below w.heap.size w (w1.alloc (.cells #[.int .i64 b.me, .int .i64 b.rv, .int .i64 b.nx, .int .i64 b.mo, .int .i64 b.bo, .int .i64 b.fr, .slice pb lb cb] 55))) := HB5.out.alloc HB5.out.size _
  have HF2 : Hid (deb.Fresh (w1.alloc (.cells #[.int .i64 b.me, .int .i64 b.rv, .int .i64 b.nx, .int .i64 b.mo, .int .i64 b.bo, .int .i64 b.fr, .slice pb lb cb] 55)) W0.heap.size pb lb cb b.ds) := HF1.out.below ((Below.refl _ _).alloc (Nat.le_refl _) _)
  go_upto_region 3 with fail
  generalize (w1.alloc (.cells #[.int .i64 b.me, .int .i64 b.rv, .int .i64 b.nx, .int .i64 b.mo, .int .i64 b.bo, .int .i64 b.fr, .slice pb lb cb] 55)) = W1 at *
  generalize hga : w1.heap.size = ga at *
  obtain ⟨ka0, ka1, ka2, ka3, ka4, ka5, ka6⟩ := scl7 Ha6
  obtain ⟨kx0, kx1, kx2, kx3, kx4, kx5, kx6, kx7⟩ := scl8 Hx6
  go_wp2_with (first | (refine wp_letAll rfl 58 _ _ rfl _ rfl _ rfl (by kernel_rfl) (by simp [Value.oneCell']) _ 58 Hr6.out rfl ?_) | fail)
  intro W2 hU
  have HR2 : Hid (Blk W2 (w.heap.size + 1 + 1 + 1) #[.int .i64 b.me, .int .i64 b.rv, .int .i64 b.nx, .int .i64 b.mo, .int .i64 b.bo, .int .i64 b.fr, .slice pb lb cb, .slice sp sn sc] 58) := hU.blk
  have HB9 := shV hU HB6 (by omega)
  have HUU : Hid (Upd W1 W2 (w.heap.size + 1 + 1 + 1) #[.int .i64 b.me, .int .i64 b.rv, .int .i64 b.nx, .int .i64 b.mo, .int .i64 b.bo, .int .i64 b.fr, .slice pb lb cb, .slice sp sn sc] 58) := hU
  clear hU ka0 ka1 ka2 ka3 ka4 ka5 ka6 kx0 kx1 kx2 kx3 kx4 kx5 kx6 kx7
  obtain ⟨R0, R1, R2, R3, R4, R5, R6, R7⟩ := shc8 HR2
  have HFIN : Hid (HapPost w base t (cuA a dp dn dc sp sn sc) ⟨a, sol⟩ v (.returned (.tuple #[.agg #[.int .i64 b.me, .int .i64 b.rv, .int .i64 b.nx, .int .i64 b.mo, .int .i64 b.bo, .int .i64 b.fr, .slice pb lb cb, .slice sp sn sc], .int .i64 f])) W2) := by
    refine ⟨cuA b pb lb cb sp sn sc, ⟨b, sol⟩, f, rfl, .inl ⟨HKD.out, b, HI.out, fun _ => rfl⟩, fun _ => ?_, grown_of HB9.out _⟩
    have hbl : 0 < lb → ∀ y, pb = some y → W0.heap.size ≤ y.block := HF2.out.new
    refine ⟨grown_of HB9.out _, ⟨cuA_num _ _ _ _ _ _ _, ⟨?_, fun hn y hy => ?_⟩, HH.out.so.next HB9.out⟩, fun g hg => .inl hg, fun hn y hy => Nat.le_trans HW0.out (hbl hn y hy), fun g hg hn y hy q => ?_⟩
    · refine acc_upd HF2.out.came HUU.out (fun hn y hy q => ?_)
      have h1 := hbl hn y hy
      have h2 := HS0.out
      omega
    · have h1 := hbl hn y hy
      have h2 := HW0.out
      have h3 := HBS.out
      omega
    · have h1 := hbl hn y hy
      have h2 := HW0.out
      have h3 := (World.ownsRow.lt HH.out.so g hg).2
      omega
  go_wp2_with fail
  exact bodyPost_ret (v := .tuple #[.agg #[.int .i64 b.me, .int .i64 b.rv, .int .i64 b.nx, .int .i64 b.mo, .int .i64 b.bo, .int .i64 b.fr, .slice pb lb cb, .slice sp sn sc], .int .i64 f]) (by simp [results, Try.results38, R0.out, R1.out, R2.out, R3.out, R4.out, R5.out, R6.out, R7.out, go_sem]) rfl HFIN.out

end Go.Proofs.Ytfhlokjpdkmdjaa.book
