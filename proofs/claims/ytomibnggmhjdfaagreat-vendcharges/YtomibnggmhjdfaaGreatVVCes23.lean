import Derived.Test.YtomibnggmhjdfaaGreatVVCes20
import Derived.Test.YtomibnggmhjdfaaGreatVVCes22
set_option linter.unusedVariables false
set_option linter.unusedSimpArgs false
namespace Go.Proofs.YtomibnggmhjdfaaGreat
namespace book
open Go.RowKit
open acc (Ac Tm Bi APost BPost OweIs SellIs GrantIs RekeyIs)
set_option maxRecDepth 100000
set_option maxHeartbeats 8000000 in
theorem rhap2 (a : Ac) (sol : List So) (dp : Option Addr) (dn dc : Nat) (sp : Option Addr) (sn sc : Nat) (t : Tm) (pt : Option Addr) (lt ct : Nat) (v : Ev) (base : Nat) (w : World) (hx : Has w base (cuA a dp dn dc sp sn sc) ⟨a, sol⟩) (ht : tar.RowD w pt lt t.ts) (htl : lt ≤ maxLen) (hbase : base ≤ w.heap.size) (hkd : v.kd = 2) (hsol : sol.length ≤ 2000000) :
  Calls Tryz.prog 37 #[.agg #[.slice pt lt ct, .int .i64 t.ff, .int .i64 t.fb, .int .i64 t.db, .int .i64 t.al], .agg #[.int .i64 a.me, .int .i64 a.rv, .int .i64 a.nx, .int .i64 a.mo, .int .i64 a.bo, .int .i64 a.fr, .slice dp dn dc, .slice sp sn sc], .agg #[.int .i64 v.kd, .int .i64 v.me, .int .i64 v.mo, .int .i64 v.id, .int .i64 v.te, .int .i64 v.de, .int .i64 v.fe, .int .i64 v.pr, .int .i64 v.ch, .int .i64 v.un, .int .i64 v.tg, .int .i64 v.ow, .int .i64 v.bp]] w fun e w' => HapPost w base t (cuA a dp dn dc sp sn sc) ⟨a, sol⟩ v e w' := by
 have n2 : (v.kd == 2) = true := by rw [hkd]; rfl
 have n3 : (v.kd == 3) = false := by rw [hkd]; rfl
 have n4 : (v.kd == 4) = false := by rw [hkd]; rfl
 have n5 : (v.kd == 5) = false := by rw [hkd]; rfl
 have HKD : Hid (v.kd = 2) := hkd
 have HK5 : Hid (v.kd ≠ 5) := by show v.kd ≠ 5; rw [hkd]; decide
 clear hkd
 have HB0 : Hid (Below w.heap.size w w) := Below.refl _ _
 have HH : Hid (Has w base (cuA a dp dn dc sp sn sc) ⟨a, sol⟩) := hx
 have HBS : Hid (base ≤ w.heap.size) := hbase
 have HOWN : Hid (∀ k, (Value.slice sp sn sc).ownBlock = some k → k < w.heap.size) := fun k hk => (World.ownsRow.lt hx.so k hk).2
 have HCA : Hid (∀ W, Below w.heap.size w W → Calls Tryz.prog 57 #[.agg #[.int .i64 a.me, .int .i64 a.rv, .int .i64 a.nx, .int .i64 a.mo, .int .i64 a.bo, .int .i64 a.fr, .slice dp dn dc], .agg #[.slice pt lt ct, .int .i64 t.ff, .int .i64 t.fb, .int .i64 t.db, .int .i64 t.al], .int .i64 v.te, .int .i64 v.mo] W fun e w' => BPost W (SellIs a t v.te v.mo) e w') := fun W hB => acc.rsold a dp dn dc t pt lt ct v.te v.mo W (hx.ds.came.below hB).row hx.ds.came.most (ht.below hB) htl
 clear hx ht htl hbase
 obtain ⟨W0, HWW, Ht4, Qx, Qv, Qr, HB4, hz0⟩ := sh4 w #[.slice pt lt ct, .int .i64 t.ff, .int .i64 t.fb, .int .i64 t.db, .int .i64 t.al] 24 #[.int .i64 a.me, .int .i64 a.rv, .int .i64 a.nx, .int .i64 a.mo, .int .i64 a.bo, .int .i64 a.fr, .slice dp dn dc, .slice sp sn sc] 62 #[.int .i64 v.kd, .int .i64 v.me, .int .i64 v.mo, .int .i64 v.id, .int .i64 v.te, .int .i64 v.de, .int .i64 v.fe, .int .i64 v.pr, .int .i64 v.ch, .int .i64 v.un, .int .i64 v.tg, .int .i64 v.ow, .int .i64 v.bp] 71 #[.int .i64 0, .int .i64 0, .int .i64 0, .int .i64 0, .int .i64 0, .int .i64 0, .slice none 0 0, .slice none 0 0] 62
 go_enter Tryz.func37, Tryz.ntmps37
 go_upto_region 1 with fail
 rw [HWW.out]
 clear HWW
 have HS0 : Hid (w.heap.size + 1 + 1 + 1 < W0.heap.size) := hz0
 clear hz0
 have kx0 : W0.cell? ⟨w.heap.size + 1, 0, none⟩ = some (.int .i64 a.me) := Qx.out.cell 0
 have kx1 : W0.cell? ⟨w.heap.size + 1, 1, none⟩ = some (.int .i64 a.rv) := Qx.out.cell 1
 have kx2 : W0.cell? ⟨w.heap.size + 1, 2, none⟩ = some (.int .i64 a.nx) := Qx.out.cell 2
 have kx3 : W0.cell? ⟨w.heap.size + 1, 3, none⟩ = some (.int .i64 a.mo) := Qx.out.cell 3
 have kx4 : W0.cell? ⟨w.heap.size + 1, 4, none⟩ = some (.int .i64 a.bo) := Qx.out.cell 4
 have kx5 : W0.cell? ⟨w.heap.size + 1, 5, none⟩ = some (.int .i64 a.fr) := Qx.out.cell 5
 have kx6 : W0.cell? ⟨w.heap.size + 1, 6, none⟩ = some (.slice dp dn dc) := Qx.out.cell 6
 have kx7 : W0.cell? ⟨w.heap.size + 1, 7, none⟩ = some (.slice sp sn sc) := Qx.out.cell 7
 have kv0 : W0.cell? ⟨w.heap.size + 1 + 1, 0, none⟩ = some (.int .i64 v.kd) := Qv.out.cell 0
 have kv1 : W0.cell? ⟨w.heap.size + 1 + 1, 1, none⟩ = some (.int .i64 v.me) := Qv.out.cell 1
 have kv2 : W0.cell? ⟨w.heap.size + 1 + 1, 2, none⟩ = some (.int .i64 v.mo) := Qv.out.cell 2
 have kv3 : W0.cell? ⟨w.heap.size + 1 + 1, 3, none⟩ = some (.int .i64 v.id) := Qv.out.cell 3
 have kv4 : W0.cell? ⟨w.heap.size + 1 + 1, 4, none⟩ = some (.int .i64 v.te) := Qv.out.cell 4
 have kv5 : W0.cell? ⟨w.heap.size + 1 + 1, 5, none⟩ = some (.int .i64 v.de) := Qv.out.cell 5
 have kv6 : W0.cell? ⟨w.heap.size + 1 + 1, 6, none⟩ = some (.int .i64 v.fe) := Qv.out.cell 6
 have kv7 : W0.cell? ⟨w.heap.size + 1 + 1, 7, none⟩ = some (.int .i64 v.pr) := Qv.out.cell 7
 have kv8 : W0.cell? ⟨w.heap.size + 1 + 1, 8, none⟩ = some (.int .i64 v.ch) := Qv.out.cell 8
 have kv9 : W0.cell? ⟨w.heap.size + 1 + 1, 9, none⟩ = some (.int .i64 v.un) := Qv.out.cell 9
 have kv10 : W0.cell? ⟨w.heap.size + 1 + 1, 10, none⟩ = some (.int .i64 v.tg) := Qv.out.cell 10
 have kv11 : W0.cell? ⟨w.heap.size + 1 + 1, 11, none⟩ = some (.int .i64 v.ow) := Qv.out.cell 11
 have kv12 : W0.cell? ⟨w.heap.size + 1 + 1, 12, none⟩ = some (.int .i64 v.bp) := Qv.out.cell 12
 obtain ⟨W1, HWV, Hs5, Qa, Qb, HBX, hz1⟩ := sh3 W0 #[.int .i64 v.id, .int .i64 0, .int .i64 v.un, .int .i64 v.tg, .int .i64 a.rv] 90 #[.int .i64 0, .int .i64 0, .int .i64 0, .int .i64 0, .int .i64 0, .int .i64 0, .slice none 0 0] 59 #[.int .i64 0, .int .i64 0, .int .i64 0, .int .i64 0, .int .i64 0, .int .i64 0, .int .i64 0] 69
 have Ht5 := shN Ht4 HBX.out
 have Hx5 := shN Qx HBX.out
 have Hv5 := shN Qv HBX.out
 have Hr5 := shN Qr HBX.out
 have HB5 := shB HB4 HBX.out
 have HS5 : Hid (W0.heap.size + 1 + 1 < W1.heap.size) := hz1
 clear hz1 HBX
 go_upto_region 8 with fail
 rw [HWV.out]
 clear HWV
 clear kx0 kx1 kx2 kx3 kx4 kx5 kx6 kx7 kv0 kv1 kv2 kv3 kv4 kv5 kv6 kv7 kv8 kv9 kv10 kv11 kv12
 generalize W0.heap.size = gs at *
 have kt0 : W1.cell? ⟨w.heap.size, 0, none⟩ = some (.slice pt lt ct) := Ht5.out.cell 0
 have kt1 : W1.cell? ⟨w.heap.size, 1, none⟩ = some (.int .i64 t.ff) := Ht5.out.cell 1
 have kt2 : W1.cell? ⟨w.heap.size, 2, none⟩ = some (.int .i64 t.fb) := Ht5.out.cell 2
 have kt3 : W1.cell? ⟨w.heap.size, 3, none⟩ = some (.int .i64 t.db) := Ht5.out.cell 3
 have kt4 : W1.cell? ⟨w.heap.size, 4, none⟩ = some (.int .i64 t.al) := Ht5.out.cell 4
 have kx0 : W1.cell? ⟨w.heap.size + 1, 0, none⟩ = some (.int .i64 a.me) := Hx5.out.cell 0
 have kx1 : W1.cell? ⟨w.heap.size + 1, 1, none⟩ = some (.int .i64 a.rv) := Hx5.out.cell 1
 have kx2 : W1.cell? ⟨w.heap.size + 1, 2, none⟩ = some (.int .i64 a.nx) := Hx5.out.cell 2
 have kx3 : W1.cell? ⟨w.heap.size + 1, 3, none⟩ = some (.int .i64 a.mo) := Hx5.out.cell 3
 have kx4 : W1.cell? ⟨w.heap.size + 1, 4, none⟩ = some (.int .i64 a.bo) := Hx5.out.cell 4
 have kx5 : W1.cell? ⟨w.heap.size + 1, 5, none⟩ = some (.int .i64 a.fr) := Hx5.out.cell 5
 have kx6 : W1.cell? ⟨w.heap.size + 1, 6, none⟩ = some (.slice dp dn dc) := Hx5.out.cell 6
 have kx7 : W1.cell? ⟨w.heap.size + 1, 7, none⟩ = some (.slice sp sn sc) := Hx5.out.cell 7
 have kv0 : W1.cell? ⟨w.heap.size + 1 + 1, 0, none⟩ = some (.int .i64 v.kd) := Hv5.out.cell 0
 have kv1 : W1.cell? ⟨w.heap.size + 1 + 1, 1, none⟩ = some (.int .i64 v.me) := Hv5.out.cell 1
 have kv2 : W1.cell? ⟨w.heap.size + 1 + 1, 2, none⟩ = some (.int .i64 v.mo) := Hv5.out.cell 2
 have kv3 : W1.cell? ⟨w.heap.size + 1 + 1, 3, none⟩ = some (.int .i64 v.id) := Hv5.out.cell 3
 have kv4 : W1.cell? ⟨w.heap.size + 1 + 1, 4, none⟩ = some (.int .i64 v.te) := Hv5.out.cell 4
 have kv5 : W1.cell? ⟨w.heap.size + 1 + 1, 5, none⟩ = some (.int .i64 v.de) := Hv5.out.cell 5
 have kv6 : W1.cell? ⟨w.heap.size + 1 + 1, 6, none⟩ = some (.int .i64 v.fe) := Hv5.out.cell 6
 have kv7 : W1.cell? ⟨w.heap.size + 1 + 1, 7, none⟩ = some (.int .i64 v.pr) := Hv5.out.cell 7
 have kv8 : W1.cell? ⟨w.heap.size + 1 + 1, 8, none⟩ = some (.int .i64 v.ch) := Hv5.out.cell 8
 have kv9 : W1.cell? ⟨w.heap.size + 1 + 1, 9, none⟩ = some (.int .i64 v.un) := Hv5.out.cell 9
 have kv10 : W1.cell? ⟨w.heap.size + 1 + 1, 10, none⟩ = some (.int .i64 v.tg) := Hv5.out.cell 10
 have kv11 : W1.cell? ⟨w.heap.size + 1 + 1, 11, none⟩ = some (.int .i64 v.ow) := Hv5.out.cell 11
 have kv12 : W1.cell? ⟨w.heap.size + 1 + 1, 12, none⟩ = some (.int .i64 v.bp) := Hv5.out.cell 12
 have HC1 : Hid (Calls Tryz.prog 57 #[.agg #[.int .i64 a.me, .int .i64 a.rv, .int .i64 a.nx, .int .i64 a.mo, .int .i64 a.bo, .int .i64 a.fr, .slice dp dn dc], .agg #[.slice pt lt ct, .int .i64 t.ff, .int .i64 t.fb, .int .i64 t.db, .int .i64 t.al], .int .i64 v.te, .int .i64 v.mo] W1 fun e w' => BPost W1 (SellIs a t v.te v.mo) e w') := HCA.out W1 HB5.out
 clear HCA
 go_wp2_with fail
 refine HC1.out.mono ?_
 rintro e w2 ⟨b, l, pb, lb, cb, f, rfl, hi, hf, hb2⟩
 have HI : Hid (SellIs a t v.te v.mo b l f) := hi
 have Ht6 := shN Ht5 hb2
 have Hx6 := shN Hx5 hb2
 have Hv6 := shN Hv5 hb2
 have Hr6 := shN Hr5 hb2
 have Hs6 := shN Hs5 hb2
 have Ha6 := shN Qa hb2
 have Hb6 := shN Qb hb2
 have HB6 := shB HB5 hb2
 have HF2 : Hid (deb.Fresh w2 W1.heap.size pb lb cb b.ds) := hf
 have HW1 : Hid (W1.heap.size ≤ w2.heap.size) := hb2.size
 clear hb2 hf hi HC1 kt0 kt1 kt2 kt3 kt4 kx0 kx1 kx2 kx3 kx4 kx5 kx6 kx7 kv0 kv1 kv2 kv3 kv4 kv5 kv6 kv7 kv8 kv9 kv10 kv11 kv12
 unfold acc.Ac.v acc.Ac.cs acc.Bi.v
 obtain ⟨kt0, kt1, kt2, kt3, kt4⟩ := scl5 Ht6
 obtain ⟨kx0, kx1, kx2, kx3, kx4, kx5, kx6, kx7⟩ := scl8 Hx6
 obtain ⟨kv0, kv1, kv2, kv3, kv4, kv5, kv6, kv7, kv8, kv9, kv10, kv11, kv12⟩ := scl13 Hv6
 obtain ⟨ks0, ks1, ks2, ks3, ks4⟩ := scl5 Hs6
 go_wp2_with (first | (refine zql rfl rfl rfl rfl zqu59 (by simp [Value.oneCell']) Ha6 rfl ?_) | fail)
 intro w3 hU
 have Ht7 : Hid (Blk w3 (w.heap.size) #[.slice pt lt ct, .int .i64 t.ff, .int .i64 t.fb, .int .i64 t.db, .int .i64 t.al] 24) := hU.keep Ht6.out (by have := HS0.out; omega)
 have Hx7 : Hid (Blk w3 (w.heap.size + 1) #[.int .i64 a.me, .int .i64 a.rv, .int .i64 a.nx, .int .i64 a.mo, .int .i64 a.bo, .int .i64 a.fr, .slice dp dn dc, .slice sp sn sc] 62) := hU.keep Hx6.out (by have := HS0.out; omega)
 have Hv7 : Hid (Blk w3 (w.heap.size + 1 + 1) #[.int .i64 v.kd, .int .i64 v.me, .int .i64 v.mo, .int .i64 v.id, .int .i64 v.te, .int .i64 v.de, .int .i64 v.fe, .int .i64 v.pr, .int .i64 v.ch, .int .i64 v.un, .int .i64 v.tg, .int .i64 v.ow, .int .i64 v.bp] 71) := hU.keep Hv6.out (by have := HS0.out; omega)
 have Hr7 : Hid (Blk w3 (w.heap.size + 1 + 1 + 1) #[.int .i64 0, .int .i64 0, .int .i64 0, .int .i64 0, .int .i64 0, .int .i64 0, .slice none 0 0, .slice none 0 0] 62) := hU.keep Hr6.out (by have := HS0.out; omega)
 have Hs7 : Hid (Blk w3 (gs) #[.int .i64 v.id, .int .i64 0, .int .i64 v.un, .int .i64 v.tg, .int .i64 a.rv] 90) := hU.keep Hs6.out (by have := HS0.out; omega)
 have Ha7 : Hid (Blk w3 (gs + 1) #[.int .i64 b.me, .int .i64 b.rv, .int .i64 b.nx, .int .i64 b.mo, .int .i64 b.bo, .int .i64 b.fr, .slice pb lb cb] 59) := hU.blk
 have Hb7 : Hid (Blk w3 (gs + 1 + 1) #[.int .i64 0, .int .i64 0, .int .i64 0, .int .i64 0, .int .i64 0, .int .i64 0, .int .i64 0] 69) := hU.keep Hb6.out (by have := HS0.out; omega)
 have HB7 : Hid (Below w.heap.size w w3) := hU.bel _ _ (by have := HS0.out; omega) HB6.out
 have HF3 : Hid (deb.Fresh w3 W1.heap.size pb lb cb b.ds) := ⟨acc_upd HF2.out.came hU (fun hn y hy q => by have h1 := HF2.out.new hn y hy; have h2 := HS5.out; omega), HF2.out.new⟩
 have HW3 : Hid (w2.heap.size = w3.heap.size) := hU.size.symm
 clear hU kt0 kt1 kt2 kt3 kt4 kx0 kx1 kx2 kx3 kx4 kx5 kx6 kx7 kv0 kv1 kv2 kv3 kv4 kv5 kv6 kv7 kv8 kv9 kv10 kv11 kv12 ks0 ks1 ks2 ks3 ks4
 obtain ⟨kt0, kt1, kt2, kt3, kt4⟩ := scl5 Ht7
 obtain ⟨kx0, kx1, kx2, kx3, kx4, kx5, kx6, kx7⟩ := scl8 Hx7
 obtain ⟨kv0, kv1, kv2, kv3, kv4, kv5, kv6, kv7, kv8, kv9, kv10, kv11, kv12⟩ := scl13 Hv7
 obtain ⟨ks0, ks1, ks2, ks3, ks4⟩ := scl5 Hs7
 go_wp2_with (first | (refine zql rfl rfl rfl rfl zqu69 (by simp [Value.oneCell']) Hb7 rfl ?_) | fail)
 intro w4 hU
 have Ht8 : Hid (Blk w4 (w.heap.size) #[.slice pt lt ct, .int .i64 t.ff, .int .i64 t.fb, .int .i64 t.db, .int .i64 t.al] 24) := hU.keep Ht7.out (by have := HS0.out; omega)
 have Hx8 : Hid (Blk w4 (w.heap.size + 1) #[.int .i64 a.me, .int .i64 a.rv, .int .i64 a.nx, .int .i64 a.mo, .int .i64 a.bo, .int .i64 a.fr, .slice dp dn dc, .slice sp sn sc] 62) := hU.keep Hx7.out (by have := HS0.out; omega)
 have Hv8 : Hid (Blk w4 (w.heap.size + 1 + 1) #[.int .i64 v.kd, .int .i64 v.me, .int .i64 v.mo, .int .i64 v.id, .int .i64 v.te, .int .i64 v.de, .int .i64 v.fe, .int .i64 v.pr, .int .i64 v.ch, .int .i64 v.un, .int .i64 v.tg, .int .i64 v.ow, .int .i64 v.bp] 71) := hU.keep Hv7.out (by have := HS0.out; omega)
 have Hr8 : Hid (Blk w4 (w.heap.size + 1 + 1 + 1) #[.int .i64 0, .int .i64 0, .int .i64 0, .int .i64 0, .int .i64 0, .int .i64 0, .slice none 0 0, .slice none 0 0] 62) := hU.keep Hr7.out (by have := HS0.out; omega)
 have Hs8 : Hid (Blk w4 (gs) #[.int .i64 v.id, .int .i64 0, .int .i64 v.un, .int .i64 v.tg, .int .i64 a.rv] 90) := hU.keep Hs7.out (by have := HS0.out; omega)
 have Ha8 : Hid (Blk w4 (gs + 1) #[.int .i64 b.me, .int .i64 b.rv, .int .i64 b.nx, .int .i64 b.mo, .int .i64 b.bo, .int .i64 b.fr, .slice pb lb cb] 59) := hU.keep Ha7.out (by have := HS0.out; omega)
 have Hb8 : Hid (Blk w4 (gs + 1 + 1) #[.int .i64 l.id, .int .i64 l.te, .int .i64 l.de, .int .i64 l.fe, .int .i64 l.pr, .int .i64 l.ch, .int .i64 l.un] 69) := hU.blk
 have HB8 : Hid (Below w.heap.size w w4) := hU.bel _ _ (by have := HS0.out; omega) HB7.out
 have HF4 : Hid (deb.Fresh w4 W1.heap.size pb lb cb b.ds) := ⟨acc_upd HF3.out.came hU (fun hn y hy q => by have h1 := HF3.out.new hn y hy; have h2 := HS5.out; omega), HF3.out.new⟩
 have HW4 : Hid (w3.heap.size = w4.heap.size) := hU.size.symm
 clear hU kt0 kt1 kt2 kt3 kt4 kx0 kx1 kx2 kx3 kx4 kx5 kx6 kx7 kv0 kv1 kv2 kv3 kv4 kv5 kv6 kv7 kv8 kv9 kv10 kv11 kv12 ks0 ks1 ks2 ks3 ks4
 have HW1w : Hid (w.heap.size ≤ W1.heap.size) := by have h1 := HS5.out; have h2 := HS0.out; show _ ≤ _; omega
 have HSZ : Hid (W1.heap.size ≤ w4.heap.size) := by show _ ≤ _; have := HW1.out; have := HW3.out; have := HW4.out; omega
 by_cases hfz : f = 0
 ·have HFZ : Hid (f = 0) := hfz
  have nf : (f != 0) = false := by simpa using hfz
  clear hfz
  by_cases hlb : l = billOf v
  ·have HLB : Hid (l = billOf v) := hlb
   have qe : ∀ wz : World, (Op.equalIn 10000 69 (.agg #[.int .i64 l.id, .int .i64 l.te, .int .i64 l.de, .int .i64 l.fe, .int .i64 l.pr, .int .i64 l.ch, .int .i64 l.un]) (.agg #[.int .i64 v.id, .int .i64 v.te, .int .i64 v.de, .int .i64 v.fe, .int .i64 v.pr, .int .i64 v.ch, .int .i64 v.un])).run Tryz.prog wz = .ok true wz := fun wz => by rw [hlb, show (10000 : Nat) = 9998 + 2 from rfl, eqBi]; unfold billOf; simp
   clear hlb
   obtain ⟨kt0, kt1, kt2, kt3, kt4⟩ := scl5 Ht8
   obtain ⟨kx0, kx1, kx2, kx3, kx4, kx5, kx6, kx7⟩ := scl8 Hx8
   obtain ⟨kv0, kv1, kv2, kv3, kv4, kv5, kv6, kv7, kv8, kv9, kv10, kv11, kv12⟩ := scl13 Hv8
   obtain ⟨kb0, kb1, kb2, kb3, kb4, kb5, kb6⟩ := scl7 Hb8
   go_upto_region 20 with fail
   clear kt0 kt1 kt2 kt3 kt4 kx0 kx1 kx2 kx3 kx4 kx5 kx6 kx7 kv0 kv1 kv2 kv3 kv4 kv5 kv6 kv7 kv8 kv9 kv10 kv11 kv12 kb0 kb1 kb2 kb3 kb4 kb5 kb6
   have HSD : Hid ((fun u : World => Blk u (gs + 1) #[.int .i64 b.me, .int .i64 b.rv, .int .i64 b.nx, .int .i64 b.mo, .int .i64 b.bo, .int .i64 b.fr, .slice pb lb cb] 59 ∧ Blk u (w.heap.size + 1) #[.int .i64 a.me, .int .i64 a.rv, .int .i64 a.nx, .int .i64 a.mo, .int .i64 a.bo, .int .i64 a.fr, .slice dp dn dc, .slice sp sn sc] 62 ∧ Blk u gs #[.int .i64 v.id, .int .i64 0, .int .i64 v.un, .int .i64 v.tg, .int .i64 a.rv] 90) w4.drew) := ⟨Ha8.out, Hx8.out, Hs8.out⟩
   refine wp_region_held_drew (S := (fun u : World => Blk u (gs + 1) #[.int .i64 b.me, .int .i64 b.rv, .int .i64 b.nx, .int .i64 b.mo, .int .i64 b.bo, .int .i64 b.fr, .slice pb lb cb] 59 ∧ Blk u (w.heap.size + 1) #[.int .i64 a.me, .int .i64 a.rv, .int .i64 a.nx, .int .i64 a.mo, .int .i64 a.bo, .int .i64 a.fr, .slice dp dn dc, .slice sp sn sc] 62 ∧ Blk u gs #[.int .i64 v.id, .int .i64 0, .int .i64 v.un, .int .i64 v.tg, .int .i64 a.rv] 90)) (by kernel_rfl) HSD.out (fun hHeld => ?_)
   refine zqt 0 96 (.agg #[.int .i64 b.me, .int .i64 b.rv, .int .i64 b.nx, .int .i64 b.mo, .int .i64 b.bo, .int .i64 b.fr, .slice pb lb cb]) rfl rfl (by kernel_rfl) (fun _ _ _ h => h) (yieldsIf_whole (by rfl) 59 _ rfl (gs + 1) rfl 59 #[.int .i64 b.me, .int .i64 b.rv, .int .i64 b.nx, .int .i64 b.mo, .int .i64 b.bo, .int .i64 b.fr, .slice pb lb cb] _ (fun u hu => hu.1) Tryz.underlying59 rfl (by kernel_rfl)) hHeld ?_
   simp only [Act.put, zqa, zqb, zqc]
   refine zqs 1 97 (.pointer (some ⟨w.heap.size + 1, 7, none⟩)) rfl rfl (by kernel_rfl) (fun _ _ _ h => h) rfl (fun v hv => by clear hv; go_simp) hHeld ?_
   simp only [Act.put, zqa, zqb, zqc]
   refine zqt 2 98 (.slice sp sn sc) rfl rfl (by kernel_rfl) (fun _ _ _ h => h) (Or.inl ⟨by rfl, fun v hv => by have h2 := hv.2.1.cell 7; clear hv; go_simp⟩) hHeld ?_
   simp only [Act.put, zqa, zqb, zqc]
   refine zqt 3 99 (.agg #[.int .i64 v.id, .int .i64 0, .int .i64 v.un, .int .i64 v.tg, .int .i64 a.rv]) rfl rfl (by kernel_rfl) (fun _ _ _ h => h) (yieldsIf_whole (by rfl) 90 _ rfl (gs) rfl 90 #[.int .i64 v.id, .int .i64 0, .int .i64 v.un, .int .i64 v.tg, .int .i64 a.rv] _ (fun u hu => hu.2.2) Tryz.underlying90 rfl (by kernel_rfl)) hHeld ?_
   simp only [Act.put, zqa, zqb, zqc]
   have HA0 : Hid (Blk w4.drew (gs + 1) #[.int .i64 b.me, .int .i64 b.rv, .int .i64 b.nx, .int .i64 b.mo, .int .i64 b.bo, .int .i64 b.fr, .slice pb lb cb] 59 ∧ Blk w4.drew (w.heap.size + 1) #[.int .i64 a.me, .int .i64 a.rv, .int .i64 a.nx, .int .i64 a.mo, .int .i64 a.bo, .int .i64 a.fr, .slice dp dn dc, .slice sp sn sc] 62 ∧ Blk w4.drew gs #[.int .i64 v.id, .int .i64 0, .int .i64 v.un, .int .i64 v.tg, .int .i64 a.rv] 90) := HSD.out
   have HR0 : Hid (Blk w4.drew (w.heap.size + 1 + 1 + 1) #[.int .i64 0, .int .i64 0, .int .i64 0, .int .i64 0, .int .i64 0, .int .i64 0, .slice none 0 0, .slice none 0 0] 62) := Hr8.out
   have HB0d : Hid (Below w.heap.size w w4.drew) := HB8.out.drew
   have HF0 : Hid (deb.Fresh w4.drew W1.heap.size pb lb cb b.ds) := drew_fresh HF4.out
   have HSU : Hid (W1.heap.size ≤ w4.drew.heap.size) := HSZ.out
   have HL0 : Hid (Lo w4.drew base (.slice sp sn sc) sol) := HH.out.so.next HB0d.out
   clear HSD
   generalize w4.drew = U at *
   refine zqo 4 (by kernel_rfl) rfl (fun K hK => ?_)
   rw [if_pos (by rfl)]
   have HAA : Hid (Blk (U.alloc (.cells #[.int .i64 v.id, .int .i64 0, .int .i64 v.un, .int .i64 v.tg, .int .i64 a.rv] 90)) (gs + 1) #[.int .i64 b.me, .int .i64 b.rv, .int .i64 b.nx, .int .i64 b.mo, .int .i64 b.bo, .int .i64 b.fr, .slice pb lb cb] 59 ∧ Blk (U.alloc (.cells #[.int .i64 v.id, .int .i64 0, .int .i64 v.un, .int .i64 v.tg, .int .i64 a.rv] 90)) (w.heap.size + 1) #[.int .i64 a.me, .int .i64 a.rv, .int .i64 a.nx, .int .i64 a.mo, .int .i64 a.bo, .int .i64 a.fr, .slice dp dn dc, .slice sp sn sc] 62 ∧ Blk (U.alloc (.cells #[.int .i64 v.id, .int .i64 0, .int .i64 v.un, .int .i64 v.tg, .int .i64 a.rv] 90)) gs #[.int .i64 v.id, .int .i64 0, .int .i64 v.un, .int .i64 v.tg, .int .i64 a.rv] 90) := ⟨HA0.out.1.alloc _, HA0.out.2.1.alloc _, HA0.out.2.2.alloc _⟩
   have HRA : Hid (Blk (U.alloc (.cells #[.int .i64 v.id, .int .i64 0, .int .i64 v.un, .int .i64 v.tg, .int .i64 a.rv] 90)) (w.heap.size + 1 + 1 + 1) #[.int .i64 0, .int .i64 0, .int .i64 0, .int .i64 0, .int .i64 0, .int .i64 0, .slice none 0 0, .slice none 0 0] 62) := HR0.out.alloc _
   have HBA : Hid (Below w.heap.size w (U.alloc (.cells #[.int .i64 v.id, .int .i64 0, .int .i64 v.un, .int .i64 v.tg, .int .i64 a.rv] 90))) := HB0d.out.alloc HB0d.out.size _
   have HFA : Hid (deb.Fresh (U.alloc (.cells #[.int .i64 v.id, .int .i64 0, .int .i64 v.un, .int .i64 v.tg, .int .i64 a.rv] 90)) W1.heap.size pb lb cb b.ds) := HF0.out.below ((Below.refl _ _).alloc (Nat.le_refl _) _)
   have HLA : Hid (Lo (U.alloc (.cells #[.int .i64 v.id, .int .i64 0, .int .i64 v.un, .int .i64 v.tg, .int .i64 a.rv] 90)) base (.slice sp sn sc) sol) := HL0.out.alloc _
   have HNA : Hid (Blk (U.alloc (.cells #[.int .i64 v.id, .int .i64 0, .int .i64 v.un, .int .i64 v.tg, .int .i64 a.rv] 90)) U.heap.size #[.int .i64 v.id, .int .i64 0, .int .i64 v.un, .int .i64 v.tg, .int .i64 a.rv] 90) := Blk.new _ _ _
   have HSA : Hid (W1.heap.size ≤ (U.alloc (.cells #[.int .i64 v.id, .int .i64 0, .int .i64 v.un, .int .i64 v.tg, .int .i64 a.rv] 90)).heap.size) := cell.alloc_le HSU.out _
   refine wp_runOp (v := .slice (some ⟨U.heap.size, 0, none⟩) 1 1) (w' := (U.alloc (.cells #[.int .i64 v.id, .int .i64 0, .int .i64 v.un, .int .i64 v.tg, .int .i64 a.rv] 90))) 100 rfl (by clear hK; go_simp) ?_
   refine hK.out _ _ HAA.out (fun hHeld => ?_)
   clear hK HA0 HR0 HB0d HF0 HL0 HSU
   simp only [Act.put, zqa, zqb, zqc]
   generalize U.heap.size = gn at *
   generalize U.alloc _ = U2 at *
   refine zqo 5 (by kernel_rfl) rfl (fun K hK => ?_)
   rw [if_pos (by rfl)]
   have HRL : Hid (w.heap.size + 1 + 1 + 1 < U2.heap.size) := HRA.out.lt
   refine step_sold 101 rfl _ _ rfl base gn _ sol ⟨v.id, 0, v.un, v.tg, a.rv⟩ rfl rfl HLA.out HNA.out hsol (Nat.le_trans HBS.out HBA.out.size) ?_
   intro v3 w9 h3 hg3 ho3
   obtain ⟨p3, c3, rfl, _, _, _⟩ := h3.row
   have hown : ∀ g, w.heap.size ≤ g → some g ≠ (Value.slice sp sn sc).ownBlock := fun g hg q => by have := HOWN.out g q.symm; omega
   have hk9 : ∀ g cs ty, w.heap.size ≤ g → Blk U2 g cs ty → Blk w9 g cs ty := fun g cs ty hg hb => by show w9.heap[g]? = _; rw [hg3.block g hb.lt (hown g hg)]; exact hb
   have HA9 : Hid (Blk w9 (gs + 1) #[.int .i64 b.me, .int .i64 b.rv, .int .i64 b.nx, .int .i64 b.mo, .int .i64 b.bo, .int .i64 b.fr, .slice pb lb cb] 59 ∧ Blk w9 (w.heap.size + 1) #[.int .i64 a.me, .int .i64 a.rv, .int .i64 a.nx, .int .i64 a.mo, .int .i64 a.bo, .int .i64 a.fr, .slice dp dn dc, .slice sp sn sc] 62 ∧ Blk w9 gs #[.int .i64 v.id, .int .i64 0, .int .i64 v.un, .int .i64 v.tg, .int .i64 a.rv] 90) := ⟨hk9 _ _ _ (by have := HS0.out; omega) HAA.out.1, hk9 _ _ _ (by omega) HAA.out.2.1, hk9 _ _ _ (by have := HS0.out; omega) HAA.out.2.2⟩
   have HR9 : Hid (Blk w9 (w.heap.size + 1 + 1 + 1) #[.int .i64 0, .int .i64 0, .int .i64 0, .int .i64 0, .int .i64 0, .int .i64 0, .slice none 0 0, .slice none 0 0] 62) := hk9 _ _ _ (by omega) HRA.out
   have HG9 : Hid (w.grownBy w9 (Value.slice sp sn sc).ownBlock) := (grown_of HBA.out _).trans hg3
   have HF9 : Hid (tar.Came w9 pb lb cb b.ds) := came_grown HFA.out.came hg3 (fun hn y hy => hown _ (Nat.le_trans HW1w.out (HFA.out.new hn y hy)))
   have HFN : Hid (0 < lb → ∀ y, pb = some y → W1.heap.size ≤ y.block ∧ y.block < U2.heap.size) := fun hn y hy => ⟨HFA.out.new hn y hy, by obtain ⟨bb, oo, e, lbb, _⟩ := HFA.out.came.row.at hn; rw [hy] at e; rw [Option.some.inj e]; exact lbb⟩
   have HL9 : Hid (Lo w9 base (.slice p3 (sol ++ [(⟨v.id, 0, v.un, v.tg, a.rv⟩ : So)]).length c3) (sol ++ [⟨v.id, 0, v.un, v.tg, a.rv⟩])) := h3
   have HO9 : Hid ((Value.slice p3 (sol ++ [(⟨v.id, 0, v.un, v.tg, a.rv⟩ : So)]).length c3).ownBlock = (Value.slice sp sn sc).ownBlock ∨ (Value.slice p3 (sol ++ [(⟨v.id, 0, v.un, v.tg, a.rv⟩ : So)]).length c3).ownBlock = some U2.heap.size) := ho3
   have HU2 : Hid (w.heap.size ≤ U2.heap.size) := HBA.out.size
   refine hK.out _ _ HA9.out (fun hHeld => ?_)
   clear hK h3 hg3 ho3 hown hk9 HAA HRA HBA HFA HLA HNA HSA
   simp only [Act.put, zqa, zqb, zqc]
   generalize (sol ++ [(⟨v.id, 0, v.un, v.tg, a.rv⟩ : So)]).length = n3 at *
   refine zqs 6 102 (.agg #[.int .i64 b.me, .int .i64 b.rv, .int .i64 b.nx, .int .i64 b.mo, .int .i64 b.bo, .int .i64 b.fr, .slice pb lb cb, .slice p3 n3 c3]) rfl rfl (by kernel_rfl) (fun _ _ _ h => h) rfl (fun v hv => by clear hv; go_simp) hHeld ?_
   simp only [Act.put, zqa, zqb, zqc]
   refine zqo 7 (by kernel_rfl) rfl (fun K hK => ?_)
   rw [if_pos (by rfl)]
   refine wp_letOp 62 _ _ rfl (w.heap.size + 1 + 1 + 1) rfl #[.int .i64 b.me, .int .i64 b.rv, .int .i64 b.nx, .int .i64 b.mo, .int .i64 b.bo, .int .i64 b.fr, .slice pb lb cb, .slice p3 n3 c3] rfl (by kernel_rfl) (by simp [Value.oneCell']) #[.int .i64 0, .int .i64 0, .int .i64 0, .int .i64 0, .int .i64 0, .int .i64 0, .slice none 0 0, .slice none 0 0] 62 HR9.out rfl rfl ?_
   intro WF hU
   have HRF : Hid (Blk WF (w.heap.size + 1 + 1 + 1) #[.int .i64 b.me, .int .i64 b.rv, .int .i64 b.nx, .int .i64 b.mo, .int .i64 b.bo, .int .i64 b.fr, .slice pb lb cb, .slice p3 n3 c3] 62) := hU.blk
   have HUF : Hid (Upd w9 WF (w.heap.size + 1 + 1 + 1) #[.int .i64 b.me, .int .i64 b.rv, .int .i64 b.nx, .int .i64 b.mo, .int .i64 b.bo, .int .i64 b.fr, .slice pb lb cb, .slice p3 n3 c3] 62) := hU
   have HAF : Hid (Blk WF (gs + 1) #[.int .i64 b.me, .int .i64 b.rv, .int .i64 b.nx, .int .i64 b.mo, .int .i64 b.bo, .int .i64 b.fr, .slice pb lb cb] 59 ∧ Blk WF (w.heap.size + 1) #[.int .i64 a.me, .int .i64 a.rv, .int .i64 a.nx, .int .i64 a.mo, .int .i64 a.bo, .int .i64 a.fr, .slice dp dn dc, .slice sp sn sc] 62 ∧ Blk WF gs #[.int .i64 v.id, .int .i64 0, .int .i64 v.un, .int .i64 v.tg, .int .i64 a.rv] 90) := ⟨hU.keep HA9.out.1 (by have := HS0.out; omega), hU.keep HA9.out.2.1 (by omega), hU.keep HA9.out.2.2 (by have := HS0.out; omega)⟩
   refine hK.out _ _ HAF.out (fun hHeld => ?_)
   clear hK hU HA9 HR9
   refine zqs 8 7 (.int .i64 0) rfl rfl (by kernel_rfl) (fun _ _ _ h => h) rfl (fun v hv => by clear hv; go_simp) hHeld ?_
   simp only [Act.put, zqa, zqb, zqc]
   refine wpAnyH_done (by kernel_rfl) ?_ _
   clear hHeld
   have R0 : Hid (WF.cell? ⟨w.heap.size + 1 + 1 + 1, 0, none⟩ = some (.int .i64 b.me)) := HRF.out.cell 0
   have R1 : Hid (WF.cell? ⟨w.heap.size + 1 + 1 + 1, 1, none⟩ = some (.int .i64 b.rv)) := HRF.out.cell 1
   have R2 : Hid (WF.cell? ⟨w.heap.size + 1 + 1 + 1, 2, none⟩ = some (.int .i64 b.nx)) := HRF.out.cell 2
   have R3 : Hid (WF.cell? ⟨w.heap.size + 1 + 1 + 1, 3, none⟩ = some (.int .i64 b.mo)) := HRF.out.cell 3
   have R4 : Hid (WF.cell? ⟨w.heap.size + 1 + 1 + 1, 4, none⟩ = some (.int .i64 b.bo)) := HRF.out.cell 4
   have R5 : Hid (WF.cell? ⟨w.heap.size + 1 + 1 + 1, 5, none⟩ = some (.int .i64 b.fr)) := HRF.out.cell 5
   have R6 : Hid (WF.cell? ⟨w.heap.size + 1 + 1 + 1, 6, none⟩ = some (.slice pb lb cb)) := HRF.out.cell 6
   have R7 : Hid (WF.cell? ⟨w.heap.size + 1 + 1 + 1, 7, none⟩ = some (.slice p3 n3 c3)) := HRF.out.cell 7
   have HFIN : Hid (HapPost w base t (cuA a dp dn dc sp sn sc) ⟨a, sol⟩ v (.returned (.tuple #[.agg #[.int .i64 b.me, .int .i64 b.rv, .int .i64 b.nx, .int .i64 b.mo, .int .i64 b.bo, .int .i64 b.fr, .slice pb lb cb, .slice p3 n3 c3], .int .i64 0])) WF) := by
    have hgf : w.grownBy WF (Value.slice sp sn sc).ownBlock := grown_upd HG9.out HUF.out (by omega)
    have hso : soldOf ⟨a, sol⟩ v = ⟨v.id, 0, v.un, v.tg, a.rv⟩ := by unfold soldOf; rw [if_neg (by rw [HKD.out]; decide)]
    refine ⟨cuA b pb lb cb p3 n3 c3, ⟨b, sol ++ [soldOf ⟨a, sol⟩ v]⟩, 0, rfl, .inr ⟨HK5.out, b, l, f, .inl ⟨HKD.out, HI.out⟩, .inr (.inr ⟨HFZ.out, HLB.out, rfl, rfl⟩)⟩, fun _ => ?_, hgf⟩
    rw [hso]
    refine ⟨hgf, ⟨cuA_num _ _ _ _ _ _ _, ⟨acc_upd HF9.out HUF.out (fun hn y hy q => by have h1 := (HFN.out hn y hy).1; have h2 := HS5.out; have h3 := HS0.out; omega), fun hn y hy => by have h1 := (HFN.out hn y hy).1; have h2 := HW1w.out; have h3 := HBS.out; omega⟩, lo_upd HL9.out HUF.out (fun g hg q => ?_)⟩, fun g hg => ?_, fun hn y hy => Nat.le_trans HW1w.out (HFN.out hn y hy).1, fun g hg hn y hy q => ?_⟩
    ·have h0 : (Value.slice p3 n3 c3).ownBlock = some g := hg
     rcases HO9.out with e | e
     ·rw [e] at h0; have := HOWN.out g h0; omega
     ·rw [e] at h0; have h1 := Option.some.inj h0; have h2 := HRL.out; omega
    ·rcases HO9.out with e | e
     ·exact .inl (e.symm.trans hg)
     ·refine .inr ?_
      have h0 : (Value.slice p3 n3 c3).ownBlock = some g := hg
      rw [e] at h0
      have h1 := Option.some.inj h0
      have h2 := HU2.out
      omega
    ·have h0 : (Value.slice p3 n3 c3).ownBlock = some g := hg
     have h1 := HFN.out hn y hy
     rcases HO9.out with e | e
     ·rw [e] at h0; have h2 := HOWN.out g h0; have h3 := HW1w.out; omega
     ·rw [e] at h0; have h2 := Option.some.inj h0; omega
   go_wp2_with fail
   exact bodyPost_ret (v := .tuple #[.agg #[.int .i64 b.me, .int .i64 b.rv, .int .i64 b.nx, .int .i64 b.mo, .int .i64 b.bo, .int .i64 b.fr, .slice pb lb cb, .slice p3 n3 c3], .int .i64 0]) (by simp [results, Tryz.results37, R0.out, R1.out, R2.out, R3.out, R4.out, R5.out, R6.out, R7.out, go_sem]) rfl HFIN.out
  ·have HLB : Hid (l ≠ billOf v) := hlb
   have qe : ∀ wz : World, (Op.equalIn 10000 69 (.agg #[.int .i64 l.id, .int .i64 l.te, .int .i64 l.de, .int .i64 l.fe, .int .i64 l.pr, .int .i64 l.ch, .int .i64 l.un]) (.agg #[.int .i64 v.id, .int .i64 v.te, .int .i64 v.de, .int .i64 v.fe, .int .i64 v.pr, .int .i64 v.ch, .int .i64 v.un])).run Tryz.prog wz = .ok false wz := fun wz => by rw [show (10000 : Nat) = 9998 + 2 from rfl, eqBi]; exact congrArg (fun q => Result.ok q wz) (decide_eq_false (bill_ne hlb))
   clear hlb
   have HNZ : Hid (¬ (8 : Int) = 0) := by show ¬ (8 : Int) = 0; decide
   obtain ⟨kt0, kt1, kt2, kt3, kt4⟩ := scl5 Ht8
   obtain ⟨kx0, kx1, kx2, kx3, kx4, kx5, kx6, kx7⟩ := scl8 Hx8
   obtain ⟨kv0, kv1, kv2, kv3, kv4, kv5, kv6, kv7, kv8, kv9, kv10, kv11, kv12⟩ := scl13 Hv8
   obtain ⟨ks0, ks1, ks2, ks3, ks4⟩ := scl5 Hs8
   obtain ⟨kb0, kb1, kb2, kb3, kb4, kb5, kb6⟩ := scl7 Hb8
   go_wp2_with (first | (refine zql rfl rfl rfl rfl zqu62 (by simp [Value.oneCell']) Hr8 rfl ?_) | fail)
   intro WF hU
   have HRF : Hid (Blk WF (w.heap.size + 1 + 1 + 1) #[.int .i64 0, .int .i64 0, .int .i64 0, .int .i64 0, .int .i64 0, .int .i64 0, .slice none 0 0, .slice none 0 0] 62) := hU.blk
   have HBF := shV hU HB8 (by omega)
   clear hU kt0 kt1 kt2 kt3 kt4 kx0 kx1 kx2 kx3 kx4 kx5 kx6 kx7 kv0 kv1 kv2 kv3 kv4 kv5 kv6 kv7 kv8 kv9 kv10 kv11 kv12 ks0 ks1 ks2 ks3 ks4 kb0 kb1 kb2 kb3 kb4 kb5 kb6
   obtain ⟨R0, R1, R2, R3, R4, R5, R6, R7⟩ := shc8 HRF
   have HFIN : Hid (HapPost w base t (cuA a dp dn dc sp sn sc) ⟨a, sol⟩ v (.returned (.tuple #[.agg #[.int .i64 0, .int .i64 0, .int .i64 0, .int .i64 0, .int .i64 0, .int .i64 0, .slice none 0 0, .slice none 0 0], .int .i64 8])) WF) := ⟨cu0, cm0, 8, rfl, .inr ⟨HK5.out, b, l, f, .inl ⟨HKD.out, HI.out⟩, .inr (.inl ⟨HFZ.out, HLB.out, rfl⟩)⟩, fun h => absurd h HNZ.out, grown_of HBF.out _⟩
   go_wp2_with fail
   exact bodyPost_ret (v := .tuple #[.agg #[.int .i64 0, .int .i64 0, .int .i64 0, .int .i64 0, .int .i64 0, .int .i64 0, .slice none 0 0, .slice none 0 0], .int .i64 8]) (by simp [results, Tryz.results37, R0.out, R1.out, R2.out, R3.out, R4.out, R5.out, R6.out, R7.out, go_sem]) rfl HFIN.out
 ·have HNZ : Hid (¬ f = 0) := hfz
  have nf : (f != 0) = true := by simpa using hfz
  clear hfz
  obtain ⟨kt0, kt1, kt2, kt3, kt4⟩ := scl5 Ht8
  obtain ⟨kx0, kx1, kx2, kx3, kx4, kx5, kx6, kx7⟩ := scl8 Hx8
  obtain ⟨kv0, kv1, kv2, kv3, kv4, kv5, kv6, kv7, kv8, kv9, kv10, kv11, kv12⟩ := scl13 Hv8
  obtain ⟨ks0, ks1, ks2, ks3, ks4⟩ := scl5 Hs8
  obtain ⟨kb0, kb1, kb2, kb3, kb4, kb5, kb6⟩ := scl7 Hb8
  go_wp2_with (first | (refine zql rfl rfl rfl rfl zqu62 (by simp [Value.oneCell']) Hr8 rfl ?_) | fail)
  intro WF hU
  have HRF : Hid (Blk WF (w.heap.size + 1 + 1 + 1) #[.int .i64 0, .int .i64 0, .int .i64 0, .int .i64 0, .int .i64 0, .int .i64 0, .slice none 0 0, .slice none 0 0] 62) := hU.blk
  have HBF := shV hU HB8 (by omega)
  clear hU kt0 kt1 kt2 kt3 kt4 kx0 kx1 kx2 kx3 kx4 kx5 kx6 kx7 kv0 kv1 kv2 kv3 kv4 kv5 kv6 kv7 kv8 kv9 kv10 kv11 kv12 ks0 ks1 ks2 ks3 ks4 kb0 kb1 kb2 kb3 kb4 kb5 kb6
  obtain ⟨R0, R1, R2, R3, R4, R5, R6, R7⟩ := shc8 HRF
  have HFIN : Hid (HapPost w base t (cuA a dp dn dc sp sn sc) ⟨a, sol⟩ v (.returned (.tuple #[.agg #[.int .i64 0, .int .i64 0, .int .i64 0, .int .i64 0, .int .i64 0, .int .i64 0, .slice none 0 0, .slice none 0 0], .int .i64 f])) WF) := ⟨cu0, cm0, f, rfl, .inr ⟨HK5.out, b, l, f, .inl ⟨HKD.out, HI.out⟩, .inl ⟨HNZ.out, rfl⟩⟩, fun h => absurd h HNZ.out, grown_of HBF.out _⟩
  go_wp2_with fail
  exact bodyPost_ret (v := .tuple #[.agg #[.int .i64 0, .int .i64 0, .int .i64 0, .int .i64 0, .int .i64 0, .int .i64 0, .slice none 0 0, .slice none 0 0], .int .i64 f]) (by simp [results, Tryz.results37, R0.out, R1.out, R2.out, R3.out, R4.out, R5.out, R6.out, R7.out, go_sem]) rfl HFIN.out
end book
end Go.Proofs.YtomibnggmhjdfaaGreat
