/- Terms copied by the statements. -/
import Derived.Test.YtfhlokjpdkmdjaaSh
import Derived.Test.YtfhlokjpdkmdjaaAcU
import Derived.Test.YtfhlokjpdkmdjaaLetS
import Derived.Test.YtfhlokjpdkmdjaaTfSc
import Derived.Deep.DeepCutAuto
namespace Go.Proofs.Ytfhlokjpdkmdjaa.acc
open Go.Proofs.Ytfhlokjpdkmdjaa.tar (Du du0 Came RowD Ld PairT)
open Go.RowKit
set_option maxRecDepth 100000
set_option linter.unusedVariables false
set_option linter.unusedSimpArgs false

set_option maxHeartbeats 4000000 in
theorem terms_any (x : Tm) (p : Option Addr) (len cap : Nat) (w : World) (h : TCame w x p len cap) : Calls Try.prog 17 #[x.v p len cap] w fun e w' => ∃ p' cap', e = .returned (x.v p' len cap') ∧ deb.Fresh w' w.heap.size p' len cap' x.ts ∧ Below w.heap.size w w' := by
  have hlen := h.ts.row.1
  have HCW : Hid (TCame w x p len cap) := h
  unfold Tm.v
  obtain ⟨W0, HWW, H0d, H0r, H0B, hs0⟩ := sh2 w #[.slice p len cap, .int .i64 x.ff, .int .i64 x.fb, .int .i64 x.db, .int .i64 x.al] 40 #[.slice none 0 0, .int .i64 0, .int .i64 0, .int .i64 0, .int .i64 0] 40
  have H0C : Hid (Came W0 p len cap x.ts) := h.ts.below H0B.out
  go_enter Try.func17, Try.ntmps17
  go_upto_region 1 with fail
  rw [HWW.out]
  clear HWW
  have HDB : Hid (Calls Try.prog 35 #[.slice p len cap] W0 fun e w' => tar.GaveD 111 W0 x.ts e w') := tar.steps_any p len cap x.ts W0 H0C.out
  clear h
  have qd0 : W0.cell? ⟨w.heap.size, 0, none⟩ = some (.slice p len cap) := H0d.out.cell 0
  go_wp2_with fail
  refine HDB.out.mono ?_
  rintro e w2 ⟨v2, rfl, hl2, hb2⟩
  have H1d := shN H0d hb2
  have H1r := shN H0r hb2
  have H1C : Hid (Came w2 p len cap x.ts) := H0C.out.below hb2
  have H1B := shB H0B hb2
  have hsw2 : W0.heap.size ≤ w2.heap.size := hb2.size
  clear hb2 H0d H0r H0C H0B
  have HNW := HCW.out.ts
  obtain ⟨p2, c2, hv2, hc2⟩ := hl2.came (by rw [hlen]; exact HNW.bytes) HNW.wf
  subst hv2
  have hn2 := deb.ld_new hl2
  rw [hlen] at hc2 hn2 ⊢
  have H2F : Hid (deb.Fresh w2 W0.heap.size p2 len c2 x.ts) := ⟨hc2, hn2⟩
  have HUPF : Hid (0 < len → ∀ y, p2 = some y → y.block < w2.heap.size) := came_lt H2F.out.came
  clear hl2 hc2 hn2 HNW HDB qd0
  go_wp2_with (first
    | (refine wp_letS rfl 38 _ _ rfl (w.heap.size) 0 rfl p2 len c2 rfl (by kernel_rfl) #[.slice p len cap, .int .i64 x.ff, .int .i64 x.fb, .int .i64 x.db, .int .i64 x.al] 40 H1d.out (by simp) ?_)
    | (refine wp_whole rfl 40 _ rfl _ rfl 40 _ _ H1d.out Try.underlying40 rfl (by kernel_rfl) ?_)
    | (refine wp_whole rfl 40 _ rfl _ rfl 40 _ _ H1r.out Try.underlying40 rfl (by kernel_rfl) ?_)
    | fail)
  intro W3 hU
  have H3d : Hid (Blk W3 (w.heap.size) #[.slice p2 len c2, .int .i64 x.ff, .int .i64 x.fb, .int .i64 x.db, .int .i64 x.al] 40) := hU.blk
  have H3r := shK hU H1r (by omega)
  have H3F : Hid (deb.Fresh W3 W0.heap.size p2 len c2 x.ts) := fresh_updN H2F.out hU (fun hn y hy => by have f1 := H2F.out.new hn y hy; have f2 := HUPF.out hn y hy; omega)
  have H3B := shV hU H1B (by omega)
  have hsW3 : W3.heap.size = w2.heap.size := hU.size
  clear hU H1d H1r H2F H1B
  go_wp2_with (first
    | (refine wp_letAll rfl 40 _ _ rfl _ rfl _ rfl (by kernel_rfl) (by simp [Value.oneCell']) _ 40 H3r.out rfl ?_)
    | (refine wp_whole rfl 40 _ rfl _ rfl 40 _ _ H3d.out Try.underlying40 rfl (by kernel_rfl) ?_)
    | (refine wp_whole rfl 40 _ rfl _ rfl 40 _ _ H3r.out Try.underlying40 rfl (by kernel_rfl) ?_)
    | fail)
  intro W4 hU
  have H4d := shK hU H3d (by omega)
  have H4r : Hid (Blk W4 (w.heap.size + 1) #[.slice p2 len c2, .int .i64 x.ff, .int .i64 x.fb, .int .i64 x.db, .int .i64 x.al] 40) := hU.blk
  have H4F : Hid (deb.Fresh W4 W0.heap.size p2 len c2 x.ts) := fresh_updN H3F.out hU (fun hn y hy => by have f1 := H3F.out.new hn y hy; have f2 := HUPF.out hn y hy; omega)
  have H4B := shV hU H3B (by omega)
  have hsW4 : W4.heap.size = W3.heap.size := hU.size
  clear hU H3d H3r H3F H3B
  obtain ⟨R0, R1, R2, R3, R4⟩ := shc5 H4r
  go_wp2_with fail
  exact bodyPost_ret (v := .agg #[.slice p2 len c2, .int .i64 x.ff, .int .i64 x.fb, .int .i64 x.db, .int .i64 x.al]) (by simp [results, Try.results17, R0.out, R1.out, R2.out, R3.out, R4.out, go_sem]) rfl ⟨p2, c2, rfl, H4F.out.low (by omega), H4B.out⟩

end Go.Proofs.Ytfhlokjpdkmdjaa.acc
