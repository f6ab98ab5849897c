import Derived.Test.YtnpblpbohcegoaaGreatDoorVVCut7
import Derived.Test.YtnpblpbohcegoaaGreatDoorVVCut8
set_option linter.unusedVariables false
set_option linter.unusedSimpArgs false
set_option maxHeartbeats 4000000
set_option maxRecDepth 100000
namespace Go.Proofs.YtnpblpbohcegoaaGreatDoor
namespace disk
open Go.RowKit cell
set_option maxRecDepth 100000
theorem lr_cells {T : TypeId} {w : World} {base : Nat} {v : Value} {l : List Sli} (h : Lr T w base v l) : v.cells = #[v] := by
 obtain ⟨a, cap, rfl⟩ := h.len
 rfl
theorem lr_one {T : TypeId} {w : World} {base : Nat} {v : Value} {l : List Sli} (h : Lr T w base v l) : v.oneCell' = true := by
 obtain ⟨a, cap, rfl⟩ := h.len
 rfl
set_option maxHeartbeats 4000000 in
theorem put_record (w : World) (L : Nat) (V : Value) (sl : List Sli) (zs : List (List Int)) (R : List Int) (b off m : Nat) (W : World) (h : Box w L V sl zs W) (hr : RowU W (some ⟨b, off, none⟩) m R) (h1 : 1 ≤ m) (h2 : m ≤ 64) (hs : sl.length ≤ 1000000) :
  Calls Tryz.prog 63 #[.slice (some ⟨b, off, none⟩) m m, .pointer (some ⟨L, 0, none⟩)] W fun e w' => e = .returned (.tuple #[]) ∧ ∃ V' sl', Box w L V' sl' (zs ++ [R]) w' := by
 have HC : Hid (Calls Tryz.prog 64 #[.slice (some ⟨b, off, none⟩) m m] W.drew fun e w' => GaveU W.drew R e w') := clone_any _ m m R _ hr (by omega)
 have HBU0 : Hid (Box w L V sl zs W.drew) := h.next (Below.refl _ _).drew
 have HB0 : Hid (Box w L V sl zs W.drew) := HBU0.out
 have HRL : Hid (R.length = m) := hr.1
 have HM1 : Hid (0 < m) := h1
 have HM6 : Hid (m ≤ 100000) := Nat.le_trans h2 (by decide)
 have HS6 : Hid (sl.length ≤ 1000000) := hs
 clear hr h h1 h2 hs
 go_enter Tryz.func63, Tryz.ntmps63
 refine wp_region_held_drew (S := fun v => True) (by kernel_rfl) trivial (fun hHeld => ?_)
 generalize W.drew = U0 at *
 refine zqs 1 4 (.slice (some ⟨b, off, none⟩) m m) rfl rfl (by kernel_rfl) (fun _ _ _ h => h) rfl (fun v hv => by clear hv; go_simp) hHeld ?_
 simp only [Act.put, zqa, zqb, zqc]
 refine wpAnyH_ready (rs := [0, 2]) (by kernel_rfl) (by simp) (AllReadyH.cons rfl (fun K hK => ?_) (AllReadyH.cons rfl (fun K hK => ?_) AllReadyH.nil))
 ·rw [if_pos (by rfl)]
  have cU0 : U0.cell? ⟨L, 0, none⟩ = some V := HBU0.out.blk.cell 0
  refine wp_runOp (v := V) (w' := U0) 3 rfl (by clear hK; go_simp) ?_
  refine hK.out _ _ trivial (fun hHeld => ?_)
  clear hK cU0
  simp only [Act.put, zqa, zqb, zqc]
  refine zqo 2 (by kernel_rfl) rfl (fun K hK => ?_)
  rw [if_pos (by rfl)]
  refine wp_callOp 5 rfl (by clear hK; go_simp) (HC.out) ?_
  rintro e U1 ⟨v5, rfl, hws, hb⟩
  obtain ⟨a5, cap5, rfl, hrow, hnl, hcp⟩ := Ws.row hws
  rw [HRL.out] at hrow hcp ⊢
  obtain ⟨g, o5, rfl, hg5, hc5⟩ := hrow.at HM1.out
  have HCP : Hid (m ≤ cap5) := hcp
  have HG : Hid (U0.heap.size ≤ g) := (World.ownsRow.lt hws g rfl).1
  have HRU1 : Hid (RowU U1 (some ⟨g, o5, none⟩) m R ∧ g < U1.heap.size) := ⟨hrow, hg5⟩
  have HBU1 : Hid (Box w L V sl zs U1) := HBU0.out.next hb
  refine ⟨_, rfl, hK.out _ _ trivial (fun hHeld => ?_)⟩
  clear hK HC hws hb hnl hcp hc5 hg5 hrow HBU0
  simp only [Act.put, zqa, zqb, zqc]
  have HNE : Hid (some g ≠ V.ownBlock) := fun e => by have := (World.ownsRow.lt HB0.out.row g e.symm).2; have := HG.out; omega
  have HGL : Hid (L + 1 ≤ g) := by have := HB0.out.blk.lt; have := HG.out; show _ ≤ _; omega
  refine zqo 3 (by kernel_rfl) rfl (fun K hK => ?_)
  rw [if_pos (by rfl)]
  have hb : Below U1.heap.size U1 (U1.alloc (.cells #[.slice (some ⟨g, o5, none⟩) m cap5] 25)) := (Below.refl _ _).alloc (Nat.le_refl _) _
  have HBU2 : Hid (Box w L V sl zs (U1.alloc (.cells #[.slice (some ⟨g, o5, none⟩) m cap5] 25))) := HBU1.out.next hb
  have HRU2 : Hid (RowU (U1.alloc (.cells #[.slice (some ⟨g, o5, none⟩) m cap5] 25)) (some ⟨g, o5, none⟩) m R ∧ g < (U1.alloc (.cells #[.slice (some ⟨g, o5, none⟩) m cap5] 25)).heap.size) := ⟨HRU1.out.1.below hb, Nat.lt_of_lt_of_le HRU1.out.2 hb.size⟩
  have HX : Hid ((U1.alloc (.cells #[.slice (some ⟨g, o5, none⟩) m cap5] 25)).cell? ⟨U1.heap.size, 0, none⟩ = some (.slice (some ⟨g, o5, none⟩) m cap5)) := (Blk.new _ _ _).cell 0
  clear hb
  refine wp_runOp (v := .slice (some ⟨U1.heap.size, 0, none⟩) 1 1) (w' := (U1.alloc (.cells #[.slice (some ⟨g, o5, none⟩) m cap5] 25))) 6 rfl (by clear hK; go_simp) ?_
  refine hK.out _ _ trivial (fun hHeld => ?_)
  clear hK HBU1 HRU1
  simp only [Act.put, zqa, zqb, zqc]
  generalize U1.heap.size = G at *
  generalize (U1.alloc (.cells #[.slice (some ⟨g, o5, none⟩) m cap5] 25)) = U2 at *
  refine zqo 4 (by kernel_rfl) rfl (fun K hK => ?_)
  refine step_sli sliT rfl _ _ rfl (L + 1) G V sl ⟨some ⟨g, o5, none⟩, m, cap5⟩ rfl rfl HBU2.out.row HX.out HS6.out (HBU2.out.blk.lt) ?_
  intro v7 W3 h3 hg3 ho3
  refine hK.out _ _ trivial (fun hHeld => ?_)
  clear hK
  simp only [Act.put, zqa, zqb, zqc]
  refine zqo 5 (by kernel_rfl) rfl (fun K hK => ?_)
  rw [if_pos (by rfl)]
  refine wp_letOne 104 _ _ rfl L rfl v7 rfl (lr_cells h3) (by kernel_rfl) (lr_one h3) V 104 (HBU2.out.kept hg3) rfl ?_
  intro W4 hU
  have HF : Hid (Box w L v7 (sl ++ [⟨some ⟨g, o5, none⟩, m, cap5⟩]) (zs ++ [R]) W4) := box_step HBU2.out rfl HRU2.out.2 HNE.out HGL.out HRU2.out.1 ⟨HM6.out, HCP.out, fun h => by cases h⟩ h3 hg3 ho3 hU
  refine hK.out _ _ trivial (fun hHeld => ?_)
  clear hK hU h3 hg3 ho3
  refine wpAnyH_done (by kernel_rfl) ?_ _
  clear hHeld
  go_wp2_with fail
  go_end0
  exact ⟨rfl, _, _, HF.out⟩
 ·rw [if_pos (by rfl)]
  refine wp_callOp 5 rfl (by clear hK; go_simp) (HC.out) ?_
  rintro e U1 ⟨v5, rfl, hws, hb⟩
  obtain ⟨a5, cap5, rfl, hrow, hnl, hcp⟩ := Ws.row hws
  rw [HRL.out] at hrow hcp ⊢
  obtain ⟨g, o5, rfl, hg5, hc5⟩ := hrow.at HM1.out
  have HCP : Hid (m ≤ cap5) := hcp
  have HG : Hid (U0.heap.size ≤ g) := (World.ownsRow.lt hws g rfl).1
  have HRU1 : Hid (RowU U1 (some ⟨g, o5, none⟩) m R ∧ g < U1.heap.size) := ⟨hrow, hg5⟩
  have HBU1 : Hid (Box w L V sl zs U1) := HBU0.out.next hb
  refine ⟨_, rfl, hK.out _ _ trivial (fun hHeld => ?_)⟩
  clear hK HC hws hb hnl hcp hc5 hg5 hrow HBU0
  simp only [Act.put, zqa, zqb, zqc]
  have HNE : Hid (some g ≠ V.ownBlock) := fun e => by have := (World.ownsRow.lt HB0.out.row g e.symm).2; have := HG.out; omega
  have HGL : Hid (L + 1 ≤ g) := by have := HB0.out.blk.lt; have := HG.out; show _ ≤ _; omega
  refine wpAnyH_ready (rs := [0, 3]) (by kernel_rfl) (by simp) (AllReadyH.cons rfl (fun K hK => ?_) (AllReadyH.cons rfl (fun K hK => ?_) AllReadyH.nil))
  ·rw [if_pos (by rfl)]
   have cU1 : U1.cell? ⟨L, 0, none⟩ = some V := HBU1.out.blk.cell 0
   refine wp_runOp (v := V) (w' := U1) 3 rfl (by clear hK; go_simp) ?_
   refine hK.out _ _ trivial (fun hHeld => ?_)
   clear hK cU1
   simp only [Act.put, zqa, zqb, zqc]
   refine zqo 3 (by kernel_rfl) rfl (fun K hK => ?_)
   rw [if_pos (by rfl)]
   have hb : Below U1.heap.size U1 (U1.alloc (.cells #[.slice (some ⟨g, o5, none⟩) m cap5] 25)) := (Below.refl _ _).alloc (Nat.le_refl _) _
   have HBU2 : Hid (Box w L V sl zs (U1.alloc (.cells #[.slice (some ⟨g, o5, none⟩) m cap5] 25))) := HBU1.out.next hb
   have HRU2 : Hid (RowU (U1.alloc (.cells #[.slice (some ⟨g, o5, none⟩) m cap5] 25)) (some ⟨g, o5, none⟩) m R ∧ g < (U1.alloc (.cells #[.slice (some ⟨g, o5, none⟩) m cap5] 25)).heap.size) := ⟨HRU1.out.1.below hb, Nat.lt_of_lt_of_le HRU1.out.2 hb.size⟩
   have HX : Hid ((U1.alloc (.cells #[.slice (some ⟨g, o5, none⟩) m cap5] 25)).cell? ⟨U1.heap.size, 0, none⟩ = some (.slice (some ⟨g, o5, none⟩) m cap5)) := (Blk.new _ _ _).cell 0
   clear hb
   refine wp_runOp (v := .slice (some ⟨U1.heap.size, 0, none⟩) 1 1) (w' := (U1.alloc (.cells #[.slice (some ⟨g, o5, none⟩) m cap5] 25))) 6 rfl (by clear hK; go_simp) ?_
   refine hK.out _ _ trivial (fun hHeld => ?_)
   clear hK HBU1 HRU1
   simp only [Act.put, zqa, zqb, zqc]
   generalize U1.heap.size = G at *
   generalize (U1.alloc (.cells #[.slice (some ⟨g, o5, none⟩) m cap5] 25)) = U2 at *
   refine zqo 4 (by kernel_rfl) rfl (fun K hK => ?_)
   refine step_sli sliT rfl _ _ rfl (L + 1) G V sl ⟨some ⟨g, o5, none⟩, m, cap5⟩ rfl rfl HBU2.out.row HX.out HS6.out (HBU2.out.blk.lt) ?_
   intro v7 W3 h3 hg3 ho3
   refine hK.out _ _ trivial (fun hHeld => ?_)
   clear hK
   simp only [Act.put, zqa, zqb, zqc]
   refine zqo 5 (by kernel_rfl) rfl (fun K hK => ?_)
   rw [if_pos (by rfl)]
   refine wp_letOne 104 _ _ rfl L rfl v7 rfl (lr_cells h3) (by kernel_rfl) (lr_one h3) V 104 (HBU2.out.kept hg3) rfl ?_
   intro W4 hU
   have HF : Hid (Box w L v7 (sl ++ [⟨some ⟨g, o5, none⟩, m, cap5⟩]) (zs ++ [R]) W4) := box_step HBU2.out rfl HRU2.out.2 HNE.out HGL.out HRU2.out.1 ⟨HM6.out, HCP.out, fun h => by cases h⟩ h3 hg3 ho3 hU
   refine hK.out _ _ trivial (fun hHeld => ?_)
   clear hK hU h3 hg3 ho3
   refine wpAnyH_done (by kernel_rfl) ?_ _
   clear hHeld
   go_wp2_with fail
   go_end0
   exact ⟨rfl, _, _, HF.out⟩
  ·rw [if_pos (by rfl)]
   have hb : Below U1.heap.size U1 (U1.alloc (.cells #[.slice (some ⟨g, o5, none⟩) m cap5] 25)) := (Below.refl _ _).alloc (Nat.le_refl _) _
   have HBU2 : Hid (Box w L V sl zs (U1.alloc (.cells #[.slice (some ⟨g, o5, none⟩) m cap5] 25))) := HBU1.out.next hb
   have HRU2 : Hid (RowU (U1.alloc (.cells #[.slice (some ⟨g, o5, none⟩) m cap5] 25)) (some ⟨g, o5, none⟩) m R ∧ g < (U1.alloc (.cells #[.slice (some ⟨g, o5, none⟩) m cap5] 25)).heap.size) := ⟨HRU1.out.1.below hb, Nat.lt_of_lt_of_le HRU1.out.2 hb.size⟩
   have HX : Hid ((U1.alloc (.cells #[.slice (some ⟨g, o5, none⟩) m cap5] 25)).cell? ⟨U1.heap.size, 0, none⟩ = some (.slice (some ⟨g, o5, none⟩) m cap5)) := (Blk.new _ _ _).cell 0
   clear hb
   refine wp_runOp (v := .slice (some ⟨U1.heap.size, 0, none⟩) 1 1) (w' := (U1.alloc (.cells #[.slice (some ⟨g, o5, none⟩) m cap5] 25))) 6 rfl (by clear hK; go_simp) ?_
   refine hK.out _ _ trivial (fun hHeld => ?_)
   clear hK HBU1 HRU1
   simp only [Act.put, zqa, zqb, zqc]
   generalize U1.heap.size = G at *
   generalize (U1.alloc (.cells #[.slice (some ⟨g, o5, none⟩) m cap5] 25)) = U2 at *
   refine zqo 0 (by kernel_rfl) rfl (fun K hK => ?_)
   rw [if_pos (by rfl)]
   have cU2 : U2.cell? ⟨L, 0, none⟩ = some V := HBU2.out.blk.cell 0
   refine wp_runOp (v := V) (w' := U2) 3 rfl (by clear hK; go_simp) ?_
   refine hK.out _ _ trivial (fun hHeld => ?_)
   clear hK cU2
   simp only [Act.put, zqa, zqb, zqc]
   refine zqo 4 (by kernel_rfl) rfl (fun K hK => ?_)
   refine step_sli sliT rfl _ _ rfl (L + 1) G V sl ⟨some ⟨g, o5, none⟩, m, cap5⟩ rfl rfl HBU2.out.row HX.out HS6.out (HBU2.out.blk.lt) ?_
   intro v7 W3 h3 hg3 ho3
   refine hK.out _ _ trivial (fun hHeld => ?_)
   clear hK
   simp only [Act.put, zqa, zqb, zqc]
   refine zqo 5 (by kernel_rfl) rfl (fun K hK => ?_)
   rw [if_pos (by rfl)]
   refine wp_letOne 104 _ _ rfl L rfl v7 rfl (lr_cells h3) (by kernel_rfl) (lr_one h3) V 104 (HBU2.out.kept hg3) rfl ?_
   intro W4 hU
   have HF : Hid (Box w L v7 (sl ++ [⟨some ⟨g, o5, none⟩, m, cap5⟩]) (zs ++ [R]) W4) := box_step HBU2.out rfl HRU2.out.2 HNE.out HGL.out HRU2.out.1 ⟨HM6.out, HCP.out, fun h => by cases h⟩ h3 hg3 ho3 hU
   refine hK.out _ _ trivial (fun hHeld => ?_)
   clear hK hU h3 hg3 ho3
   refine wpAnyH_done (by kernel_rfl) ?_ _
   clear hHeld
   go_wp2_with fail
   go_end0
   exact ⟨rfl, _, _, HF.out⟩
end disk
namespace acc
open tar (Du du0 Came RowD Ld PairT)
open Go.RowKit
def RollR (x:Ac) (m:Int) (b0:Bi) (y:Ac) (b:Bi) (f:Int):Prop:=((¬ RMay x m∧RErr x m f∧y=x)∨(RMay x m∧y=rolled x m∧f=0))∧b=b0
theorem proll (g:Nat) (x:Ac) (b:Bi) (p:Option Addr) (len cap:Nat) (m:Int) (w:World) (hw:Blk w g (wcs x b p len cap) 252) (hd:deb.Fresh w (g+1) p len cap x.ds) (ha:AMay x):Calls Tryz.prog 185 #[.pointer (some ⟨g,0,none⟩),zI m] w fun e w'=>DPost w g (RollR x m b) e w':=by
 have hgl:=hw.lt;have hmo:=ha.2.2.2.2.1;have HMA:Hid (deb.Mays x.ds):=ha.1;obtain ⟨me,rv,nx,mo,bo,fr,ds⟩:=x;obtain ⟨id,te,de,fe,pr,ch,un⟩:=b;simp only [] at hmo;have HI:Hid (Blk w g #[zI me,zI rv,zI nx,zI mo,zI bo,zI fr,.slice p len cap,zI id,zI te,zI de,zI fe,zI pr,zI ch,zI un] 252):=hw;have HD:Hid (deb.Fresh w (g+1) p len cap ds):=hd;have HIM:Hid (∀ W,Calls Tryz.prog 69 #[zI 0,zI 2399,zI m] W fun e w'=>e = .returned (.bool (decide (0≤m∧m≤2399)))∧w'=W):=fun W=>awithin 0 2399 m W;have q3:w.cell? ⟨g,3,none⟩=some (zI mo):=HI.o.cell 3;clear hw hd ha;by_cases h1:0≤m∧m≤2399
 ·rw [decide_eq_true h1] at HIM;by_cases h2:m<mo
  ·have d2:decide (m<mo)=true:=decide_eq_true h2;have HV:Hid (RollR ⟨me,rv,nx,mo,bo,fr,ds⟩ m ⟨id,te,de,fe,pr,ch,un⟩ ⟨me,rv,nx,mo,bo,fr,ds⟩ ⟨id,te,de,fe,pr,ch,un⟩ 23):=⟨.inl ⟨fun hh=>by have:mo≤m:=hh.2;omega,.inr ⟨h1,h2,rfl⟩,rfl⟩,rfl⟩
   clear h1 h2 hmo;go_enter Tryz.func185,Tryz.ntmps185;go_wp2_with fail;refine (HIM.o _).mono ?_;rintro e w2 ⟨rfl,hw2⟩;subst w2;go_wp2_with fail;go_ret;exact ⟨_,_,p,len,cap,23,rfl,HV.o,HI.o,HD.o,Chg.refl _ _⟩
  ·have d2:decide (m<mo)=false:=decide_eq_false h2;have HRM:Hid (RMay ⟨me,rv,nx,mo,bo,fr,ds⟩ m):=⟨h1,by show mo≤m;omega⟩
   by_cases h3:mo<m
   ·have d3:decide (mo<m)=true:=decide_eq_true h3;have hwr:IntKind.i64.wrap (m - mo)=m - mo:=by rw [IntKind.wrap_i64];omega
    have HAG:Hid (Calls Tryz.prog 201 #[.slice p len cap,zI (m - mo)] w.drew fun e w'=>deb.AgePost w.drew ds (m - mo) e w'):=deb.kage _ p len cap ds (m - mo) (fresh_drew HD.o).came (tar.wf_mid (by omega) (by omega));have HMR:Hid (0≤m - mo∧m - mo≤2400):=⟨by omega,by omega⟩
    have HNE:Hid (¬ m=mo):=by show ¬ _=_;omega
    clear h1 h2 h3;go_enter Tryz.func185,Tryz.ntmps185;go_wp2_with fail;refine (HIM.o _).mono ?_;rintro e w2 ⟨rfl,hw2⟩;subst w2;go_wp2_with fail;clear HIM d2 d3 q3;have q6:w.drew.cell? ⟨g,6,none⟩=some (.slice p len cap):=HI.o.cell 6;refine wp_region_held_drew (S:=fun v=>v.cell? ⟨g,3,none⟩=some (zI mo)) (by kernel_rfl) (show w.drew.cell? _=_ from HI.o.cell 3) (fun hHeld=>?_);refine zqs 0 26 (.pointer (some ⟨g,0,none⟩)) rfl rfl (by kernel_rfl) zid rfl (fun v hv=>by clear hv;go_simp) hHeld ?_;simp only [zq];refine zqs 1 27 (.pointer (some ⟨g,0,none⟩)) rfl rfl (by kernel_rfl) zid rfl (fun v hv=>by clear hv;go_simp) hHeld ?_;simp only [zq];refine zqs 2 28 (.pointer (some ⟨g,0,none⟩)) rfl rfl (by kernel_rfl) zid rfl (fun v hv=>by clear hv;go_simp) hHeld ?_;simp only [zq];refine zqs 3 29 (.pointer (some ⟨g,0,none⟩)) rfl rfl (by kernel_rfl) zid rfl (fun v hv=>by clear hv;go_simp) hHeld ?_;simp only [zq];refine zqs 4 30 (.pointer (some ⟨g,6,none⟩)) rfl rfl (by kernel_rfl) zid rfl (fun v hv=>by clear hv;go_simp) hHeld ?_;simp only [zq];refine zqs 6 32 (zI m) rfl rfl (by kernel_rfl) zid rfl (fun v hv=>by clear hv;go_simp) hHeld ?_;simp only [zq];refine zqs 7 33 (.pointer (some ⟨g,0,none⟩)) rfl rfl (by kernel_rfl) zid rfl (fun v hv=>by clear hv;go_simp) hHeld ?_;simp only [zq];refine zqs 8 34 (.pointer (some ⟨g,0,none⟩)) rfl rfl (by kernel_rfl) zid rfl (fun v hv=>by clear hv;go_simp) hHeld ?_;simp only [zq];refine zqs 9 35 (.pointer (some ⟨g,0,none⟩)) rfl rfl (by kernel_rfl) zid rfl (fun v hv=>by clear hv;go_simp) hHeld ?_;simp only [zq];refine zqs 10 36 (.pointer (some ⟨g,3,none⟩)) rfl rfl (by kernel_rfl) zid rfl (fun v hv=>by clear hv;go_simp) hHeld ?_;simp only [zq];refine zqt 11 37 (zI mo) rfl rfl (by kernel_rfl) zid (Or.inl ⟨by rfl,fun v hv=>by have g0:=hv;clear hv;go_simp⟩) hHeld ?_;simp only [zq];refine zqs 12 38 (zI (m - mo)) rfl rfl (by kernel_rfl) zid rfl (fun v hv=>by clear hv;go_simp) hHeld ?_
    simp only [zq];refine zqo 5 (by kernel_rfl) rfl (fun K hK=>?_);rw [if_pos (by rfl)];refine wp_runOp (v:= .slice p len cap) (w':=w.drew) 31 rfl (by clear hK;go_simp) ?_;refine hK.o _ _ (show w.drew.cell? _=_ from HI.o.cell 3) (fun hHeld=>?_);clear hK K q6;simp only [zq];refine zqo 13 (by kernel_rfl) rfl (fun K hK=>?_);rw [if_pos (by rfl)];refine wp_callOp 39 rfl (by clear hK;go_simp) HAG.o ?_;rintro e w1 ⟨q,n,c,z,f,rfl,hz,hf,hb1⟩;obtain ⟨rfl,hz2⟩:=hz.got HMA.o HMR.o;have HI1:Hid (Blk w1 g #[zI me,zI rv,zI nx,zI mo,zI bo,zI fr,.slice p len cap,zI id,zI te,zI de,zI fe,zI pr,zI ch,zI un] 252):=(Blk.drew HI.o 1).next hb1;have HC1:Hid (Chg w w1 g):=(Chg.of (bel_drew (Below.refl _ _) 1)).trans (.of hb1);have HF1:Hid (deb.Fresh w1 (g+1) q n c z):=hf.low (by show g+1≤w.heap.size;omega);have HZ:Hid (z=deb.ageAll ds (m - mo).toNat):=hz2;refine ⟨_,rfl,hK.o _ _ (HI1.o.cell 3) (fun hHeld=>?_)⟩;clear hK K hz hf hb1 hz2 HAG HI HD;simp only [zq];refine zqs 14 25 (.tuple #[.slice q n c,zI 0]) rfl rfl (by kernel_rfl) zid rfl (fun v hv=>by clear hv;go_simp) hHeld ?_;simp only [zq];refine zqs 15 40 (.slice q n c) rfl rfl (by kernel_rfl) zid rfl (fun v hv=>by clear hv;go_simp) hHeld ?_;simp only [zq];refine zqs 16 41 (zI 0) rfl rfl (by kernel_rfl) zid rfl (fun v hv=>by clear hv;go_simp) hHeld ?_;simp only [zq];refine zqs 17 42 (.pointer (some ⟨g,0,none⟩)) rfl rfl (by kernel_rfl) zid rfl (fun v hv=>by clear hv;go_simp) hHeld ?_;simp only [zq];refine zqs 18 43 (.pointer (some ⟨g,0,none⟩)) rfl rfl (by kernel_rfl) zid rfl (fun v hv=>by clear hv;go_simp) hHeld ?_;simp only [zq];refine zqs 19 44 (.pointer (some ⟨g,6,none⟩)) rfl rfl (by kernel_rfl) zid rfl (fun v hv=>by clear hv;go_simp) hHeld ?_;simp only [zq];refine zqo 20 (by kernel_rfl) rfl (fun K hK=>?_);rw [if_pos (by rfl)];refine wp_letOp1 49 _ _ rfl g 6 rfl (.slice q n c) rfl rfl (by kernel_rfl) rfl #[zI me,zI rv,zI nx,zI mo,zI bo,zI fr,.slice p len cap,zI id,zI te,zI de,zI fe,zI pr,zI ch,zI un] 252 HI1.o (by simp) rfl ?_
    intro W2 hU;have HI2:Hid (Blk W2 g #[zI me,zI rv,zI nx,zI mo,zI bo,zI fr,.slice q n c,zI id,zI te,zI de,zI fe,zI pr,zI ch,zI un] 252):=hU.blk;have HC2:Hid (Chg w W2 g):=HC1.o.trans (.upd hU);have HF2:Hid (deb.Fresh W2 (g+1) q n c z):=fresh_chg HF1.o (.upd hU);clear hU HF1 HC1;refine hK.o _ _ (HI2.o.cell 3) (fun hHeld=>?_);clear hK K HI1;refine wpAnyH_done (by kernel_rfl) ?_ _;clear hHeld;go_wp2_with (first | (refine wp_let1 rfl 3 _ _ rfl g 3 rfl .i64 m rfl (by kernel_rfl) #[zI me,zI rv,zI nx,zI mo,zI bo,zI fr,.slice q n c,zI id,zI te,zI de,zI fe,zI pr,zI ch,zI un] 252 HI2.o (by simp) ?_) | fail)
    intro W3 hU;have HI3:Hid (Blk W3 g #[zI me,zI rv,zI nx,zI m,zI bo,zI fr,.slice q n c,zI id,zI te,zI de,zI fe,zI pr,zI ch,zI un] 252):=hU.blk;have HC3:Hid (Chg w W3 g):=HC2.o.trans (.upd hU);have HF3:Hid (deb.Fresh W3 (g+1) q n c z):=fresh_chg HF2.o (.upd hU);clear hU HF2 HC2 HI2;go_wp2_with (first | (refine wp_let1 rfl 3 _ _ rfl g 4 rfl .i64 0 rfl (by kernel_rfl) #[zI me,zI rv,zI nx,zI m,zI bo,zI fr,.slice q n c,zI id,zI te,zI de,zI fe,zI pr,zI ch,zI un] 252 HI3.o (by simp) ?_) | fail)
    intro W4 hU;have HI4:Hid (Blk W4 g #[zI me,zI rv,zI nx,zI m,zI 0,zI fr,.slice q n c,zI id,zI te,zI de,zI fe,zI pr,zI ch,zI un] 252):=hU.blk;have HC4:Hid (Chg w W4 g):=HC3.o.trans (.upd hU);have HF4:Hid (deb.Fresh W4 (g+1) q n c z):=fresh_chg HF3.o (.upd hU);have HV:Hid (RollR ⟨me,rv,nx,mo,bo,fr,ds⟩ m ⟨id,te,de,fe,pr,ch,un⟩ ⟨me,rv,nx,m,0,fr,z⟩ ⟨id,te,de,fe,pr,ch,un⟩ 0):=⟨.inr ⟨HRM.o,by unfold rolled;rw [if_neg HNE.o,HZ.o],rfl⟩,rfl⟩
    clear hU HF3 HC3 HI3;go_wp2_with fail;go_ret;exact ⟨⟨me,rv,nx,m,0,fr,z⟩,_,q,n,c,0,rfl,HV.o,HI4.o,HF4.o,HC4.o⟩
   ·have d3:decide (mo<m)=false:=decide_eq_false h3;have HV:Hid (RollR ⟨me,rv,nx,mo,bo,fr,ds⟩ m ⟨id,te,de,fe,pr,ch,un⟩ ⟨me,rv,nx,mo,bo,fr,ds⟩ ⟨id,te,de,fe,pr,ch,un⟩ 0):=⟨.inr ⟨HRM.o,by unfold rolled;rw [if_pos (by show m=mo;omega)],rfl⟩,rfl⟩
    clear h1 h2 h3 hmo;go_enter Tryz.func185,Tryz.ntmps185;go_wp2_with fail;refine (HIM.o _).mono ?_;rintro e w2 ⟨rfl,hw2⟩;subst w2;go_wp2_with fail;go_ret;exact ⟨_,_,p,len,cap,0,rfl,HV.o,HI.o,HD.o,Chg.refl _ _⟩
 ·rw [decide_eq_false h1] at HIM;have HV:Hid (RollR ⟨me,rv,nx,mo,bo,fr,ds⟩ m ⟨id,te,de,fe,pr,ch,un⟩ ⟨me,rv,nx,mo,bo,fr,ds⟩ ⟨id,te,de,fe,pr,ch,un⟩ 2):=⟨.inl ⟨fun hh=>h1 hh.1,.inl ⟨h1,rfl⟩,rfl⟩,rfl⟩
  clear h1 hmo q3;go_enter Tryz.func185,Tryz.ntmps185;go_wp2_with fail;refine (HIM.o _).mono ?_;rintro e w2 ⟨rfl,hw2⟩;subst w2;go_wp2_with fail;go_ret;exact ⟨_,_,p,len,cap,2,rfl,HV.o,HI.o,HD.o,Chg.refl _ _⟩
end acc
end Go.Proofs.YtnpblpbohcegoaaGreatDoor
