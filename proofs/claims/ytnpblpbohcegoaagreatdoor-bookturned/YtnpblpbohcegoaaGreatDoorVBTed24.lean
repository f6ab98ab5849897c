import Derived.Test.YtnpblpbohcegoaaGreatDoorVBTed19
import Derived.Test.YtnpblpbohcegoaaGreatDoorVBTed23
set_option linter.unusedVariables false
set_option linter.unusedSimpArgs false
set_option maxHeartbeats 4000000
set_option maxRecDepth 100000
namespace Go.Proofs.YtnpblpbohcegoaaGreatDoor
namespace disk
open Go.RowKit cell
set_option maxRecDepth 100000
theorem lr_cells {T : TypeId} {w : World} {base : Nat} {v : Value} {l : List Sli} (h : Lr T w base v l) : v.cells = #[v] := by
 obtain ⟨a, cap, rfl⟩ := h.len
 rfl
theorem lr_one {T : TypeId} {w : World} {base : Nat} {v : Value} {l : List Sli} (h : Lr T w base v l) : v.oneCell' = true := by
 obtain ⟨a, cap, rfl⟩ := h.len
 rfl
set_option maxHeartbeats 4000000 in
theorem put_record (w : World) (L : Nat) (V : Value) (sl : List Sli) (zs : List (List Int)) (R : List Int) (b off m : Nat) (W : World) (h : Box w L V sl zs W) (hr : RowU W (some ⟨b, off, none⟩) m R) (h1 : 1 ≤ m) (h2 : m ≤ 64) (hs : sl.length ≤ 1000000) :
  Calls Tryz.prog 63 #[.slice (some ⟨b, off, none⟩) m m, .pointer (some ⟨L, 0, none⟩)] W fun e w' => e = .returned (.tuple #[]) ∧ ∃ V' sl', Box w L V' sl' (zs ++ [R]) w' := by
 have HC : Hid (Calls Tryz.prog 64 #[.slice (some ⟨b, off, none⟩) m m] W.drew fun e w' => GaveU W.drew R e w') := clone_any _ m m R _ hr (by omega)
 have HBU0 : Hid (Box w L V sl zs W.drew) := h.next (Below.refl _ _).drew
 have HB0 : Hid (Box w L V sl zs W.drew) := HBU0.out
 have HRL : Hid (R.length = m) := hr.1
 have HM1 : Hid (0 < m) := h1
 have HM6 : Hid (m ≤ 100000) := Nat.le_trans h2 (by decide)
 have HS6 : Hid (sl.length ≤ 1000000) := hs
 clear hr h h1 h2 hs
 go_enter Tryz.func63, Tryz.ntmps63
 refine wp_region_held_drew (S := fun v => True) (by kernel_rfl) trivial (fun hHeld => ?_)
 generalize W.drew = U0 at *
 refine zqs 1 4 (.slice (some ⟨b, off, none⟩) m m) rfl rfl (by kernel_rfl) (fun _ _ _ h => h) rfl (fun v hv => by clear hv; go_simp) hHeld ?_
 simp only [Act.put, zqa, zqb, zqc]
 refine wpAnyH_ready (rs := [0, 2]) (by kernel_rfl) (by simp) (AllReadyH.cons rfl (fun K hK => ?_) (AllReadyH.cons rfl (fun K hK => ?_) AllReadyH.nil))
 ·rw [if_pos (by rfl)]
  have cU0 : U0.cell? ⟨L, 0, none⟩ = some V := HBU0.out.blk.cell 0
  refine wp_runOp (v := V) (w' := U0) 3 rfl (by clear hK; go_simp) ?_
  refine hK.out _ _ trivial (fun hHeld => ?_)
  clear hK cU0
  simp only [Act.put, zqa, zqb, zqc]
  refine zqo 2 (by kernel_rfl) rfl (fun K hK => ?_)
  rw [if_pos (by rfl)]
  refine wp_callOp 5 rfl (by clear hK; go_simp) (HC.out) ?_
  rintro e U1 ⟨v5, rfl, hws, hb⟩
  obtain ⟨a5, cap5, rfl, hrow, hnl, hcp⟩ := Ws.row hws
  rw [HRL.out] at hrow hcp ⊢
  obtain ⟨g, o5, rfl, hg5, hc5⟩ := hrow.at HM1.out
  have HCP : Hid (m ≤ cap5) := hcp
  have HG : Hid (U0.heap.size ≤ g) := (World.ownsRow.lt hws g rfl).1
  have HRU1 : Hid (RowU U1 (some ⟨g, o5, none⟩) m R ∧ g < U1.heap.size) := ⟨hrow, hg5⟩
  have HBU1 : Hid (Box w L V sl zs U1) := HBU0.out.next hb
  refine ⟨_, rfl, hK.out _ _ trivial (fun hHeld => ?_)⟩
  clear hK HC hws hb hnl hcp hc5 hg5 hrow HBU0
  simp only [Act.put, zqa, zqb, zqc]
  have HNE : Hid (some g ≠ V.ownBlock) := fun e => by have := (World.ownsRow.lt HB0.out.row g e.symm).2; have := HG.out; omega
  have HGL : Hid (L + 1 ≤ g) := by have := HB0.out.blk.lt; have := HG.out; show _ ≤ _; omega
  refine zqo 3 (by kernel_rfl) rfl (fun K hK => ?_)
  rw [if_pos (by rfl)]
  have hb : Below U1.heap.size U1 (U1.alloc (.cells #[.slice (some ⟨g, o5, none⟩) m cap5] 25)) := (Below.refl _ _).alloc (Nat.le_refl _) _
  have HBU2 : Hid (Box w L V sl zs (U1.alloc (.cells #[.slice (some ⟨g, o5, none⟩) m cap5] 25))) := HBU1.out.next hb
  have HRU2 : Hid (RowU (U1.alloc (.cells #[.slice (some ⟨g, o5, none⟩) m cap5] 25)) (some ⟨g, o5, none⟩) m R ∧ g < (U1.alloc (.cells #[.slice (some ⟨g, o5, none⟩) m cap5] 25)).heap.size) := ⟨HRU1.out.1.below hb, Nat.lt_of_lt_of_le HRU1.out.2 hb.size⟩
  have HX : Hid ((U1.alloc (.cells #[.slice (some ⟨g, o5, none⟩) m cap5] 25)).cell? ⟨U1.heap.size, 0, none⟩ = some (.slice (some ⟨g, o5, none⟩) m cap5)) := (Blk.new _ _ _).cell 0
  clear hb
  refine wp_runOp (v := .slice (some ⟨U1.heap.size, 0, none⟩) 1 1) (w' := (U1.alloc (.cells #[.slice (some ⟨g, o5, none⟩) m cap5] 25))) 6 rfl (by clear hK; go_simp) ?_
  refine hK.out _ _ trivial (fun hHeld => ?_)
  clear hK HBU1 HRU1
  simp only [Act.put, zqa, zqb, zqc]
  generalize U1.heap.size = G at *
  generalize (U1.alloc (.cells #[.slice (some ⟨g, o5, none⟩) m cap5] 25)) = U2 at *
  refine zqo 4 (by kernel_rfl) rfl (fun K hK => ?_)
  refine step_sli sliT rfl _ _ rfl (L + 1) G V sl ⟨some ⟨g, o5, none⟩, m, cap5⟩ rfl rfl HBU2.out.row HX.out HS6.out (HBU2.out.blk.lt) ?_
  intro v7 W3 h3 hg3 ho3
  refine hK.out _ _ trivial (fun hHeld => ?_)
  clear hK
  simp only [Act.put, zqa, zqb, zqc]
  refine zqo 5 (by kernel_rfl) rfl (fun K hK => ?_)
  rw [if_pos (by rfl)]
  refine wp_letOne 104 _ _ rfl L rfl v7 rfl (lr_cells h3) (by kernel_rfl) (lr_one h3) V 104 (HBU2.out.kept hg3) rfl ?_
  intro W4 hU
  have HF : Hid (Box w L v7 (sl ++ [⟨some ⟨g, o5, none⟩, m, cap5⟩]) (zs ++ [R]) W4) := box_step HBU2.out rfl HRU2.out.2 HNE.out HGL.out HRU2.out.1 ⟨HM6.out, HCP.out, fun h => by cases h⟩ h3 hg3 ho3 hU
  refine hK.out _ _ trivial (fun hHeld => ?_)
  clear hK hU h3 hg3 ho3
  refine wpAnyH_done (by kernel_rfl) ?_ _
  clear hHeld
  go_wp2_with fail
  go_end0
  exact ⟨rfl, _, _, HF.out⟩
 ·rw [if_pos (by rfl)]
  refine wp_callOp 5 rfl (by clear hK; go_simp) (HC.out) ?_
  rintro e U1 ⟨v5, rfl, hws, hb⟩
  obtain ⟨a5, cap5, rfl, hrow, hnl, hcp⟩ := Ws.row hws
  rw [HRL.out] at hrow hcp ⊢
  obtain ⟨g, o5, rfl, hg5, hc5⟩ := hrow.at HM1.out
  have HCP : Hid (m ≤ cap5) := hcp
  have HG : Hid (U0.heap.size ≤ g) := (World.ownsRow.lt hws g rfl).1
  have HRU1 : Hid (RowU U1 (some ⟨g, o5, none⟩) m R ∧ g < U1.heap.size) := ⟨hrow, hg5⟩
  have HBU1 : Hid (Box w L V sl zs U1) := HBU0.out.next hb
  refine ⟨_, rfl, hK.out _ _ trivial (fun hHeld => ?_)⟩
  clear hK HC hws hb hnl hcp hc5 hg5 hrow HBU0
  simp only [Act.put, zqa, zqb, zqc]
  have HNE : Hid (some g ≠ V.ownBlock) := fun e => by have := (World.ownsRow.lt HB0.out.row g e.symm).2; have := HG.out; omega
  have HGL : Hid (L + 1 ≤ g) := by have := HB0.out.blk.lt; have := HG.out; show _ ≤ _; omega
  refine wpAnyH_ready (rs := [0, 3]) (by kernel_rfl) (by simp) (AllReadyH.cons rfl (fun K hK => ?_) (AllReadyH.cons rfl (fun K hK => ?_) AllReadyH.nil))
  ·rw [if_pos (by rfl)]
   have cU1 : U1.cell? ⟨L, 0, none⟩ = some V := HBU1.out.blk.cell 0
   refine wp_runOp (v := V) (w' := U1) 3 rfl (by clear hK; go_simp) ?_
   refine hK.out _ _ trivial (fun hHeld => ?_)
   clear hK cU1
   simp only [Act.put, zqa, zqb, zqc]
   refine zqo 3 (by kernel_rfl) rfl (fun K hK => ?_)
   rw [if_pos (by rfl)]
   have hb : Below U1.heap.size U1 (U1.alloc (.cells #[.slice (some ⟨g, o5, none⟩) m cap5] 25)) := (Below.refl _ _).alloc (Nat.le_refl _) _
   have HBU2 : Hid (Box w L V sl zs (U1.alloc (.cells #[.slice (some ⟨g, o5, none⟩) m cap5] 25))) := HBU1.out.next hb
   have HRU2 : Hid (RowU (U1.alloc (.cells #[.slice (some ⟨g, o5, none⟩) m cap5] 25)) (some ⟨g, o5, none⟩) m R ∧ g < (U1.alloc (.cells #[.slice (some ⟨g, o5, none⟩) m cap5] 25)).heap.size) := ⟨HRU1.out.1.below hb, Nat.lt_of_lt_of_le HRU1.out.2 hb.size⟩
   have HX : Hid ((U1.alloc (.cells #[.slice (some ⟨g, o5, none⟩) m cap5] 25)).cell? ⟨U1.heap.size, 0, none⟩ = some (.slice (some ⟨g, o5, none⟩) m cap5)) := (Blk.new _ _ _).cell 0
   clear hb
   refine wp_runOp (v := .slice (some ⟨U1.heap.size, 0, none⟩) 1 1) (w' := (U1.alloc (.cells #[.slice (some ⟨g, o5, none⟩) m cap5] 25))) 6 rfl (by clear hK; go_simp) ?_
   refine hK.out _ _ trivial (fun hHeld => ?_)
   clear hK HBU1 HRU1
   simp only [Act.put, zqa, zqb, zqc]
   generalize U1.heap.size = G at *
   generalize (U1.alloc (.cells #[.slice (some ⟨g, o5, none⟩) m cap5] 25)) = U2 at *
   refine zqo 4 (by kernel_rfl) rfl (fun K hK => ?_)
   refine step_sli sliT rfl _ _ rfl (L + 1) G V sl ⟨some ⟨g, o5, none⟩, m, cap5⟩ rfl rfl HBU2.out.row HX.out HS6.out (HBU2.out.blk.lt) ?_
   intro v7 W3 h3 hg3 ho3
   refine hK.out _ _ trivial (fun hHeld => ?_)
   clear hK
   simp only [Act.put, zqa, zqb, zqc]
   refine zqo 5 (by kernel_rfl) rfl (fun K hK => ?_)
   rw [if_pos (by rfl)]
   refine wp_letOne 104 _ _ rfl L rfl v7 rfl (lr_cells h3) (by kernel_rfl) (lr_one h3) V 104 (HBU2.out.kept hg3) rfl ?_
   intro W4 hU
   have HF : Hid (Box w L v7 (sl ++ [⟨some ⟨g, o5, none⟩, m, cap5⟩]) (zs ++ [R]) W4) := box_step HBU2.out rfl HRU2.out.2 HNE.out HGL.out HRU2.out.1 ⟨HM6.out, HCP.out, fun h => by cases h⟩ h3 hg3 ho3 hU
   refine hK.out _ _ trivial (fun hHeld => ?_)
   clear hK hU h3 hg3 ho3
   refine wpAnyH_done (by kernel_rfl) ?_ _
   clear hHeld
   go_wp2_with fail
   go_end0
   exact ⟨rfl, _, _, HF.out⟩
  ·rw [if_pos (by rfl)]
   have hb : Below U1.heap.size U1 (U1.alloc (.cells #[.slice (some ⟨g, o5, none⟩) m cap5] 25)) := (Below.refl _ _).alloc (Nat.le_refl _) _
   have HBU2 : Hid (Box w L V sl zs (U1.alloc (.cells #[.slice (some ⟨g, o5, none⟩) m cap5] 25))) := HBU1.out.next hb
   have HRU2 : Hid (RowU (U1.alloc (.cells #[.slice (some ⟨g, o5, none⟩) m cap5] 25)) (some ⟨g, o5, none⟩) m R ∧ g < (U1.alloc (.cells #[.slice (some ⟨g, o5, none⟩) m cap5] 25)).heap.size) := ⟨HRU1.out.1.below hb, Nat.lt_of_lt_of_le HRU1.out.2 hb.size⟩
   have HX : Hid ((U1.alloc (.cells #[.slice (some ⟨g, o5, none⟩) m cap5] 25)).cell? ⟨U1.heap.size, 0, none⟩ = some (.slice (some ⟨g, o5, none⟩) m cap5)) := (Blk.new _ _ _).cell 0
   clear hb
   refine wp_runOp (v := .slice (some ⟨U1.heap.size, 0, none⟩) 1 1) (w' := (U1.alloc (.cells #[.slice (some ⟨g, o5, none⟩) m cap5] 25))) 6 rfl (by clear hK; go_simp) ?_
   refine hK.out _ _ trivial (fun hHeld => ?_)
   clear hK HBU1 HRU1
   simp only [Act.put, zqa, zqb, zqc]
   generalize U1.heap.size = G at *
   generalize (U1.alloc (.cells #[.slice (some ⟨g, o5, none⟩) m cap5] 25)) = U2 at *
   refine zqo 0 (by kernel_rfl) rfl (fun K hK => ?_)
   rw [if_pos (by rfl)]
   have cU2 : U2.cell? ⟨L, 0, none⟩ = some V := HBU2.out.blk.cell 0
   refine wp_runOp (v := V) (w' := U2) 3 rfl (by clear hK; go_simp) ?_
   refine hK.out _ _ trivial (fun hHeld => ?_)
   clear hK cU2
   simp only [Act.put, zqa, zqb, zqc]
   refine zqo 4 (by kernel_rfl) rfl (fun K hK => ?_)
   refine step_sli sliT rfl _ _ rfl (L + 1) G V sl ⟨some ⟨g, o5, none⟩, m, cap5⟩ rfl rfl HBU2.out.row HX.out HS6.out (HBU2.out.blk.lt) ?_
   intro v7 W3 h3 hg3 ho3
   refine hK.out _ _ trivial (fun hHeld => ?_)
   clear hK
   simp only [Act.put, zqa, zqb, zqc]
   refine zqo 5 (by kernel_rfl) rfl (fun K hK => ?_)
   rw [if_pos (by rfl)]
   refine wp_letOne 104 _ _ rfl L rfl v7 rfl (lr_cells h3) (by kernel_rfl) (lr_one h3) V 104 (HBU2.out.kept hg3) rfl ?_
   intro W4 hU
   have HF : Hid (Box w L v7 (sl ++ [⟨some ⟨g, o5, none⟩, m, cap5⟩]) (zs ++ [R]) W4) := box_step HBU2.out rfl HRU2.out.2 HNE.out HGL.out HRU2.out.1 ⟨HM6.out, HCP.out, fun h => by cases h⟩ h3 hg3 ho3 hU
   refine hK.out _ _ trivial (fun hHeld => ?_)
   clear hK hU h3 hg3 ho3
   refine wpAnyH_done (by kernel_rfl) ?_ _
   clear hHeld
   go_wp2_with fail
   go_end0
   exact ⟨rfl, _, _, HF.out⟩
end disk
namespace acc
open tar (Du du0 Came RowD Ld PairT)
open Go.RowKit
theorem pgrant (g:Nat) (x:Ac) (p:Option Addr) (len cap:Nat) (t:Tm) (pt:Option Addr) (lt ct:Nat) (m:Int) (w:World) (hw:Blk w g (wcs x bi0 p len cap) 252) (hd:deb.Fresh w (g+1) p len cap x.ds) (ha:AMay x) (ht:Came w pt lt ct t.ts) (hwf:wf4 t) (hfar:Far pt lt g):Calls Tryz.prog 121 #[.pointer (some ⟨g,0,none⟩),.agg #[.slice pt lt ct,zI t.ff,zI t.fb,zI t.db,zI t.al],zI m] w fun e w'=>DPost w g (Or0 (GrantIs x t m)) e w':=by
 have hgl:=hw.lt;have H0B:Hid (Below w.heap.size w (w.alloc (.cells #[.slice pt lt ct,zI t.ff,zI t.fb,zI t.db,zI t.al] 24))):=(Below.refl w.heap.size w).alloc (by simp) _;have H0C:Hid (Chg w (w.alloc (.cells #[.slice pt lt ct,zI t.ff,zI t.fb,zI t.db,zI t.al] 24)) g):= .of H0B.o;have H0t:Hid (Blk (w.alloc (.cells #[.slice pt lt ct,zI t.ff,zI t.fb,zI t.db,zI t.al] 24)) (w.heap.size) #[.slice pt lt ct,zI t.ff,zI t.fb,zI t.db,zI t.al] 24):=Blk.new w _ _;have H0g:Hid (Blk (w.alloc (.cells #[.slice pt lt ct,zI t.ff,zI t.fb,zI t.db,zI t.al] 24)) g (wcs x bi0 p len cap) 252):=hw.alloc _;have H0D:Hid (deb.Fresh (w.alloc (.cells #[.slice pt lt ct,zI t.ff,zI t.fb,zI t.db,zI t.al] 24)) (g+1) p len cap x.ds):=hd.below H0B.o;have H0T:Hid (Came (w.alloc (.cells #[.slice pt lt ct,zI t.ff,zI t.fb,zI t.db,zI t.al] 24)) pt lt ct t.ts):=ht.below H0B.o;have HFAR:Hid (Far pt lt g):=hfar;have HBG:Hid (∀ W,Blk W g (wcs x bi0 p len cap) 252→deb.Fresh W (g+1) p len cap x.ds→Came W pt lt ct t.ts→Calls Tryz.prog 160 #[.pointer (some ⟨g,0,none⟩),.agg #[.slice pt lt ct,zI t.ff,zI t.fb,zI t.db,zI t.al],zI m] W fun e w'=>DPost W g (BeginR x t m bi0) e w'):=fun W h1 h2 h3=>pbegin g x p len cap t pt lt ct bi0 m W h1 h2 ha h3 hwf hfar;have HM:Hid (AMay x):=ha;have hnx:=ha.2.2.2.1;clear hw hd ht hwf hfar ha H0B;generalize hWW:(w.alloc (.cells #[.slice pt lt ct,zI t.ff,zI t.fb,zI t.db,zI t.al] 24))=W0 at *;have HWW:Hid ((w.alloc (.cells #[.slice pt lt ct,zI t.ff,zI t.fb,zI t.db,zI t.al] 24))=W0):=hWW;clear hWW;go_enter Tryz.func121,Tryz.ntmps121;go_upto_region 1 with fail
 rw [HWW.o];clear HWW;go_wp2_with (first | (refine zqw rfl rfl rfl H0t zqu24 ?_) | fail)
 refine (HBG.o _ H0g.o H0D.o H0T.o).mono ?_;rintro e w1 ⟨y,b2,q,n,c,f,rfl,⟨hr,hb2⟩,hi1,hf1,hc1⟩;subst hb2;have H1D:Hid (deb.Fresh w1 (g+1) q n c y.ds):=hf1;have H1g:Hid (Blk w1 g #[zI y.me,zI y.rv,zI y.nx,zI y.mo,zI y.bo,zI y.fr,.slice q n c,zI 0,zI 0,zI 0,zI 0,zI 0,zI 0,zI 0] 252):=hi1;have H1t:Hid (Blk w1 (w.heap.size) #[.slice pt lt ct,zI t.ff,zI t.fb,zI t.db,zI t.al] 24):=Chg.keep (g:=g) (hc1) H0t.o (by omega);have H1T:Hid (Came w1 pt lt ct t.ts):=came_chg H0T.o (hc1) HFAR.o;have H1C:Hid (Chg w w1 g):=H0C.o.trans (hc1);clear H0C H0g H0t H0T hf1 hc1 hi1 H0D HBG;by_cases h0:f=0
 ·skip
  subst h0
  have hrr:TRight t∧RMay x m∧y=rolled x m:=by
   rcases hr with ⟨h1,h2,_⟩ | ⟨_,_,h3,_⟩ | ⟨h1,h2,h3,_⟩
   ·exact absurd (h2.ok.1 rfl) h1
   ·exact absurd rfl h3.ne
   ·exact ⟨h1,h2,h3⟩
  have HRY:Hid (Ready x t m):=⟨HM.o,hrr.1,hrr.2.1⟩
  have HT:Hid (TRight t):=hrr.1;have HBR:Hid (y=rolled x m):=hrr.2.2;have hbs:=rolled_same x m;rw [← hrr.2.2] at hbs;have hbo:=(rolled_may HM.o hrr.2.1).2.2.2.2.2.1;rw [← hrr.2.2] at hbo;have hdm:deb.Mays y.ds:=by rw [hrr.2.2];exact (rolled_may HM.o hrr.2.1).1
  have HYN:Hid (y.nx=x.nx):=hbs.2.2.1;have hyx:1≤y.nx∧y.nx≤1048576:=by rw [hbs.2.2.1];exact hnx
  have HBS:Hid (y.me=x.me∧y.rv=x.rv∧y.nx=x.nx∧y.mo=m∧y.fr=x.fr):=hbs;clear hrr hr hbs;by_cases h5:t.al=0
  ·have d5:(t.al == 0)=true:=by simpa using h5
   have HV:Hid (Or0 (GrantIs x t m) y bi0 22):= .inl ⟨by decide,.inr (.inl ⟨HRY.o,h5,rfl,rfl,rfl⟩)⟩;clear h5;have qt4:w1.cell? ⟨w.heap.size,4,none⟩=some (zI t.al):=H1t.o.cell 4;go_wp2_with fail;go_ret;exact ⟨y,bi0,q,n,c,22,rfl,HV.o,H1g.o,H1D.o,H1C.o⟩
  ·have d5:(t.al == 0)=false:=by simpa using h5
   by_cases h6:x.fr=m
   ·have d6:(y.fr == m)=true:=by simp;rw [HBS.o.2.2.2.2];exact h6
    have HV:Hid (Or0 (GrantIs x t m) y bi0 21):= .inl ⟨by decide,.inr (.inr (.inl ⟨HRY.o,h5,h6,rfl,rfl,rfl⟩))⟩;clear h5 h6;have qt4:w1.cell? ⟨w.heap.size,4,none⟩=some (zI t.al):=H1t.o.cell 4;have qg5:w1.cell? ⟨g,5,none⟩=some (zI y.fr):=H1g.o.cell 5;go_wp2_with fail;go_ret;exact ⟨y,bi0,q,n,c,21,rfl,HV.o,H1g.o,H1D.o,H1C.o⟩
   ·have d6:(y.fr == m)=false:=by simp;rw [HBS.o.2.2.2.2];exact h6
    have qt4:w1.cell? ⟨w.heap.size,4,none⟩=some (zI t.al):=H1t.o.cell 4;have qg5:w1.cell? ⟨g,5,none⟩=some (zI y.fr):=H1g.o.cell 5;go_wp2_with (first | (refine wp_let1 rfl 3 _ _ rfl g 5 rfl .i64 m rfl (by kernel_rfl) #[zI y.me,zI y.rv,zI y.nx,zI y.mo,zI y.bo,zI y.fr,.slice q n c,zI 0,zI 0,zI 0,zI 0,zI 0,zI 0,zI 0] 252 H1g.o (by simp) ?_) | fail)
    intro W2 hU;have H2g:Hid (Blk W2 g #[zI y.me,zI y.rv,zI y.nx,zI y.mo,zI y.bo,zI m,.slice q n c,zI 0,zI 0,zI 0,zI 0,zI 0,zI 0,zI 0] 252):=hU.blk;have H2t:Hid (Blk W2 (w.heap.size) #[.slice pt lt ct,zI t.ff,zI t.fb,zI t.db,zI t.al] 24):=Chg.keep (g:=g) (.upd hU) H1t.o (by omega);have H2T:Hid (Came W2 pt lt ct t.ts):=came_chg H1T.o (.upd hU) HFAR.o;have H2D:Hid (deb.Fresh W2 (g+1) q n c y.ds):=fresh_chg H1D.o (.upd hU);have H2C:Hid (Chg w W2 g):=H1C.o.trans (.upd hU);clear H1C H1g H1t H1T H1D hU qt4 qg5 d5 d6;have qt4:W2.cell? ⟨w.heap.size,4,none⟩=some (zI t.al):=H2t.o.cell 4;go_wp2_with (first | (refine wp_let1 rfl 3 _ _ rfl g 13 rfl .i64 t.al rfl (by kernel_rfl) #[zI y.me,zI y.rv,zI y.nx,zI y.mo,zI y.bo,zI m,.slice q n c,zI 0,zI 0,zI 0,zI 0,zI 0,zI 0,zI 0] 252 H2g.o (by simp) ?_) | fail)
    intro W3 hU;have H3g:Hid (Blk W3 g #[zI y.me,zI y.rv,zI y.nx,zI y.mo,zI y.bo,zI m,.slice q n c,zI 0,zI 0,zI 0,zI 0,zI 0,zI 0,zI t.al] 252):=hU.blk;have H3t:Hid (Blk W3 (w.heap.size) #[.slice pt lt ct,zI t.ff,zI t.fb,zI t.db,zI t.al] 24):=Chg.keep (g:=g) (.upd hU) H2t.o (by omega);have H3T:Hid (Came W3 pt lt ct t.ts):=came_chg H2T.o (.upd hU) HFAR.o;have H3D:Hid (deb.Fresh W3 (g+1) q n c y.ds):=fresh_chg H2D.o (.upd hU);have H3C:Hid (Chg w W3 g):=H2C.o.trans (.upd hU);clear H2C H2g H2t H2T H2D hU qt4
    have HGV:Hid (⟨y.me,y.rv,y.nx+1,y.mo,y.bo,m,y.ds⟩=granted x m):=by
     show _=_;unfold granted;rw [← HBR.o,HBS.o.1,HBS.o.2.1,HBS.o.2.2.1,HBS.o.2.2.2.1]
    have HNU:Hid (Calls Tryz.prog 161 #[.pointer (some ⟨g,0,none⟩)] W3 fun e w'=>NumPost W3 g ⟨y.me,y.rv,y.nx,y.mo,y.bo,m,y.ds⟩ ⟨0,0,0,0,0,0,t.al⟩ q n c e w'):=pnum g ⟨y.me,y.rv,y.nx,y.mo,y.bo,m,y.ds⟩ ⟨0,0,0,0,0,0,t.al⟩ q n c W3 H3g.o hyx;go_wp2_with fail;refine HNU.o.mono ?_;rintro e wN ⟨hcN,⟨hx,rfl,hiN⟩ | ⟨hx,rfl,hiN⟩⟩
    ·have HV:Hid (Or0 (GrantIs x t m) ⟨y.me,y.rv,y.nx,y.mo,y.bo,m,y.ds⟩ ⟨0,0,0,0,0,0,t.al⟩ 20):= .inl ⟨by decide,.inr (.inr (.inr (.inl ⟨HRY.o,h5,h6,by rw [← HYN.o];exact hx,rfl,rfl,rfl⟩)))⟩;have HDN:=fresh_chg H3D.o hcN;have HCN:=H3C.o.trans hcN;clear HNU hx;go_wp2_with fail;go_ret;exact ⟨⟨y.me,y.rv,y.nx,y.mo,y.bo,m,y.ds⟩,⟨0,0,0,0,0,0,t.al⟩,q,n,c,20,rfl,HV.o,hiN,HDN,HCN⟩
    ·have HV:Hid (Or0 (GrantIs x t m) ⟨y.me,y.rv,y.nx+1,y.mo,y.bo,m,y.ds⟩ ⟨y.nx,0,0,0,0,0,t.al⟩ 0):= .inr ⟨rfl,.inr (.inr (.inr (.inr ⟨HRY.o,h5,h6,by rw [← HYN.o];exact hx,rfl,HGV.o,by rw [HYN.o]⟩)))⟩;have HDN:=fresh_chg H3D.o hcN;have HCN:=H3C.o.trans hcN;clear HNU hx;go_wp2_with fail;go_ret;exact ⟨⟨y.me,y.rv,y.nx+1,y.mo,y.bo,m,y.ds⟩,⟨y.nx,0,0,0,0,0,t.al⟩,q,n,c,0,rfl,HV.o,hiN,HDN,HCN⟩
 ·skip
  have d0:(f != 0)=true:=by simpa using h0
  have HV:Hid (Or0 (GrantIs x t m) y bi0 f):=by
   refine .inl ⟨h0,.inl ⟨?_,rfl,rfl⟩⟩;rcases hr with ⟨h1,h2,_⟩ | ⟨h1,h2,h3,_⟩ | ⟨_,_,_,h1⟩
   ·exact .inr (.inl ⟨HM.o,h1,h2⟩)
   ·exact .inr (.inr ⟨HM.o,h1,h2,h3⟩)
   ·exact absurd h1 h0
  clear hr h0;go_wp2_with fail;go_ret;exact ⟨y,bi0,q,n,c,f,rfl,HV.o,H1g.o,H1D.o,H1C.o⟩
theorem pgrant1 (B0 B1 g:Nat) (x:Ac) (p:Option Addr) (len cap:Nat) (t:Tm) (pt:Option Addr) (lt ct:Nat) (m:Int) (w:World) (hB0:Blk w B0 #[.slice pt lt ct,zI t.ff,zI t.fb,zI t.db,zI t.al] 24) (hB1:Blk w B1 #[zI m] 3) (hw:Blk w g (wcs x bi0 p len cap) 252) (hd:deb.Fresh w (g+1) p len cap x.ds) (ha:AMay x) (ht:Came w pt lt ct t.ts) (hwf:wf4 t) (hfar:Far pt lt g):Calls Tryz.prog 120 #[.pointer (some ⟨g,0,none⟩),.pointer (some ⟨B0,0,none⟩),.pointer (some ⟨B1,0,none⟩)] w fun e w'=>WPost w g (Or0 (GrantIs x t m)) e w':=by
 have HIN:Hid (Calls Tryz.prog 121 #[.pointer (some ⟨g,0,none⟩),.agg #[.slice pt lt ct,zI t.ff,zI t.fb,zI t.db,zI t.al],zI m] w fun e w'=>WPost w g (Or0 (GrantIs x t m)) e w'):=(pgrant g x p len cap t pt lt ct m w hw hd ha ht hwf hfar).mono fun e w' h=>h.w (Nat.le_of_lt hw.lt);have HK0:Hid (Blk w B0 #[.slice pt lt ct,zI t.ff,zI t.fb,zI t.db,zI t.al] 24):=hB0;have HK1:Hid (Blk w B1 #[zI m] 3):=hB1;have qB1:w.cell? ⟨B1,0,none⟩=some (zI m):=hB1.cell 0;clear hw ha hd ht hwf hfar;go_enter Tryz.func120,Tryz.ntmps120;go_wp2_with (first | (refine zqw rfl rfl rfl HK0 zqu24 ?_) | fail)
 refine HIN.o.mono ?_;rintro e w1 hx;have HX:Hid (WPost w g (Or0 (GrantIs x t m)) e w1):=hx;obtain ⟨y,b,q,n,c,f,rfl,_⟩:=hx;clear HIN;go_wp2_with fail;go_ret;exact HX.o
theorem kgrant:KcGrant:=by
 intro w x p len cap t pt lt ct m ha ht hm;unfold Ac.v Ac.cs Tm.v;obtain ⟨W0,HWW,H0d,H0t,H0m,H0r,H0l,H0B,hs0⟩:=sh5 w #[zI x.me,zI x.rv,zI x.nx,zI x.mo,zI x.bo,zI x.fr,.slice p len cap] 51 #[.slice pt lt ct,zI t.ff,zI t.fb,zI t.db,zI t.al] 24 #[zI m] 3 #[zI 0,zI 0,zI 0,zI 0,zI 0,zI 0,zS] 51 #[zI 0,zI 0,zI 0,zI 0,zI 0,zI 0,zI 0] 68;have H0R:Hid (Came W0 p len cap x.ds):=ha.ds.below H0B.o;go_enter Tryz.func77,Tryz.ntmps77;go_upto_region 1 with fail
 rw [HWW.o];clear HWW;have HXt:Hid (∀ W,Below W0.heap.size W0 W→Blk W (w.heap.size+1) #[.slice pt lt ct,zI t.ff,zI t.fb,zI t.db,zI t.al] 24):=fun W hW=>H0t.o.next hW;have HXm:Hid (∀ W,Below W0.heap.size W0 W→Blk W (w.heap.size+1+1) #[zI m] 3):=fun W hW=>H0m.o.next hW;have HTC:Hid (Came w pt lt ct t.ts):=ht.ts;have HBW:Hid (Below w.heap.size w W0):=H0B.o;have hbw:w.heap.size≤W0.heap.size:=H0B.o.size
 have HWK:Hid (Calls Tryz.prog 117 #[.agg #[zI x.me,zI x.rv,zI x.nx,zI x.mo,zI x.bo,zI x.fr,.slice p len cap],.func (.func 120) #[] #[.pointer (some ⟨w.heap.size+1,0,none⟩),.pointer (some ⟨w.heap.size+1+1,0,none⟩)]] W0 fun e w'=>BPost W0 (GrantIs x t m) e w'):=by
  refine pwork 120 #[.pointer (some ⟨w.heap.size+1,0,none⟩),.pointer (some ⟨w.heap.size+1+1,0,none⟩)] (GrantIs x t m) x p len cap W0 H0R.o (fun h=> .inl ⟨.inl ⟨h,rfl⟩,rfl,rfl⟩) (fun _ _=>by kernel_rfl) ?_;intro hm W g p' cap' hB hg hblk hld
  have HFR:deb.Fresh W (g+1) p' len cap' x.ds:=by
   obtain ⟨a0,c0,hv,hfr⟩:=deb.ld_fresh hld hm.1;injection hv with h1 h2 h3
   rw [h1,h2,h3];exact hfr
  have hfar:Far pt lt g:=fun hn y hy=>by have:=came_lt HTC.o hn y hy;omega
  exact pgrant1 _ _ g x p' len cap' t pt lt ct m W (HXt.o W hB) (HXm.o W hB) hblk HFR hm (HTC.o.below (HBW.o.trans (hB.mono hbw))) ht.wf hfar
 clear ha ht HXt HXm
 go_wp2_with (first
  | (refine zqw rfl rfl rfl H0d zqu51 ?_)
  | (refine zqw rfl rfl rfl H0t zqu24 ?_)
  | (refine wp_whole rfl 3 _ rfl _ rfl 3 _ _ H0m.o Tryz.underlying3 rfl (by kernel_rfl) ?_)
  | (refine zqw rfl rfl rfl H0r zqu51 ?_)
  | (refine zqw rfl rfl rfl H0l zqu68 ?_)
  | fail)
 refine HWK.o.mono ?_;rintro e w1 ⟨b,l,pr,lr,cr,fz,rfl,hi,hf,hb1⟩;have H1d:=shN H0d hb1;have H1t:=shN H0t hb1;have H1m:=shN H0m hb1;have H1r:=shN H0r hb1;have H1l:=shN H0l hb1;have H1R:Hid (Came w1 p len cap x.ds):=H0R.o.below hb1;have H1B:=shB H0B hb1;have hsw1:W0.heap.size≤w1.heap.size:=hb1.size;clear hb1 H0d H0t H0m H0r H0l H0R H0B;unfold Ac.v Ac.cs Bi.v;clear HWK;have H2F:Hid (deb.Fresh w1 W0.heap.size pr lr cr b.ds):=hf;have HUPF:Hid (0<lr→∀ y,pr=some y→y.block<w1.heap.size):=came_lt H2F.o.came;have HV:Hid (GrantIs x t m b l fz):=hi;clear hf hi
 go_wp2_with (first
  | (refine zql rfl rfl rfl rfl zqu51 (by simp [Value.oneCell']) H1r rfl ?_)
  | (refine zqw rfl rfl rfl H1d zqu51 ?_)
  | (refine zqw rfl rfl rfl H1t zqu24 ?_)
  | (refine wp_whole rfl 3 _ rfl _ rfl 3 _ _ H1m.o Tryz.underlying3 rfl (by kernel_rfl) ?_)
  | (refine zqw rfl rfl rfl H1r zqu51 ?_)
  | (refine zqw rfl rfl rfl H1l zqu68 ?_)
  | fail)
 intro W4 hU;have H3d:=shK hU H1d (by omega);have H3t:=shK hU H1t (by omega);have H3m:=shK hU H1m (by omega);have H3r:Hid (Blk W4 (w.heap.size+1+1+1) #[zI b.me,zI b.rv,zI b.nx,zI b.mo,zI b.bo,zI b.fr,.slice pr lr cr] 51):=hU.blk;have H3l:=shK hU H1l (by omega);have H3F:Hid (deb.Fresh W4 W0.heap.size pr lr cr b.ds):=fresh_updN H2F.o hU (fun hn y hy=>by have f1:=H2F.o.new hn y hy;have f2:=HUPF.o hn y hy;omega);have H3B:=shV hU H1B (by omega);have hsW4:W4.heap.size=w1.heap.size:=hU.size;clear hU H1d H1t H1m H1r H1l H2F H1B
 go_wp2_with (first
  | (refine zql rfl rfl rfl rfl zqu68 (by simp [Value.oneCell']) H3l rfl ?_)
  | (refine zqw rfl rfl rfl H3d zqu51 ?_)
  | (refine zqw rfl rfl rfl H3t zqu24 ?_)
  | (refine wp_whole rfl 3 _ rfl _ rfl 3 _ _ H3m.o Tryz.underlying3 rfl (by kernel_rfl) ?_)
  | (refine zqw rfl rfl rfl H3r zqu51 ?_)
  | (refine zqw rfl rfl rfl H3l zqu68 ?_)
  | fail)
 intro W5 hU;have H4d:=shK hU H3d (by omega);have H4t:=shK hU H3t (by omega);have H4m:=shK hU H3m (by omega);have H4r:=shK hU H3r (by omega);have H4l:Hid (Blk W5 (w.heap.size+1+1+1+1) #[zI l.id,zI l.te,zI l.de,zI l.fe,zI l.pr,zI l.ch,zI l.un] 68):=hU.blk;have H4F:Hid (deb.Fresh W5 W0.heap.size pr lr cr b.ds):=fresh_updN H3F.o hU (fun hn y hy=>by have f1:=H3F.o.new hn y hy;have f2:=HUPF.o hn y hy;omega);have H4B:=shV hU H3B (by omega);have hsW5:W5.heap.size=W4.heap.size:=hU.size;clear hU H3d H3t H3m H3r H3l H3F H3B;obtain ⟨Rr0,Rr1,Rr2,Rr3,Rr4,Rr5,Rr6⟩:=shc7 H4r;obtain ⟨Rl0,Rl1,Rl2,Rl3,Rl4,Rl5,Rl6⟩:=shc7 H4l;go_wp2_with fail;exact bodyPost_ret (v:= .tuple #[.agg #[zI b.me,zI b.rv,zI b.nx,zI b.mo,zI b.bo,zI b.fr,.slice pr lr cr],.agg #[zI l.id,zI l.te,zI l.de,zI l.fe,zI l.pr,zI l.ch,zI l.un],zI fz]) (by simp [results,Tryz.results77,Rr0.o,Rr1.o,Rr2.o,Rr3.o,Rr4.o,Rr5.o,Rr6.o,Rl0.o,Rl1.o,Rl2.o,Rl3.o,Rl4.o,Rl5.o,Rl6.o,go_sem]) rfl ⟨b,l,pr,lr,cr,fz,rfl,HV.o,H4F.o.low (by omega),H4B.o⟩
theorem prekey (g:Nat) (x:Ac) (p:Option Addr) (len cap:Nat) (w:World) (hw:Blk w g (wcs x bi0 p len cap) 252) (hd:deb.Fresh w (g+1) p len cap x.ds) (ha:AMay x):Calls Tryz.prog 125 #[.pointer (some ⟨g,0,none⟩)] w fun e w'=>DPost w g (Or0 (RekeyIs x)) e w':=by
 have hrv:=ha.2.2.1;have hnx:=ha.2.2.2.1;have HM:Hid (AMay x):=ha;have HI:Hid (Blk w g #[zI x.me,zI x.rv,zI x.nx,zI x.mo,zI x.bo,zI x.fr,.slice p len cap,zI 0,zI 0,zI 0,zI 0,zI 0,zI 0,zI 0] 252):=hw;have HD:Hid (deb.Fresh w (g+1) p len cap x.ds):=hd;have q1:w.cell? ⟨g,1,none⟩=some (zI x.rv):=HI.o.cell 1;clear hw hd ha;by_cases h1:x.rv<15
 ·have d1:(x.rv == 15)=false:=by simp;omega
  have hwr:IntKind.i64.wrap (x.rv+1)=x.rv+1:=by rw [IntKind.wrap_i64];omega
  have H1:Hid (x.rv<15):=h1;go_enter Tryz.func125,Tryz.ntmps125;go_wp2_with (first | (refine wp_let1 rfl 3 _ _ rfl g 1 rfl .i64 (x.rv+1) rfl (by kernel_rfl) #[zI x.me,zI x.rv,zI x.nx,zI x.mo,zI x.bo,zI x.fr,.slice p len cap,zI 0,zI 0,zI 0,zI 0,zI 0,zI 0,zI 0] 252 HI.o (by simp) ?_) | fail)
  intro W1 hU;have HI1:Hid (Blk W1 g #[zI x.me,zI (x.rv+1),zI x.nx,zI x.mo,zI x.bo,zI x.fr,.slice p len cap,zI 0,zI 0,zI 0,zI 0,zI 0,zI 0,zI 0] 252):=hU.blk;have HC1:Hid (Chg w W1 g):= .upd hU;have HD1:Hid (deb.Fresh W1 (g+1) p len cap x.ds):=fresh_chg HD.o (.upd hU);have HNU:Hid (Calls Tryz.prog 161 #[.pointer (some ⟨g,0,none⟩)] W1 fun e w'=>NumPost W1 g ⟨x.me,x.rv+1,x.nx,x.mo,x.bo,x.fr,x.ds⟩ bi0 p len cap e w'):=pnum g ⟨x.me,x.rv+1,x.nx,x.mo,x.bo,x.fr,x.ds⟩ bi0 p len cap W1 HI1.o hnx;clear hU q1 HI HD d1 h1;go_wp2_with fail;refine HNU.o.mono ?_;rintro e wN ⟨hcN,⟨hx,rfl,hiN⟩ | ⟨hx,rfl,hiN⟩⟩
  ·have HV:Hid (Or0 (RekeyIs x) ⟨x.me,x.rv+1,x.nx,x.mo,x.bo,x.fr,x.ds⟩ bi0 20):= .inl ⟨by decide,.inr (.inr (.inl ⟨HM.o,H1.o,hx,rfl,rfl,rfl⟩))⟩;have HDN:=fresh_chg HD1.o hcN;have HCN:=HC1.o.trans hcN;clear HNU hx;go_wp2_with fail;go_ret;exact ⟨⟨x.me,x.rv+1,x.nx,x.mo,x.bo,x.fr,x.ds⟩,bi0,p,len,cap,20,rfl,HV.o,hiN,HDN,HCN⟩
  ·have HV:Hid (Or0 (RekeyIs x) ⟨x.me,x.rv+1,x.nx+1,x.mo,x.bo,x.fr,x.ds⟩ ⟨x.nx,0,0,0,0,0,0⟩ 0):= .inr ⟨rfl,.inr (.inr (.inr ⟨HM.o,H1.o,hx,rfl,rfl,rfl⟩))⟩;have HDN:=fresh_chg HD1.o hcN;have HCN:=HC1.o.trans hcN;clear HNU hx;go_wp2_with fail;go_ret;exact ⟨⟨x.me,x.rv+1,x.nx+1,x.mo,x.bo,x.fr,x.ds⟩,⟨x.nx,0,0,0,0,0,0⟩,p,len,cap,0,rfl,HV.o,hiN,HDN,HCN⟩
 ·have d1:(x.rv == 15)=true:=by simp;omega
  have HV:Hid (Or0 (RekeyIs x) x bi0 24):= .inl ⟨by decide,.inr (.inl ⟨HM.o,h1,rfl,rfl,rfl⟩)⟩;clear h1 hrv hnx;go_enter Tryz.func125,Tryz.ntmps125;go_wp2_with fail;go_ret;exact ⟨x,bi0,p,len,cap,24,rfl,HV.o,HI.o,HD.o,Chg.refl _ _⟩
theorem krekey:KcRekey:=by
 intro w x p len cap ha;unfold Ac.v Ac.cs;obtain ⟨W0,HWW,H0d,H0r,H0l,H0B,hs0⟩:=sh3 w #[zI x.me,zI x.rv,zI x.nx,zI x.mo,zI x.bo,zI x.fr,.slice p len cap] 51 #[zI 0,zI 0,zI 0,zI 0,zI 0,zI 0,zS] 51 #[zI 0,zI 0,zI 0,zI 0,zI 0,zI 0,zI 0] 68;have H0R:Hid (Came W0 p len cap x.ds):=ha.ds.below H0B.o;go_enter Tryz.func79,Tryz.ntmps79;go_upto_region 1 with fail
 rw [HWW.o];clear HWW
 have HWK:Hid (Calls Tryz.prog 117 #[.agg #[zI x.me,zI x.rv,zI x.nx,zI x.mo,zI x.bo,zI x.fr,.slice p len cap],.func (.func 125) #[] #[]] W0 fun e w'=>BPost W0 (RekeyIs x) e w'):=by
  refine pwork 125 #[] (RekeyIs x) x p len cap W0 H0R.o (fun h=> .inl ⟨h,rfl,rfl,rfl⟩) (fun _ _=>by kernel_rfl) ?_;intro hm W g p' cap' hB hg hblk hld
  have HFR:deb.Fresh W (g+1) p' len cap' x.ds:=by
   obtain ⟨a0,c0,hv,hfr⟩:=deb.ld_fresh hld hm.1;injection hv with h1 h2 h3
   rw [h1,h2,h3];exact hfr
  exact (prekey g x p' len cap' W hblk HFR hm).mono fun e w' h=>h.w (Nat.le_of_lt hblk.lt)
 clear ha
 go_wp2_with (first
  | (refine zqw rfl rfl rfl H0d zqu51 ?_)
  | (refine zqw rfl rfl rfl H0r zqu51 ?_)
  | (refine zqw rfl rfl rfl H0l zqu68 ?_)
  | fail)
 refine HWK.o.mono ?_;rintro e w1 ⟨b,l,pr,lr,cr,fz,rfl,hi,hf,hb1⟩;have H1d:=shN H0d hb1;have H1r:=shN H0r hb1;have H1l:=shN H0l hb1;have H1R:Hid (Came w1 p len cap x.ds):=H0R.o.below hb1;have H1B:=shB H0B hb1;have hsw1:W0.heap.size≤w1.heap.size:=hb1.size;clear hb1 H0d H0r H0l H0R H0B;unfold Ac.v Ac.cs Bi.v;clear HWK;have H2F:Hid (deb.Fresh w1 W0.heap.size pr lr cr b.ds):=hf;have HUPF:Hid (0<lr→∀ y,pr=some y→y.block<w1.heap.size):=came_lt H2F.o.came;have HV:Hid (RekeyIs x b l fz):=hi;clear hf hi
 go_wp2_with (first
  | (refine zql rfl rfl rfl rfl zqu51 (by simp [Value.oneCell']) H1r rfl ?_)
  | (refine zqw rfl rfl rfl H1d zqu51 ?_)
  | (refine zqw rfl rfl rfl H1r zqu51 ?_)
  | (refine zqw rfl rfl rfl H1l zqu68 ?_)
  | fail)
 intro W4 hU;have H3d:=shK hU H1d (by omega);have H3r:Hid (Blk W4 (w.heap.size+1) #[zI b.me,zI b.rv,zI b.nx,zI b.mo,zI b.bo,zI b.fr,.slice pr lr cr] 51):=hU.blk;have H3l:=shK hU H1l (by omega);have H3F:Hid (deb.Fresh W4 W0.heap.size pr lr cr b.ds):=fresh_updN H2F.o hU (fun hn y hy=>by have f1:=H2F.o.new hn y hy;have f2:=HUPF.o hn y hy;omega);have H3B:=shV hU H1B (by omega);have hsW4:W4.heap.size=w1.heap.size:=hU.size;clear hU H1d H1r H1l H2F H1B
 go_wp2_with (first
  | (refine zql rfl rfl rfl rfl zqu68 (by simp [Value.oneCell']) H3l rfl ?_)
  | (refine zqw rfl rfl rfl H3d zqu51 ?_)
  | (refine zqw rfl rfl rfl H3r zqu51 ?_)
  | (refine zqw rfl rfl rfl H3l zqu68 ?_)
  | fail)
 intro W5 hU;have H4d:=shK hU H3d (by omega);have H4r:=shK hU H3r (by omega);have H4l:Hid (Blk W5 (w.heap.size+1+1) #[zI l.id,zI l.te,zI l.de,zI l.fe,zI l.pr,zI l.ch,zI l.un] 68):=hU.blk;have H4F:Hid (deb.Fresh W5 W0.heap.size pr lr cr b.ds):=fresh_updN H3F.o hU (fun hn y hy=>by have f1:=H3F.o.new hn y hy;have f2:=HUPF.o hn y hy;omega);have H4B:=shV hU H3B (by omega);have hsW5:W5.heap.size=W4.heap.size:=hU.size;clear hU H3d H3r H3l H3F H3B;obtain ⟨Rr0,Rr1,Rr2,Rr3,Rr4,Rr5,Rr6⟩:=shc7 H4r;obtain ⟨Rl0,Rl1,Rl2,Rl3,Rl4,Rl5,Rl6⟩:=shc7 H4l;go_wp2_with fail;exact bodyPost_ret (v:= .tuple #[.agg #[zI b.me,zI b.rv,zI b.nx,zI b.mo,zI b.bo,zI b.fr,.slice pr lr cr],.agg #[zI l.id,zI l.te,zI l.de,zI l.fe,zI l.pr,zI l.ch,zI l.un],zI fz]) (by simp [results,Tryz.results79,Rr0.o,Rr1.o,Rr2.o,Rr3.o,Rr4.o,Rr5.o,Rr6.o,Rl0.o,Rl1.o,Rl2.o,Rl3.o,Rl4.o,Rl5.o,Rl6.o,go_sem]) rfl ⟨b,l,pr,lr,cr,fz,rfl,HV.o,H4F.o.low (by omega),H4B.o⟩
end acc
end Go.Proofs.YtnpblpbohcegoaaGreatDoor
