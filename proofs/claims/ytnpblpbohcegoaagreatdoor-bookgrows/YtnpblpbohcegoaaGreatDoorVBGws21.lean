import Derived.Test.YtnpblpbohcegoaaGreatDoorVBGws19
import Derived.Test.YtnpblpbohcegoaaGreatDoorVBGws20
set_option linter.unusedVariables false
set_option linter.unusedSimpArgs false
set_option maxHeartbeats 4000000
set_option maxRecDepth 100000
namespace Go.Proofs.YtnpblpbohcegoaaGreatDoor
namespace vnd
open book (Ev ev0 Cm cm0 So so0 Sees)
open acc (Ac Tm Bi)
open ora (Pr)
open cell (Wr RowU RowW)
open rcp (Rc rc0)
open Go.RowKit
def KvGrant (w0:World):Prop:=∀ (W:World) (t:Tm) (pt:Option Addr) (lt ct:Nat) (a:Option Addr) (n cap:Nat) (c:List Int) (ao:Option Addr) (no ko:Nat) (o:List Pr) (me mo dr:Int),Below w0.heap.size w0 W→acc.TCame W t pt lt ct→Dk W a n cap c→ora.Came W ao no ko o→(Lit.int .i64 me).wf=true→(Lit.int .i64 mo).wf=true→(Lit.int .i64 dr).wf=true→Calls Tryz.prog 43 #[t.v pt lt ct,.slice a n cap,.agg #[.slice ao no ko],zI me,zI mo,zI dr] W fun e w'=>TokGot W (TokIs 3 t c o me 0 mo dr) e w'
theorem KvGrant.up {w0 w:World} (K:KvGrant w0) (hb:Below w0.heap.size w0 w):KvGrant w:=fun W t pt lt ct a n cap c ao no ko o me mo dr hW=>K W t pt lt ct a n cap c ao no ko o me mo dr (bel_step hb hW)
def KvRekey (w0:World):Prop:=∀ (W:World) (t:Tm) (pt:Option Addr) (lt ct:Nat) (a:Option Addr) (n cap:Nat) (c:List Int) (ao:Option Addr) (no ko:Nat) (o:List Pr) (me dr:Int),Below w0.heap.size w0 W→acc.TCame W t pt lt ct→Dk W a n cap c→ora.Came W ao no ko o→(Lit.int .i64 me).wf=true→(Lit.int .i64 dr).wf=true→Calls Tryz.prog 44 #[t.v pt lt ct,.slice a n cap,.agg #[.slice ao no ko],zI me,zI dr] W fun e w'=>TokGot W (TokIs 4 t c o me 0 0 dr) e w'
theorem KvRekey.up {w0 w:World} (K:KvRekey w0) (hb:Below w0.heap.size w0 w):KvRekey w:=fun W t pt lt ct a n cap c ao no ko o me dr hW=>K W t pt lt ct a n cap c ao no ko o me dr (bel_step hb hW)
def KvSell (w0:World):Prop:=∀ (W:World) (t:Tm) (pt:Option Addr) (lt ct:Nat) (a:Option Addr) (n cap:Nat) (c:List Int) (ao:Option Addr) (no ko:Nat) (o:List Pr) (me te mo dr:Int),Below w0.heap.size w0 W→acc.TCame W t pt lt ct→Dk W a n cap c→ora.Came W ao no ko o→(Lit.int .i64 me).wf=true→(Lit.int .i64 te).wf=true→(Lit.int .i64 mo).wf=true→(Lit.int .i64 dr).wf=true→Calls Tryz.prog 45 #[t.v pt lt ct,.slice a n cap,.agg #[.slice ao no ko],zI me,zI te,zI mo,zI dr] W fun e w'=>TokGot W (TokIs 2 t c o me te mo dr) e w'
theorem KvSell.up {w0 w:World} (K:KvSell w0) (hb:Below w0.heap.size w0 w):KvSell w:=fun W t pt lt ct a n cap c ao no ko o me te mo dr hW=>K W t pt lt ct a n cap c ao no ko o me te mo dr (bel_step hb hW)
end vnd
namespace disk
open Go.RowKit cell
theorem blank_cap (n:Nat) (w:World) (h1:1≤n) (h2:n≤2048) :
  Calls Tryz.prog 32 #[zI (n:Int)] w fun e w'=>GaveC w (List.replicate n 0) 0 e w':=by
 have HM:Hid (∀ W,Calls Tryz.prog 46 #[zI (n:Int)] W fun e w'=>e = .returned (.bool true)∧w'=W):=fun W=>may_yes _ W (by omega) (by omega);have hmk:∀ W:World,(Instr.makeSlice 25 (zI (n:Int)) (zI (n:Int))).run Tryz.prog W = .ok (.slice (some ⟨W.heap.size,0,none⟩) n n) (W.alloc (.cells (arr (List.replicate n 0)) 99)):=make_u32 n (by omega);have HL:Hid ((List.replicate n (0:Int)).length=n):=List.length_replicate;generalize List.replicate n (0:Int)=zs at *;go_enter Tryz.func32,Tryz.ntmps32;go_wp2_with fail;refine (HM.o _).mono ?_;rintro e w1 ⟨rfl,rfl⟩;go_wp2_with fail;go_ret2;exact GaveC.mk (Blk.rowU (Blk.new _ _ _) HL.o) (fun h=>by cases h) (Nat.le_refl _) ((Below.refl _ _).alloc (Nat.le_refl _) _)
end disk
namespace acc
open tar (Du du0 Came RowD Ld PairT)
open Go.RowKit
theorem right_wf {l:List Du} (h:tar.Right l):∀ x∈l,(Lit.int .i64 x.a).wf=true∧(Lit.int .i64 x.b).wf=true:=fun x hx=>by
 obtain ⟨i,hi,rfl⟩:=List.getElem_of_mem hx;have h1:=h.upto i hi;have h2:=h.price i hi;have e:l.getD i du0=l[i]:=by simp [List.getD,List.getElem?_eq_getElem hi]
 rw [e] at h1 h2;exact ⟨tar.wf_mid (by omega) (by omega),tar.wf_mid (by omega) (by omega)⟩
theorem ld_new {T:TypeId} {w:World} {base:Nat} {v:Value} {l:List Du} {p:Option Addr} {len cap:Nat} (h:tar.Ld T w base v l) (e:v = .slice p len cap) (hn:0<len) (y:Addr) (hy:p=some y):base≤y.block:=by
 subst e;subst hy;exact (World.ownsRow.lt h y.block (by simp [Value.ownBlock])).1
def GaveT (w:World) (e:Ending) (w':World):Prop:=∃ t p len cap,e = .returned (Tm.v t p len cap)∧TRight t∧Came w' p len cap t.ts∧(0<len→∀ y,p=some y→w.heap.size≤y.block)∧Below w.heap.size w w'
theorem agreed_any (t:Tm) (pt:Option Addr) (lt ct:Nat) (w:World) (h:TCame w t pt lt ct):Calls Tryz.prog 33 #[t.v pt lt ct] w fun e w'=>GaveT w e w':=by
 have HWF:Hid (wf4 t):=h.wf;unfold Tm.v;obtain ⟨W0,HWW,H0x,H0r,H0B,hs0⟩:=sh2 w #[.slice pt lt ct,zI t.ff,zI t.fb,zI t.db,zI t.al] 35 #[zS,zI 0,zI 0,zI 0,zI 0] 24;have H0C:Hid (TCame W0 t pt lt ct):=h.below H0B.o;go_enter Tryz.func33,Tryz.ntmps33;go_upto_region 1 with fail
 rw [HWW.o];clear HWW;clear h;have HP1:Hid (∀ W,Calls Tryz.prog 18 #[zI t.ff,zI 100001] W fun e w'=>e = .returned (zI (check.pick t.ff 100001))∧w'=W):=fun W=>check.picked_any t.ff 100001 W HWF.o.1 (by decide) (by decide);have hp10:=check.pick_nonneg t.ff 100001 (by decide);have hp11:=check.pick_lt t.ff 100001 (by decide);generalize (check.pick t.ff 100001)=z1 at *;have HP2:Hid (∀ W,Calls Tryz.prog 18 #[zI t.fb,zI 10001] W fun e w'=>e = .returned (zI (check.pick t.fb 10001))∧w'=W):=fun W=>check.picked_any t.fb 10001 W HWF.o.2.1 (by decide) (by decide);have hp20:=check.pick_nonneg t.fb 10001 (by decide);have hp21:=check.pick_lt t.fb 10001 (by decide);generalize (check.pick t.fb 10001)=z2 at *;have HP3:Hid (∀ W,Calls Tryz.prog 18 #[zI t.db,zI 10001] W fun e w'=>e = .returned (zI (check.pick t.db 10001))∧w'=W):=fun W=>check.picked_any t.db 10001 W HWF.o.2.2.1 (by decide) (by decide);have hp30:=check.pick_nonneg t.db 10001 (by decide);have hp31:=check.pick_lt t.db 10001 (by decide);generalize (check.pick t.db 10001)=z3 at *;have HP4:Hid (∀ W,Calls Tryz.prog 18 #[zI t.al,zI 2097152] W fun e w'=>e = .returned (zI (check.pick t.al 2097152))∧w'=W):=fun W=>check.picked_any t.al 2097152 W HWF.o.2.2.2 (by decide) (by decide);have hp40:=check.pick_nonneg t.al 2097152 (by decide);have hp41:=check.pick_lt t.al 2097152 (by decide);generalize (check.pick t.al 2097152)=z4 at *;have HOW:Hid (∀ W,Below W0.heap.size W0 W→Calls Tryz.prog 60 #[.slice pt lt ct] W fun e w'=>tar.GaveT W e w'):=fun W hW=>tar.stepped_any pt lt ct t.ts W (H0C.o.below hW).ts;have HB0:Hid (Below W0.heap.size W0 W0.drew):=(Below.refl _ _).drew;refine wp_region_held_drew (S:=fun v=>Blk v (w.heap.size) #[.slice pt lt ct,zI t.ff,zI t.fb,zI t.db,zI t.al] 35) (by kernel_rfl) (Blk.drew H0x.o 1) (fun hHeld=>?_);generalize W0.drew=U0 at *;refine zqs 0 3 (.pointer (some ⟨w.heap.size,0,none⟩)) rfl rfl (by kernel_rfl) zid rfl (fun v hv=>by clear hv;go_simp) hHeld ?_
 simp only [zq];refine zqt 1 4 (.slice pt lt ct) rfl rfl (by kernel_rfl) zid (Or.inl ⟨by rfl,fun v hv=>by have h2:=hv.cell 0;simp at h2;clear hv;go_simp⟩) hHeld ?_;simp only [zq];refine zqs 3 6 (.pointer (some ⟨w.heap.size,1,none⟩)) rfl rfl (by kernel_rfl) zid rfl (fun v hv=>by clear hv;go_simp) hHeld ?_;simp only [zq];refine zqt 4 7 (zI t.ff) rfl rfl (by kernel_rfl) zid (Or.inl ⟨by rfl,fun v hv=>by have h2:=hv.cell 1;simp at h2;clear hv;go_simp⟩) hHeld ?_;simp only [zq];refine zqs 6 9 (.pointer (some ⟨w.heap.size,2,none⟩)) rfl rfl (by kernel_rfl) zid rfl (fun v hv=>by clear hv;go_simp) hHeld ?_;simp only [zq];refine zqt 7 10 (zI t.fb) rfl rfl (by kernel_rfl) zid (Or.inl ⟨by rfl,fun v hv=>by have h2:=hv.cell 2;simp at h2;clear hv;go_simp⟩) hHeld ?_;simp only [zq];refine zqs 9 12 (.pointer (some ⟨w.heap.size,3,none⟩)) rfl rfl (by kernel_rfl) zid rfl (fun v hv=>by clear hv;go_simp) hHeld ?_;simp only [zq];refine zqt 10 13 (zI t.db) rfl rfl (by kernel_rfl) zid (Or.inl ⟨by rfl,fun v hv=>by have h2:=hv.cell 3;simp at h2;clear hv;go_simp⟩) hHeld ?_;simp only [zq];refine zqs 12 15 (.pointer (some ⟨w.heap.size,4,none⟩)) rfl rfl (by kernel_rfl) zid rfl (fun v hv=>by clear hv;go_simp) hHeld ?_;simp only [zq];refine zqt 13 16 (zI t.al) rfl rfl (by kernel_rfl) zid (Or.inl ⟨by rfl,fun v hv=>by have h2:=hv.cell 4;simp at h2;clear hv;go_simp⟩) hHeld ?_;simp only [zq];refine zqo 2 (by kernel_rfl) rfl (fun K hK=>?_);rw [if_pos (by rfl)];refine wp_callOp 5 rfl (by clear hK;go_simp) (HOW.o U0 HB0.o) ?_;rintro e U1 ⟨v,ls,rfl,hrt,hld,hb⟩;obtain ⟨pb,cb,rfl,hcm⟩:=hld.came (by have:=hrt.1.2;omega) (right_wf hrt);have HNW:Hid (0<ls.length→∀ y,pb=some y→W0.heap.size≤y.block):=fun hn y hy=>Nat.le_trans HB0.o.size (ld_new hld rfl hn y hy);have HRT:Hid (tar.Right ls):=hrt;have HCM:Hid (Came U1 pb ls.length cb ls):=hcm;have HB1:=shB HB0 hb;have HR1:Hid (Blk U1 (w.heap.size+1) #[zS,zI 0,zI 0,zI 0,zI 0] 24):=H0r.o.next HB1.o
 have HBW:Hid (Below w.heap.size w U1):=H0B.o.trans (HB1.o.mono H0B.o.size);refine ⟨_,rfl,hK.o _ _ (H0x.o.next HB1.o) (fun hHeld=>?_)⟩;clear hK hb hld hrt hcm HB0;simp only [zq];refine call_at 5 8 (zI z1) _ rfl rfl (by kernel_rfl) (by kernel_rfl) (by kernel_rfl) zid 18 #[zI t.ff,zI 100001] ⟨by rfl,fun v hv=>by clear hv;go_simp⟩ (fun v _=>HP1.o v) hHeld ?_;simp only [zq];refine call_at 8 11 (zI z2) _ rfl rfl (by kernel_rfl) (by kernel_rfl) (by kernel_rfl) zid 18 #[zI t.fb,zI 10001] ⟨by rfl,fun v hv=>by clear hv;go_simp⟩ (fun v _=>HP2.o v) hHeld ?_;simp only [zq];refine call_at 11 14 (zI z3) _ rfl rfl (by kernel_rfl) (by kernel_rfl) (by kernel_rfl) zid 18 #[zI t.db,zI 10001] ⟨by rfl,fun v hv=>by clear hv;go_simp⟩ (fun v _=>HP3.o v) hHeld ?_;simp only [zq];refine call_at 14 17 (zI z4) _ rfl rfl (by kernel_rfl) (by kernel_rfl) (by kernel_rfl) zid 18 #[zI t.al,zI 2097152] ⟨by rfl,fun v hv=>by clear hv;go_simp⟩ (fun v _=>HP4.o v) hHeld ?_;simp only [zq];refine zqs 15 18 (.agg #[.slice pb ls.length cb,zI z1,zI z2,zI z3,zI z4]) rfl rfl (by kernel_rfl) zid rfl (fun v hv=>by clear hv;go_simp) hHeld ?_;simp only [zq];refine zqo 16 (by kernel_rfl) rfl (fun K hK=>?_);rw [if_pos (by rfl)];refine wp_letOp 24 _ _ rfl (w.heap.size+1) rfl #[.slice pb ls.length cb,zI z1,zI z2,zI z3,zI z4] rfl (by kernel_rfl) (by simp [Value.oneCell']) #[zS,zI 0,zI 0,zI 0,zI 0] 24 HR1.o rfl rfl ?_;intro U2 hU;have HR2:Hid (Blk U2 (w.heap.size+1) #[.slice pb ls.length cb,zI z1,zI z2,zI z3,zI z4] 24):=hU.blk;have HC2:Hid (Came U2 pb ls.length cb ls):=came_upd HCM.o hU (fun hn y hy=>by have:=HNW.o hn y hy;omega);have HBZ:=shV hU HBW (by omega);have HX2:Hid (Blk U2 (w.heap.size) #[.slice pt lt ct,zI t.ff,zI t.fb,zI t.db,zI t.al] 35):=hU.keep (H0x.o.next HB1.o) (by omega);clear HCM HR1 HBW;refine hK.o _ _ HX2.o (fun hHeld=>?_);clear hK K hU;refine wpAnyH_done (by kernel_rfl) ?_ _;clear hHeld HX2;obtain ⟨R0,R1,R2,R3,R4⟩:=shc5 HR2
 go_wp2_with fail;exact bodyPost_ret (v:= .agg #[.slice pb ls.length cb,zI z1,zI z2,zI z3,zI z4]) (by simp [results,Tryz.results33,R0.o,R1.o,R2.o,R3.o,R4.o,go_sem]) rfl ⟨⟨ls,z1,z2,z3,z4⟩,pb,ls.length,cb,rfl,⟨HRT.o,⟨hp10,by show z1≤100000;omega⟩,⟨hp20,by show z2≤10000;omega⟩,⟨hp30,by show z3≤10000;omega⟩,hp40,by show z4≤2097151;omega⟩,HC2.o,fun hn y hy=>Nat.le_trans (by omega) (HNW.o hn y hy),HBZ.o⟩
end acc
namespace book
open Go.RowKit
open acc (Ac Tm Bi APost BPost TFault TRight OpenIs OweIs SellIs GrantIs RekeyIs wf6 ACame TCame fresh_updN fresh_drew came_lt)
def CuPost (w:World) (a:Option Addr) (bk:List Cm) (me:Int) (e:Ending) (w':World):Prop:=w'=w∧((∃ k g,FirstAt bk me k∧a=some ⟨g,0,none⟩∧e = .returned (.pointer (some ⟨g,k*8,none⟩)))∨(NoneAt bk me∧e = .panicked (thrown 18)))
theorem bcust (gW B:Nat) (t:Tm) (pt:Option Addr) (lt ct:Nat) (a:Option Addr) (n cap:Nat) (bk:List Cm) (me:Int) (w:World) (hw:Blk w gW #[.slice a n cap,.slice pt lt ct,zI t.ff,zI t.fb,zI t.db,zI t.al,.map (some B)] 113) (hm:MpI w B (mes bk)) (hn:bk.length=n) (ha:0<n→∃ g,a=some ⟨g,0,none⟩) (hs:n≤1000):Calls Tryz.prog 71 #[.pointer (some ⟨gW,0,none⟩),zI me] w fun e w'=>CuPost w a bk me e w':=by
 have HNO:Hid (∀ W,Calls Tryz.prog 112 #[zI 18] W fun e w'=>e = .panicked (thrown 18)∧w'=W):=fun W=>insist_no 18 (by decide) W;have q0:w.cell? ⟨gW,0,none⟩=some (.slice a n cap):=hw.cell 0;have q6:w.cell? ⟨gW,6,none⟩=some (.map (some B)):=hw.cell 6;have hlk:=lookI_run hm me;clear hw hm;cases hf:firstI (mes bk) me with
 | none=>
  rw [hf] at hlk;simp only [Option.getD_none,Option.isSome_none] at hlk;have HN:Hid (NoneAt bk me):=first_none hf;clear hf;go_enter Tryz.func71,Tryz.ntmps71;go_wp2_with fail;refine (HNO.o _).mono ?_;rintro e W9 ⟨rfl,rfl⟩;exact ⟨rfl,rfl,.inr ⟨HN.o,rfl⟩⟩
 | some k=>
  rw [hf] at hlk;simp only [Option.getD_some,Option.isSome_some] at hlk;have hfa:=first_some hf;have hkn:k<n:=by have:=hfa.1;omega
  obtain ⟨g,rfl⟩:=ha (by omega);have HN:Hid (FirstAt bk me k):=hfa;clear hf hfa ha hn;go_enter Tryz.func71,Tryz.ntmps71;go_wp2_with fail;go_ret;exact ⟨rfl,.inl ⟨k,g,HN.o,rfl,by first | rfl | simp⟩⟩
theorem of_caught (ge gn ga:Nat) (f0 m0 a0 f:Int) (hf:f≠0) (w:World) (he:Blk w ge #[zI f0] 27) (hn:Blk w gn #[zI m0] 3) (ha:Blk w ga #[zI a0] 3) (h1:gn≠ge) (h2:ga≠ge) :
  CallsD Tryz.prog 38 #[.pointer (some ⟨ge,0,none⟩),.pointer (some ⟨gn,0,none⟩),.pointer (some ⟨ga,0,none⟩)] (.panicking (thrown f)) w fun e u' w'=>e = .returned (.tuple #[])∧settle u' = .returning∧∃ W W2,Below w.heap.size w W∧Upd W W2 ge #[zI f] 27∧Upd W2 w' ga #[zI m0] 3:=by
 refine callsD_of_wpS Tryz.func38 rfl fun c₀ cs hu=>?_;apply wpS_seq;apply wpS_region;simp only [thrown] at hu;simp [wpOpsS,go_sem,recoverD,hu,Tryz.ntmps38,Exit.thenS];refine (reason_is f w).mono ?_;rintro e w1 ⟨rfl,hb1⟩;have hE:=he.next hb1;have hN:=hn.next hb1;have hA:=ha.next hb1;have hc:w1.cell? ⟨ge,0,none⟩=some (zI f0):=hE.cell 0;have hz:w1.frozen? ⟨ge,0,none⟩=false:=hE.free 0;have hU:Upd w1 (w1.setCell ⟨ge,0,none⟩ (zI f)) ge #[zI f] 27:=upd_cells ge _ [zI f] 0 w1 _ hE;simp [go_sem,hc,hz,Exit.thenS];generalize w1.setCell ⟨ge,0,none⟩ (zI f)=W2 at *;have hE2:=hU.blk;have hN2:=hU.keep hN h1;have hA2:=hU.keep hA h2;have q0:W2.cell? ⟨ge,0,none⟩=some (zI f):=hE2.cell 0;have q1:W2.cell? ⟨gn,0,none⟩=some (zI m0):=hN2.cell 0;have nf:(f != 0)=true:=by simpa using hf
 change Code.wpS _ _ _ { tmps:=#[.pointer (some ⟨ge,0,none⟩),.pointer (some ⟨gn,0,none⟩),.pointer (some ⟨ga,0,none⟩),refV f,zI f,undef,undef,undef],defers:=[] } _ _;apply wpS_of_wp;have HA2:Hid (Blk W2 ga #[zI a0] 3):=hA2;have HU:Hid (Upd w1 W2 ge #[zI f] 27):=hU;have HB:Hid (Below w.heap.size w w1):=hb1;clear hf he hn ha hE hN hA hc hz hU hE2 hN2 hA2 hb1 hu;go_wp2_with (first | (refine wp_let1 rfl 3 _ _ rfl ga 0 rfl .i64 m0 rfl (by kernel_rfl) #[zI a0] 3 HA2.o (by simp) ?_) | fail)
 intro W3 hU3;have HU3:Hid (Upd W2 W3 ga #[zI m0] 3):=hU3;clear hU3;go_wp2_with fail;simp [bodyPostS,results,Tryz.results38,settle];exact ⟨w1,HB.o,W2,HU.o,HU3.o⟩
theorem of_idle (ge gn ga:Nat) (f0:Int) (w:World) (he:Blk w ge #[zI f0] 27) :
  CallsD Tryz.prog 38 #[.pointer (some ⟨ge,0,none⟩),.pointer (some ⟨gn,0,none⟩),.pointer (some ⟨ga,0,none⟩)] .returning w fun e u' w'=>e = .returned (.tuple #[])∧settle u' = .returning∧∃ W,Below w.heap.size w W∧Upd W w' ge #[zI 0] 27:=by
 refine callsD_of_wpS Tryz.func38 rfl fun c₀ cs hu=>?_;apply wpS_seq;apply wpS_region;simp [wpOpsS,go_sem,recoverD,hu,Tryz.ntmps38,Exit.thenS];refine (reason_nil w).mono ?_;rintro e w1 ⟨rfl,rfl⟩;have hc:w1.cell? ⟨ge,0,none⟩=some (zI f0):=he.cell 0;have hz:w1.frozen? ⟨ge,0,none⟩=false:=he.free 0;have hU:Upd w1 (w1.setCell ⟨ge,0,none⟩ (zI 0)) ge #[zI 0] 27:=upd_cells ge _ [zI 0] 0 w1 _ he;simp [go_sem,hc,hz,Exit.thenS];generalize w1.setCell ⟨ge,0,none⟩ (zI 0)=W2 at *;have q0:W2.cell? ⟨ge,0,none⟩=some (zI 0):=hU.blk.cell 0;change Code.wpS _ _ _ { tmps:=#[.pointer (some ⟨ge,0,none⟩),.pointer (some ⟨gn,0,none⟩),.pointer (some ⟨ga,0,none⟩),.nilIface,zI 0,undef,undef,undef],defers:=[] } _ _;apply wpS_of_wp;have HU:Hid (Upd w1 W2 ge #[zI 0] 27):=hU;have HH:Hid (c₀.mode = .returning):=hu;clear he hc hz hU hu;go_wp2_with fail;have hu:=HH.o;have hU:=HU.o;simp [bodyPostS,results,Tryz.results38,hu,settle];exact ⟨.returning,(by cases c₀;simp_all),rfl,w1,Below.refl _ _,hU⟩
end book
namespace disk
open Go.RowKit cell
def EPost (J:Nat→World→Prop) (c:List Int) (e:Ending) (w':World):Prop:=
 ∃ x f k,e = .returned (.tuple #[zI x,zI f])∧J k w'∧((¬ May c∧x=0∧f=1)∨(May c∧lenAt c (repD c).2<0∧x=0∧f=3)∨(May c∧lenAt c (repD c).2=0∧repD c=itD c k∧x=((repD c).2:Int)∧f=0))
theorem len_zero {c:List Int} {p:Nat} (h:c.getD p 0=0):lenAt c p=0:=by unfold lenAt;rw [if_pos (.inr h)]
theorem len_end {c:List Int} {p:Nat} (h:p=c.length):lenAt c p=0:=by unfold lenAt;rw [if_pos (.inl h)]
theorem len_bad {c:List Int} {p:Nat} (hp:p<c.length) (h0:c.getD p 0≠0) (h:64<c.getD p 0∨(c.length:Int)≤p+c.getD p 0):lenAt c p<0:=by
 unfold lenAt;rw [if_neg (by omega)];by_cases h1:64<c.getD p 0
 ·rw [if_pos h1];decide
 ·rw [if_neg h1,if_pos (by omega)];decide
theorem get_wd {c:List Int} (hw:∀ x∈c,0≤x∧x<4294967296) (p:Nat):0≤c.getD p 0∧c.getD p 0<4294967296:=by
 by_cases h:p<c.length
 ·have e:c.getD p 0=c[p]:=by simp [List.getD,h]
  rw [e];exact hw _ (List.getElem_mem h)
 ·have e:c.getD p 0=0:=by simp [List.getD,Nat.le_of_not_lt h]
  rw [e];decide
theorem rowU_part {W:World} {b o n:Nat} {c:List Int} (h:RowU W (some ⟨b,o,none⟩) n c) {p m:Nat} (hm:(c.getD p 0).toNat=m) (hp:p+m<n):RowU W (some ⟨b,o+(p+1),none⟩) m (recAt c p):=by
 refine ⟨rec_len hm (by rw [h.1];exact hp),.inr ⟨b,o+(p+1),rfl,fun i hi=>?_⟩⟩;obtain ⟨b',o',e,_,hc⟩:=h.at (by omega);cases e;rw [rec_at hm hi,show o+(p+1)+i=o+(p+1+i) by omega];exact hc (p+1+i) (by omega)
theorem each_any (F:Nat) (caps:Array Value) (J:Nat→World→Prop) (a:Option Addr) (n cap:Nat) (c:List Int) (w:World) (hJ:∀ k W,J k W→RowU W a n c) (h0:J 0 w) (hcap:n≤cap) (hw:∀ x∈c,0≤x∧x<4294967296) (hK:∀ args w,(callFunc F args).run Tryz.prog w = .ok (.enter F args) w)
  (hf:∀ (k p m b o:Nat) (W:World),J k W→(itD c k).2=p→itD c (k+1)=((itD c k).1++[recAt c p],p+m+1)→RowU W (some ⟨b,o,none⟩) m (recAt c p)→1≤m→m≤64→p≤2048→Calls Tryz.prog F (#[.slice (some ⟨b,o,none⟩) m m]++caps) W fun e w'=>e = .returned (.tuple #[])∧J (k+1) w') :
  Calls Tryz.prog 62 #[.slice a n cap,.func (.func F) #[] caps] w fun e w'=>EPost J c e w':=by
 have hcl:=(hJ 0 w h0).1;have H0:Hid (J 0 w):=h0;have HN:Hid (c.length=n):=hcl;by_cases hmay:1≤n∧n≤2048
 ·obtain ⟨b,o,rfl,_,_⟩:=(hJ 0 w h0).at (by omega);have HJ:Hid (∀ k W,J k W→RowU W (some ⟨b,o,none⟩) n c):=hJ
  have HCL:Hid (∀ k W,J k W→∀ j,j<n→W.cell? ⟨b,o+j,none⟩=some (.int .u32 (c.getD j 0))):=fun k W h j hj=>by
   obtain ⟨b',o',e,_,hc⟩:=(hJ k W h).at (by omega);cases e;exact hc j hj
  have HW:Hid (∀ p,0≤c.getD p 0∧c.getD p 0<4294967296):=get_wd hw;have HF:Hid (∀ (k p m b o:Nat) (W:World),J k W→(itD c k).2=p→itD c (k+1)=((itD c k).1++[recAt c p],p+m+1)→RowU W (some ⟨b,o,none⟩) m (recAt c p)→1≤m→m≤64→p≤2048→Calls Tryz.prog F (#[.slice (some ⟨b,o,none⟩) m m]++caps) W fun e w'=>e = .returned (.tuple #[])∧J (k+1) w'):=hf;have HMY:Hid (May c):=⟨by omega,by omega⟩
  obtain ⟨hn1,hn2⟩:=hmay;have d1:decide ((n:Int)<1)=false:=by simp;omega
  have d2:decide ((2048:Int)<(n:Int))=false:=by simp;omega
  clear hJ hf hw hcl h0;go_enter Tryz.func62,Tryz.ntmps62;go_wp2_with fail;go_loopw [6] (fun v6 wr=>∃ (k p:Nat),p≤n∧v6=zI (p:Int)∧(itD c k).2=p∧J k wr) (fun v6 _=>n+1 - (intOf v6).toNat)
  case atStart=>exact ⟨0,0,Nat.zero_le _,rfl,rfl,H0.o⟩
  case round=>
   obtain ⟨k,p,hp,rfl,hk,hj⟩:=hrel;have HJK:Hid (J k wr):=hj;have HK:Hid ((itD c k).2=p):=hk;clear hj hk H0;by_cases hpn:p<n
   ·have k2:=HCL.o k wr HJK.o p hpn;have hz:=HW.o p;have e1:decide ((p:Int)<(n:Int))=true:=by simp;omega
    by_cases hz0:c.getD p 0=0
    ·have HL0:Hid (lenAt c p=0):=len_zero hz0
     have HE:Hid (EPost J c (.returned (.tuple #[zI (p:Int),zI 0])) wr):=by
      have hd:¬ 0<lenAt c (itD c k).2:=by rw [HK.o,HL0.o];decide
      have hr:=rep_of hd;exact ⟨_,_,k,rfl,HJK.o,.inr (.inr ⟨HMY.o,by rw [hr,HK.o];exact HL0.o,hr,by rw [hr,HK.o],rfl⟩)⟩
     rw [hz0] at k2;clear hz hz0 HJ HCL HW HF HK HJK HL0;go_wp2_with fail;go_ret2;exact HE.o
    ·by_cases hbad:64<c.getD p 0∨(n:Int)≤p+c.getD p 0
     ·have HE:Hid (EPost J c (.returned (.tuple #[zI 0,zI 3])) wr):=by
       have hl:=len_bad (c:=c) (p:=p) (by rw [HN.o];exact hpn) hz0 (by rw [HN.o];exact hbad);have hd:¬ 0<lenAt c (itD c k).2:=by rw [HK.o];omega
       exact ⟨_,_,k,rfl,HJK.o,.inr (.inl ⟨HMY.o,by rw [rep_of hd,HK.o];exact hl,rfl,rfl⟩)⟩
      have e0:(c.getD p 0 != 0)=true:=by simpa using hz0
      clear HJ HCL HW HF HK HJK;generalize c.getD p 0=z at *;obtain ⟨hz1,hz2⟩:=hz;by_cases h64:64<z
      ·have e3:decide ((64:Int)<z)=true:=by simpa using h64
       clear hbad;go_wp2_with fail;go_ret2;exact HE.o
      ·have e3:decide ((64:Int)<z)=false:=by simpa using h64
       have e4:decide ((n:Int)<(p:Int)+1+z)=true:=by simp;omega
       clear hbad;go_wp2_with fail;go_ret2;exact HE.o
     ·obtain ⟨m,hm⟩:∃ m:Nat,c.getD p 0=(m:Int):=⟨(c.getD p 0).toNat,by omega⟩
      have hgm:(c.getD p 0).toNat=m:=by rw [hm];simp
      have hm1:1≤m:=by omega
      have hm2:m≤64:=by omega
      have hpm:p+m<n:=by omega
      have hla:lenAt c p=(m:Int):=by rw [len_of (by omega) (by omega) (by rw [HN.o];omega),hm]
      have HIT:Hid (itD c (k+1)=((itD c k).1++[recAt c p],p+m+1)):=by
       have h:=it_live (c:=c) (k:=k) (by rw [HK.o,hla];omega);rw [HK.o,hla,Int.toNat_natCast] at h;exact h
      have HCC:Hid (Calls Tryz.prog F (#[.slice (some ⟨b,o+(p+1),none⟩) m m]++caps) wr fun e w'=>e = .returned (.tuple #[])∧J (k+1) w'):=HF.o k p m b (o+(p+1)) wr HJK.o HK.o HIT.o (rowU_part (HJ.o k wr HJK.o) hgm hpm) hm1 hm2 (by omega);rw [hm] at k2;have e0:((m:Int) != 0)=true:=by simp;omega
      have e3:decide ((64:Int)<(m:Int))=false:=by simp;omega
      have e4:decide ((n:Int)<(p:Int)+1+(m:Int))=false:=by simp;omega
      have hc1:p+1<cap:=by omega
      clear hz hz0 hbad hm hgm hla HF HJ HW HCL;go_wp2_with fail;refine HCC.o.mono ?_;rintro e w1 ⟨rfl,hj1⟩;have HJ1:Hid (J (k+1) w1):=hj1;clear hj1;go_wp2_with fail;go_roundw
      case rel=>exact ⟨k+1,p+m+1,by omega,by go_num,by rw [HIT.o],HJ1.o⟩
      case measure=>simp [intOf];omega
   ·have e1:decide ((p:Int)<(n:Int))=false:=by simp;omega
    have HE:Hid (EPost J c (.returned (.tuple #[zI (p:Int),zI 0])) wr):=by
     have hl:lenAt c p=0:=len_end (by rw [HN.o];omega);have hd:¬ 0<lenAt c (itD c k).2:=by rw [HK.o,hl];decide
     have hr:=rep_of hd;exact ⟨_,_,k,rfl,HJK.o,.inr (.inr ⟨HMY.o,by rw [hr,HK.o];exact hl,hr,by rw [hr,HK.o],rfl⟩)⟩
    clear HJ HCL HW HF HK HJK;go_wp2_with fail;go_ret2;exact HE.o
 ·have HE:Hid (EPost J c (.returned (.tuple #[zI 0,zI 1])) w):=⟨0,1,0,rfl,H0.o,.inl ⟨fun h=>hmay ⟨by rw [← hcl];exact h.1,by rw [← hcl];exact h.2⟩,rfl,rfl⟩⟩
  clear hJ hf hw h0 H0 hcl HN;go_enter Tryz.func62,Tryz.ntmps62;by_cases h1:1≤n
  ·have d1:decide ((n:Int)<1)=false:=by simp;omega
   have d2:decide ((2048:Int)<(n:Int))=true:=by simp;omega
   go_wp2_with fail;go_ret2;exact HE.o
  ·have d1:decide ((n:Int)<1)=true:=by simp;omega
   go_wp2_with fail;go_ret2;exact HE.o
end disk
namespace vnd
open disk (RepIs AppIs)
open book (Ev ev0 EMay evL evOf EncIs DecIs Cm cm0 So so0 BookIs Sees ECame FirstAt NoneAt)
open acc (Ac Tm Bi TCame ACame)
open cell (Wr RowU)
open Go.RowKit
theorem puntag (kd me mo dr:Int) (F:Value) (l:Bi) (b:Ac) (p:Option Addr) (ln cp:Nat) (cl am:Int) (w:World) (h:(kd=4∧cl=2∧am=b.rv)∨(kd≠4∧cl=0∧am=l.un)):Calls Tryz.prog 124 #[.agg #[zI kd,zI me,zI mo,zI dr,F],.agg #[zI l.id,zI l.te,zI l.de,zI l.fe,zI l.pr,zI l.ch,zI l.un],.agg #[zI b.me,zI b.rv,zI b.nx,zI b.mo,zI b.bo,zI b.fr,.slice p ln cp]] w fun e w'=>e = .returned (.agg #[zI cl,zI l.id,zI am,zI 0])∧Below w.heap.size w w':=by
 obtain ⟨W0,HWW,H0d,H0l,H0b,H0r,H0B,hs0⟩:=sh4 w #[zI kd,zI me,zI mo,zI dr,F] 166 #[zI l.id,zI l.te,zI l.de,zI l.fe,zI l.pr,zI l.ch,zI l.un] 68 #[zI b.me,zI b.rv,zI b.nx,zI b.mo,zI b.bo,zI b.fr,.slice p ln cp] 51 #[zI 0,zI 0,zI 0,zI 0] 96;go_enter Tryz.func124,Tryz.ntmps124;go_upto_region 1 with fail
 rw [HWW.o];clear HWW;rcases h with ⟨h1,rfl,rfl⟩ | ⟨h1,rfl,rfl⟩
 ·have d1:(kd == 4)=true:=by simpa using h1
  clear h1;have qd0:W0.cell? ⟨w.heap.size,0,none⟩=some (zI kd):=H0d.o.cell 0;have ql0:W0.cell? ⟨w.heap.size+1,0,none⟩=some (zI l.id):=H0l.o.cell 0;have qb1:W0.cell? ⟨w.heap.size+1+1,1,none⟩=some (zI b.rv):=H0b.o.cell 1
  go_wp2_with (first
   | (refine zql rfl rfl rfl rfl zqu96 (by simp [Value.oneCell']) H0r rfl ?_)
   | (refine zqw rfl rfl rfl H0d zqu166 ?_)
   | (refine zqw rfl rfl rfl H0l zqu68 ?_)
   | (refine zqw rfl rfl rfl H0b zqu51 ?_)
   | (refine zqw rfl rfl rfl H0r zqu96 ?_)
   | fail)
  intro W2 hU;have H1d:=shK hU H0d (by omega);have H1l:=shK hU H0l (by omega);have H1b:=shK hU H0b (by omega);have H1r:Hid (Blk W2 (w.heap.size+1+1+1) #[zI 2,zI l.id,zI b.rv,zI 0] 96):=hU.blk;have H1B:=shV hU H0B (by omega);have hsW2:W2.heap.size=W0.heap.size:=hU.size;clear hU H0d H0l H0b H0r H0B;clear qd0 ql0 qb1;have R0:Hid (W2.cell? ⟨w.heap.size+1+1+1,0,none⟩=some (zI 2)):=H1r.o.cell 0;have R1:Hid (W2.cell? ⟨w.heap.size+1+1+1,1,none⟩=some (zI l.id)):=H1r.o.cell 1;have R2:Hid (W2.cell? ⟨w.heap.size+1+1+1,2,none⟩=some (zI b.rv)):=H1r.o.cell 2;have R3:Hid (W2.cell? ⟨w.heap.size+1+1+1,3,none⟩=some (zI 0)):=H1r.o.cell 3;go_wp2_with fail;exact bodyPost_ret (v:= .agg #[zI 2,zI l.id,zI b.rv,zI 0]) (by simp [results,Tryz.results124,R0.o,R1.o,R2.o,R3.o,go_sem]) rfl ⟨rfl,H1B.o⟩
 ·have d1:(kd == 4)=false:=by simpa using h1
  clear h1;have qd0:W0.cell? ⟨w.heap.size,0,none⟩=some (zI kd):=H0d.o.cell 0;have ql0:W0.cell? ⟨w.heap.size+1,0,none⟩=some (zI l.id):=H0l.o.cell 0;have ql6:W0.cell? ⟨w.heap.size+1,6,none⟩=some (zI l.un):=H0l.o.cell 6
  go_wp2_with (first
   | (refine zql rfl rfl rfl rfl zqu96 (by simp [Value.oneCell']) H0r rfl ?_)
   | (refine zqw rfl rfl rfl H0d zqu166 ?_)
   | (refine zqw rfl rfl rfl H0l zqu68 ?_)
   | (refine zqw rfl rfl rfl H0b zqu51 ?_)
   | (refine zqw rfl rfl rfl H0r zqu96 ?_)
   | fail)
  intro W2 hU;have H1d:=shK hU H0d (by omega);have H1l:=shK hU H0l (by omega);have H1b:=shK hU H0b (by omega);have H1r:Hid (Blk W2 (w.heap.size+1+1+1) #[zI 0,zI l.id,zI l.un,zI 0] 96):=hU.blk;have H1B:=shV hU H0B (by omega);have hsW2:W2.heap.size=W0.heap.size:=hU.size;clear hU H0d H0l H0b H0r H0B;clear qd0 ql0 ql6;obtain ⟨R0,R1,R2,R3⟩:=shc4 H1r;go_wp2_with fail;exact bodyPost_ret (v:= .agg #[zI 0,zI l.id,zI l.un,zI 0]) (by simp [results,Tryz.results124,R0.o,R1.o,R2.o,R3.o,go_sem]) rfl ⟨rfl,H1B.o⟩
end vnd
namespace words
open Go.RowKit
theorem eq1 (d:Nat) (a a':Int) (w:World):(Op.equalIn (d+1) 99 (.int .u32 a) (.int .u32 a')).run Tryz.prog w = .ok (a == a') w:=by
 simp [Op.equalIn,run_underlying Tryz.underlying99,go_sem]
theorem part0 (a b c:Int) (w:World):(part 99 #[.int .u32 a,.int .u32 b,.int .u32 c] 0).run Tryz.prog w = .ok (.int .u32 a) w:=by kernel_rfl
theorem part1 (a b c:Int) (w:World):(part 99 #[.int .u32 a,.int .u32 b,.int .u32 c] 1).run Tryz.prog w = .ok (.int .u32 b) w:=by kernel_rfl
theorem part2 (a b c:Int) (w:World):(part 99 #[.int .u32 a,.int .u32 b,.int .u32 c] 2).run Tryz.prog w = .ok (.int .u32 c) w:=by kernel_rfl
theorem eq3 (a b c a' b' c':Int) (w:World) :
  (Op.equalIn 10000 131 (.agg #[.int .u32 a,.int .u32 b,.int .u32 c]) (.agg #[.int .u32 a',.int .u32 b',.int .u32 c'])).run Tryz.prog w = .ok (a == a' && (b == b' && c == c')) w:=by
 obtain ⟨i0,hi⟩:∃ i,Tryz.prog.info? 99=some i:=⟨_,rfl⟩
 rw [show (10000:Nat)=9999+1 from rfl,run_equalIn_array (w:=w) 9999 _ _ Tryz.underlying131 hi,cells_word,show List.range 3=[0,1,2] from rfl];simp only [Op.eqItems,Sem.run_bind,Nat.mul_one,part0,Result.andThen_ok,show (9999:Nat)=9998+1 from rfl,eq1];by_cases ha:a=a'
 ·by_cases hb:b=b'
  ·by_cases hc:c=c'
   ·simp [part1,part2,Sem.run_bind,eq1,ha,hb,hc]
   ·simp [part1,part2,Sem.run_bind,eq1,ha,hb,hc]
  ·simp [part1,Sem.run_bind,eq1,ha,hb]
 ·simp [ha]
theorem eq3_same (x:W3) (w:World):(Op.equalIn 10000 131 (wv x) (wv x)).run Tryz.prog w = .ok true w:=by
 rw [eq3];simp
theorem eq3_other {x y:W3} (h:x≠y) (w:World):(Op.equalIn 10000 131 (wv x) (wv y)).run Tryz.prog w = .ok false w:=by
 rw [eq3];have:=agg_ne h
 congr 1
 simp;intro h1 h2 h3;exact this ⟨h1,h2,h3⟩
end words
end Go.Proofs.YtnpblpbohcegoaaGreatDoor
