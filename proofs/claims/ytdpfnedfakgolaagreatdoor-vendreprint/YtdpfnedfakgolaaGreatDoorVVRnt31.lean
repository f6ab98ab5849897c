import Derived.Test.YtdpfnedfakgolaaGreatDoorVVRnt29
import Derived.Test.YtdpfnedfakgolaaGreatDoorVVRnt30
set_option linter.unusedVariables false
set_option linter.unusedSimpArgs false
set_option maxHeartbeats 4000000
set_option maxRecDepth 100000
namespace Go.Proofs.YtdpfnedfakgolaaGreatDoor
namespace acc
open tar (Du du0 Came RowD Ld PairT)
open Go.RowKit
theorem right_wf {l:List Du} (h:tar.Right l):∀ x∈l,(Lit.int .i64 x.a).wf=true∧(Lit.int .i64 x.b).wf=true:=fun x hx=>by
 obtain ⟨i,hi,rfl⟩:=List.getElem_of_mem hx;have h1:=h.upto i hi;have h2:=h.price i hi;have e:l.getD i du0=l[i]:=by simp [List.getD,List.getElem?_eq_getElem hi]
 rw [e] at h1 h2;exact ⟨tar.wf_mid (by omega) (by omega),tar.wf_mid (by omega) (by omega)⟩
theorem ld_new {T:TypeId} {w:World} {base:Nat} {v:Value} {l:List Du} {p:Option Addr} {len cap:Nat} (h:tar.Ld T w base v l) (e:v = .slice p len cap) (hn:0<len) (y:Addr) (hy:p=some y):base≤y.block:=by
 subst e;subst hy;exact (World.ownsRow.lt h y.block (by simp [Value.ownBlock])).1
def GaveT (w:World) (e:Ending) (w':World):Prop:=∃ t p len cap,e = .returned (Tm.v t p len cap)∧TRight t∧Came w' p len cap t.ts∧(0<len→∀ y,p=some y→w.heap.size≤y.block)∧Below w.heap.size w w'
theorem agreed_any (t:Tm) (pt:Option Addr) (lt ct:Nat) (w:World) (h:TCame w t pt lt ct):Calls Tryz.prog 16 #[t.v pt lt ct] w fun e w'=>GaveT w e w':=by
 have HWF:Hid (wf4 t):=h.wf;unfold Tm.v;obtain ⟨W0,HWW,H0x,H0r,H0B,hs0⟩:=sh2 w #[.slice pt lt ct,zI t.ff,zI t.fb,zI t.db,zI t.al] 24 #[zS,zI 0,zI 0,zI 0,zI 0] 30;have H0C:Hid (TCame W0 t pt lt ct):=h.below H0B.o;go_enter Tryz.func16,Tryz.ntmps16;go_upto_region 1 with fail
 rw [HWW.o];clear HWW;clear h;have HP1:Hid (∀ W,Calls Tryz.prog 7 #[zI t.ff,zI 100001] W fun e w'=>e = .returned (zI (check.pick t.ff 100001))∧w'=W):=fun W=>check.picked_any t.ff 100001 W HWF.o.1 (by decide) (by decide);have hp10:=check.pick_nonneg t.ff 100001 (by decide);have hp11:=check.pick_lt t.ff 100001 (by decide);generalize (check.pick t.ff 100001)=z1 at *;have HP2:Hid (∀ W,Calls Tryz.prog 7 #[zI t.fb,zI 10001] W fun e w'=>e = .returned (zI (check.pick t.fb 10001))∧w'=W):=fun W=>check.picked_any t.fb 10001 W HWF.o.2.1 (by decide) (by decide);have hp20:=check.pick_nonneg t.fb 10001 (by decide);have hp21:=check.pick_lt t.fb 10001 (by decide);generalize (check.pick t.fb 10001)=z2 at *;have HP3:Hid (∀ W,Calls Tryz.prog 7 #[zI t.db,zI 10001] W fun e w'=>e = .returned (zI (check.pick t.db 10001))∧w'=W):=fun W=>check.picked_any t.db 10001 W HWF.o.2.2.1 (by decide) (by decide);have hp30:=check.pick_nonneg t.db 10001 (by decide);have hp31:=check.pick_lt t.db 10001 (by decide);generalize (check.pick t.db 10001)=z3 at *;have HP4:Hid (∀ W,Calls Tryz.prog 7 #[zI t.al,zI 2097152] W fun e w'=>e = .returned (zI (check.pick t.al 2097152))∧w'=W):=fun W=>check.picked_any t.al 2097152 W HWF.o.2.2.2 (by decide) (by decide);have hp40:=check.pick_nonneg t.al 2097152 (by decide);have hp41:=check.pick_lt t.al 2097152 (by decide);generalize (check.pick t.al 2097152)=z4 at *;have HOW:Hid (∀ W,Below W0.heap.size W0 W→Calls Tryz.prog 42 #[.slice pt lt ct] W fun e w'=>tar.GaveT W e w'):=fun W hW=>tar.stepped_any pt lt ct t.ts W (H0C.o.below hW).ts;have HB0:Hid (Below W0.heap.size W0 W0.drew):=(Below.refl _ _).drew;refine wp_region_held_drew (S:=fun v=>Blk v (w.heap.size) #[.slice pt lt ct,zI t.ff,zI t.fb,zI t.db,zI t.al] 24) (by kernel_rfl) (Blk.drew H0x.o 1) (fun hHeld=>?_);generalize W0.drew=U0 at *;refine zqs 0 3 (.pointer (some ⟨w.heap.size,0,none⟩)) rfl rfl (by kernel_rfl) zid rfl (fun v hv=>by clear hv;go_simp) hHeld ?_
 simp only [Act.put,zq];refine zqt 1 4 (.slice pt lt ct) rfl rfl (by kernel_rfl) zid (Or.inl ⟨by rfl,fun v hv=>by have h2:=hv.cell 0;simp at h2;clear hv;go_simp⟩) hHeld ?_;simp only [Act.put,zq];refine zqs 3 6 (.pointer (some ⟨w.heap.size,1,none⟩)) rfl rfl (by kernel_rfl) zid rfl (fun v hv=>by clear hv;go_simp) hHeld ?_;simp only [Act.put,zq];refine zqt 4 7 (zI t.ff) rfl rfl (by kernel_rfl) zid (Or.inl ⟨by rfl,fun v hv=>by have h2:=hv.cell 1;simp at h2;clear hv;go_simp⟩) hHeld ?_;simp only [Act.put,zq];refine zqs 6 9 (.pointer (some ⟨w.heap.size,2,none⟩)) rfl rfl (by kernel_rfl) zid rfl (fun v hv=>by clear hv;go_simp) hHeld ?_;simp only [Act.put,zq];refine zqt 7 10 (zI t.fb) rfl rfl (by kernel_rfl) zid (Or.inl ⟨by rfl,fun v hv=>by have h2:=hv.cell 2;simp at h2;clear hv;go_simp⟩) hHeld ?_;simp only [Act.put,zq];refine zqs 9 12 (.pointer (some ⟨w.heap.size,3,none⟩)) rfl rfl (by kernel_rfl) zid rfl (fun v hv=>by clear hv;go_simp) hHeld ?_;simp only [Act.put,zq];refine zqt 10 13 (zI t.db) rfl rfl (by kernel_rfl) zid (Or.inl ⟨by rfl,fun v hv=>by have h2:=hv.cell 3;simp at h2;clear hv;go_simp⟩) hHeld ?_;simp only [Act.put,zq];refine zqs 12 15 (.pointer (some ⟨w.heap.size,4,none⟩)) rfl rfl (by kernel_rfl) zid rfl (fun v hv=>by clear hv;go_simp) hHeld ?_;simp only [Act.put,zq];refine zqt 13 16 (zI t.al) rfl rfl (by kernel_rfl) zid (Or.inl ⟨by rfl,fun v hv=>by have h2:=hv.cell 4;simp at h2;clear hv;go_simp⟩) hHeld ?_;simp only [Act.put,zq];refine zqo 2 (by kernel_rfl) rfl (fun K hK=>?_);rw [if_pos (by rfl)];refine wp_callOp 5 rfl (by clear hK;go_simp) (HOW.o U0 HB0.o) ?_;rintro e U1 ⟨v,ls,rfl,hrt,hld,hb⟩;obtain ⟨pb,cb,rfl,hcm⟩:=hld.came (by have:=hrt.1.2;omega) (right_wf hrt);have HNW:Hid (0<ls.length→∀ y,pb=some y→W0.heap.size≤y.block):=fun hn y hy=>Nat.le_trans HB0.o.size (ld_new hld rfl hn y hy);have HRT:Hid (tar.Right ls):=hrt;have HCM:Hid (Came U1 pb ls.length cb ls):=hcm
 have HB1:=shB HB0 hb;have HR1:Hid (Blk U1 (w.heap.size+1) #[zS,zI 0,zI 0,zI 0,zI 0] 30):=H0r.o.next HB1.o;have HBW:Hid (Below w.heap.size w U1):=H0B.o.trans (HB1.o.mono H0B.o.size);refine ⟨_,rfl,hK.o _ _ (H0x.o.next HB1.o) (fun hHeld=>?_)⟩;clear hK hb hld hrt hcm HB0;simp only [Act.put,zq];refine call_at 5 8 (zI z1) _ rfl rfl (by kernel_rfl) (by kernel_rfl) (by kernel_rfl) zid 7 #[zI t.ff,zI 100001] ⟨by rfl,fun v hv=>by clear hv;go_simp⟩ (fun v _=>HP1.o v) hHeld ?_;simp only [Act.put,zq];refine call_at 8 11 (zI z2) _ rfl rfl (by kernel_rfl) (by kernel_rfl) (by kernel_rfl) zid 7 #[zI t.fb,zI 10001] ⟨by rfl,fun v hv=>by clear hv;go_simp⟩ (fun v _=>HP2.o v) hHeld ?_;simp only [Act.put,zq];refine call_at 11 14 (zI z3) _ rfl rfl (by kernel_rfl) (by kernel_rfl) (by kernel_rfl) zid 7 #[zI t.db,zI 10001] ⟨by rfl,fun v hv=>by clear hv;go_simp⟩ (fun v _=>HP3.o v) hHeld ?_;simp only [Act.put,zq];refine call_at 14 17 (zI z4) _ rfl rfl (by kernel_rfl) (by kernel_rfl) (by kernel_rfl) zid 7 #[zI t.al,zI 2097152] ⟨by rfl,fun v hv=>by clear hv;go_simp⟩ (fun v _=>HP4.o v) hHeld ?_;simp only [Act.put,zq];refine zqs 15 18 (.agg #[.slice pb ls.length cb,zI z1,zI z2,zI z3,zI z4]) rfl rfl (by kernel_rfl) zid rfl (fun v hv=>by clear hv;go_simp) hHeld ?_;simp only [Act.put,zq];refine zqo 16 (by kernel_rfl) rfl (fun K hK=>?_);rw [if_pos (by rfl)];refine wp_letOp 30 _ _ rfl (w.heap.size+1) rfl #[.slice pb ls.length cb,zI z1,zI z2,zI z3,zI z4] rfl (by kernel_rfl) (by simp [Value.oneCell']) #[zS,zI 0,zI 0,zI 0,zI 0] 30 HR1.o rfl rfl ?_;intro U2 hU;have HR2:Hid (Blk U2 (w.heap.size+1) #[.slice pb ls.length cb,zI z1,zI z2,zI z3,zI z4] 30):=hU.blk;have HC2:Hid (Came U2 pb ls.length cb ls):=came_upd HCM.o hU (fun hn y hy=>by have:=HNW.o hn y hy;omega);have HBZ:=shV hU HBW (by omega);have HX2:Hid (Blk U2 (w.heap.size) #[.slice pt lt ct,zI t.ff,zI t.fb,zI t.db,zI t.al] 24):=hU.keep (H0x.o.next HB1.o) (by omega)
 clear HCM HR1 HBW;refine hK.o _ _ HX2.o (fun hHeld=>?_);clear hK K hU;refine wpAnyH_done (by kernel_rfl) ?_ _;clear hHeld HX2;obtain ⟨R0,R1,R2,R3,R4⟩:=shc5 HR2;go_wp2_with fail;exact bodyPost_ret (v:= .agg #[.slice pb ls.length cb,zI z1,zI z2,zI z3,zI z4]) (by simp [results,Tryz.results16,R0.o,R1.o,R2.o,R3.o,R4.o,go_sem]) rfl ⟨⟨ls,z1,z2,z3,z4⟩,pb,ls.length,cb,rfl,⟨HRT.o,⟨hp10,by show z1≤100000;omega⟩,⟨hp20,by show z2≤10000;omega⟩,⟨hp30,by show z3≤10000;omega⟩,hp40,by show z4≤2097151;omega⟩,HC2.o,fun hn y hy=>Nat.le_trans (by omega) (HNW.o hn y hy),HBZ.o⟩
end acc
namespace vnd
open book (Ev ev0 EMay evL evOf EncIs DecIs Cm cm0 So so0 BookIs FirstAt NoneAt Tells soldOf StepIs HapIs)
open acc (Ac Tm Bi OweIs)
open ora (Pr pr0 IssueIs)
open cell (Wr wrt)
open rcp (Rc rc0)
open token (Tok fmtL)
def Few (bk:List Cm) (n:Nat):Prop:=bk.length≤n∧∀ c∈bk,c.so.length+bk.length≤n
theorem Few.next {bk:List Cm} {n:Nat} (h:Few bk n):Few bk (n+1):=⟨by have:=h.1;omega,fun c hc=>by have:=h.2 c hc;omega⟩
theorem hap_one {t:Tm} {c c':Cm} {v:Ev} (h:HapIs t c v c' 0):c'.so.length≤c.so.length+1:=by
 rcases h with ⟨p,b,q,r⟩ | ⟨p,b,l,e,q,⟨x,r⟩ | ⟨_,_,r⟩ | ⟨rfl,y,_,z⟩⟩
 ·rw [r rfl];simp
 ·exact absurd r.symm x
 ·cases r
 ·rw [z];simp
theorem step_few {t:Tm} {bk bk':List Cm} {v:Ev} {n:Nat} (h:StepIs t bk v bk' 0) (hn:Few bk n):Few bk' (n+1):=by
 rcases h with ⟨_,r⟩ | ⟨_,_,_,r⟩ | ⟨_,_,_,_,s⟩ | ⟨_,_,_,r⟩ | ⟨p,q,k,c',hk,hh,s⟩
 ·cases r
 ·cases r
 ·rw [s];refine ⟨by rw [List.length_append];have:=hn.1;simp;omega,fun c hc=>?_⟩;rw [List.length_append];rcases List.mem_append.1 hc with h | h
  ·have:=hn.2 c h;simp;omega
  ·rw [List.mem_singleton.1 h];have:=hn.1;simp;omega
 ·cases r
 ·rw [s rfl];refine ⟨by rw [List.length_set];have:=hn.1;omega,fun c hc=>?_⟩;rw [List.length_set];rcases List.mem_or_eq_of_mem_set hc with h | h
  ·have:=hn.2 c h;omega
  ·have hin:bk.getD k cm0∈bk:=by
    have e:bk.getD k cm0=bk[k]'hk.1:=by simp [List.getD,List.getElem?_eq_getElem hk.1]
    rw [e];exact List.getElem_mem _
   have h1:=hn.2 _ hin;have h2:=hap_one hh;rw [h];omega
theorem book_few {t:Tm} {l:List Ev} {bk:List Cm} (h:BookIs t l bk 0 0):Few bk l.length:=by
 obtain ⟨_,_,_,st,s0,s1,rfl⟩:=book_ok h
 have:∀ i,i≤l.length→Few (st i) i:=by
  intro i
  induction i with
  | zero=>intro _;rw [s0];exact ⟨Nat.le_refl _,fun c hc=>by cases hc⟩
  | succ i ih=>intro hi;exact step_few (s1 i (by omega)) (ih (by omega))
 exact this _ (Nat.le_refl _)
theorem in_at {bk:List Cm} {k:Nat} (hk:k<bk.length):bk.getD k cm0∈bk:=by
 have e:bk.getD k cm0=bk[k]'hk:=by simp [List.getD,List.getElem?_eq_getElem hk]
 rw [e];exact List.getElem_mem _
theorem three_some {bk:List Cm} (h:Three bk) {me:Int} (h0:0≤me) (h1:me<3):¬ NoneAt bk me:=fun hn=>by
 have h2:=hn me.toNat (by rw [h.1];omega);rw [h.2 me.toNat (by omega)] at h2;omega
theorem none_thirteen {t:Tm} {c:List Int} {n:Nat} {l:List Ev} {bk:List Cm} {me:Int} {s:List UInt8} {f:Int} (h:Shop t c n l bk) (h3:Three bk) (hl:l.length≤15) (h0:0≤me) (h1:me<3) (hr:RepIsP t c me 13 s f):f=22:=by
 obtain ⟨bk2,g,hl2,hh⟩:=hr;obtain ⟨rfl,rfl⟩:=hl2.one h.load;rcases hh with ⟨p,_⟩ | ⟨_,q,_⟩ | ⟨_,k,hfi,⟨_,_,hf⟩ | ⟨j,hj,hji,_⟩⟩
 ·exact absurd rfl p
 ·exact absurd q (three_some h3 h0 h1)
 ·exact hf
 ·have h4:=(book_few h.book).2 _ (in_at hfi.1);have h5:=((book_num h.book _ (in_at hfi.1)).2 j hj).1;have:=h3.1;omega
def ptk (z:So) (id:Int):List UInt8:=fmtL (97*(Tok.mk z.cl.toNat id.toNat z.am.toNat z.tg.toNat).num)
theorem ptk_sold (c:Cm) (kd me mo:Int) (lb:Bi) (tg:Int):ptk (soldOf c (tokE kd me mo lb tg)) lb.id=fmtL (97*(tokB kd c.a.rv lb tg).num):=by
 unfold ptk soldOf tokB;by_cases h4:kd=4
 ·rw [if_pos h4,if_pos (show (tokE kd me mo lb tg).kd=4 from h4)];rfl
 ·rw [if_neg h4,if_neg (show ¬ (tokE kd me mo lb tg).kd=4 from h4)];rfl
def Printed (bk:List Cm) (me id:Int) (tk:List UInt8):Prop:=∃ k,FirstAt bk me k∧∃ j,j<(bk.getD k cm0).so.length∧((bk.getD k cm0).so.getD j so0).id=id∧tk=ptk ((bk.getD k cm0).so.getD j so0) id
theorem Printed.next {bk bk':List Cm} {me id:Int} {tk:List UInt8} (h:Printed bk me id tk) (hg:Grows bk bk'):Printed bk' me id tk:=by
 obtain ⟨k,hfi,j,hj,hid,htk⟩:=h;obtain ⟨hme,s,hs⟩:=hg.2 k hfi.1
 have hat:(bk'.getD k cm0).so.getD j so0=(bk.getD k cm0).so.getD j so0:=by
  rw [hs];generalize (bk.getD k cm0).so=A at hj ⊢;simp [List.getD,List.getElem?_append_left hj]
 refine ⟨k,⟨Nat.lt_of_lt_of_le hfi.1 hg.1,by rw [hme];exact hfi.2.1,fun i hi=>?_⟩,j,by rw [hs,List.length_append];omega,by rw [hat];exact hid,by rw [hat];exact htk⟩;rw [(hg.2 i (by have:=hfi.1;omega)).1];exact hfi.2.2 i hi
theorem Printed.rep {t:Tm} {c:List Int} {bk:List Cm} {me id:Int} {tk s:List UInt8} {f:Int} (h:Printed bk me id tk) (hn:∀ x∈bk,Num x) (hl:LoadIs t c bk 0) (hr:RepIsP t c me id s f):f=0∧s=tk:=by
 obtain ⟨k,hfi,j,hj,hid,rfl⟩:=h;obtain ⟨bk2,g,hl2,hh⟩:=hr;obtain ⟨rfl,rfl⟩:=hl2.one hl;rcases hh with ⟨p,_⟩ | ⟨_,q,_⟩ | ⟨_,k2,hfi2,hh⟩
 ·exact absurd rfl p
 ·exact absurd q hfi.some
 ·obtain rfl:=hfi.one hfi2;rcases hh with ⟨q,_⟩ | ⟨j2,hj2,hji,hjf,rfl,rfl⟩
  ·exact absurd hid (q j hj)
  ·have hnu:=hn _ (in_at hfi.1);have h1:=(hnu.2 j hj).1;have h2:=(hnu.2 j2 hj2).1;obtain rfl:j=j2:=by omega
   exact ⟨rfl,rfl⟩
theorem tok_printed {kd:Int} {t:Tm} {bk:List Cm} {me mo:Int} {k:Nat} {b:Ac} {lb:Bi} {tg:Int} (hfi:FirstAt bk me k) (hte:Tells t (bk.getD k cm0) (tokE kd me mo lb tg) b lb 0) :
  Printed (bk.set k ⟨b,(bk.getD k cm0).so++[soldOf (bk.getD k cm0) (tokE kd me mo lb tg)]⟩) me lb.id (fmtL (97*(tokB kd (bk.getD k cm0).a.rv lb tg).num)):=by
 obtain ⟨hb1,_,_,_⟩:=tells_same hte;have hat:∀ i,((bk.set k ⟨b,(bk.getD k cm0).so++[soldOf (bk.getD k cm0) (tokE kd me mo lb tg)]⟩).getD i cm0)=if i=k then ⟨b,(bk.getD k cm0).so++[soldOf (bk.getD k cm0) (tokE kd me mo lb tg)]⟩ else bk.getD i cm0:=fun i=>getD_setC _ _ _ _ hfi.1
 refine ⟨k,⟨by rw [List.length_set];exact hfi.1,?_,fun j hj=>?_⟩,(bk.getD k cm0).so.length,?_,?_,?_⟩
 ·rw [hat,if_pos rfl];show b.me=me;rw [hb1];exact hfi.2.1
 ·rw [hat,if_neg (by omega)];exact hfi.2.2 j hj
 ·rw [hat,if_pos rfl];show _<((bk.getD k cm0).so++[_]).length;rw [List.length_append];simp
 ·rw [hat,if_pos rfl];show (((bk.getD k cm0).so++[_]).getD _ so0).id=_;rw [so_new];unfold soldOf;split <;> rfl
 ·rw [hat,if_pos rfl,← ptk_sold (bk.getD k cm0) kd me mo lb tg];generalize soldOf (bk.getD k cm0) (tokE kd me mo lb tg)=z;generalize (bk.getD k cm0).so=A;show ptk z lb.id=ptk ((A++[z]).getD A.length so0) lb.id;rw [so_new]
theorem serve_printed {t:Tm} {c:List Int} {n:Nat} {l:List Ev} {bk:List Cm} {o:List Pr} {x:Od} {ls:List Wr} {o':List Pr} {r:Rc} (h:Shop t c n l bk) (h3:Three bk) (hn:l.length<120) (hf:14*l.length+13<n) (hs:ServedIs t c o x ls o' r 0):∃ v bk',Stepped t c n l bk v bk' ls∧Three bk'∧(r=rc0∨Printed bk' (check.pick x.m 3) r.id r.tk):=by
 rcases hs with ⟨_,hc,_,rfl⟩ | ⟨_,hc⟩ | ⟨_,hc⟩ | ⟨_,hc⟩
 ·obtain ⟨k,b,hfi,ho,hv,hst,hke⟩:=cha_owe h.load hc;exact ⟨_,_,stepped h hn hf hv hst hke,three_set h3 hst,.inl rfl⟩
 ·obtain ⟨k,b,l2,tg,hfi,hte,_,hv,hst,hke,rfl⟩:=tok_step (.inr (.inl rfl)) h.load hc;exact ⟨_,_,stepped h hn hf hv hst hke,three_set h3 hst,.inr (tok_printed hfi hte)⟩
 ·obtain ⟨k,b,l2,tg,hfi,hte,_,hv,hst,hke,rfl⟩:=tok_step (.inr (.inr ⟨rfl,rfl⟩)) h.load hc;exact ⟨_,_,stepped h hn hf hv hst hke,three_set h3 hst,.inr (tok_printed hfi hte)⟩
 ·obtain ⟨k,b,l2,tg,hfi,hte,_,hv,hst,hke,rfl⟩:=tok_step (.inl rfl) h.load hc;exact ⟨_,_,stepped h hn hf hv hst hke,three_set h3 hst,.inr (tok_printed hfi hte)⟩
open acc (SellIs GrantIs RekeyIs)
theorem sell_tok {a:Ac} {t:Tm} {te m:Int} {b:Ac} {l:Bi} (h:SellIs a t te m b l 0):(1≤l.id∧l.id≤1048575)∧1≤l.un∧l.un≤2097151:=by
 rcases h with ⟨h,rfl,rfl⟩ | ⟨_,_,h,_⟩ | ⟨_,_,_,h,_⟩ | ⟨hr,ht,hn,_,u,hu,rfl,rfl⟩
 ·rcases h with ⟨_,h⟩ | ⟨_,h1,h2⟩ | ⟨_,_,_,h⟩
  ·cases h
  ·exact absurd (h2.ok.1 rfl) h1
  ·exact absurd rfl h.ne
 ·cases h
 ·cases h
 ·have h1:=hr.1.2.2.2.1.1;have h2:=hu.1;unfold tar.Top at h2;have h3:u≠0:=fun e=>ht.2.2 (by rw [← e];exact hu);refine ⟨⟨h1,hn⟩,?_,?_⟩
  ·show 1≤u;omega
  ·show u≤2097151;omega
theorem grant_tok {a:Ac} {t:Tm} {m:Int} {b:Ac} {l:Bi} (h:GrantIs a t m b l 0):(1≤l.id∧l.id≤1048575)∧1≤l.un∧l.un≤2097151:=by
 rcases h with ⟨h,rfl,rfl⟩ | ⟨_,_,h,_⟩ | ⟨_,_,_,h,_⟩ | ⟨_,_,_,_,h,_⟩ | ⟨hr,ha,_,hn,_,rfl,rfl⟩
 ·rcases h with ⟨_,h⟩ | ⟨_,h1,h2⟩ | ⟨_,_,_,h⟩
  ·cases h
  ·exact absurd (h2.ok.1 rfl) h1
  ·exact absurd rfl h.ne
 ·cases h
 ·cases h
 ·cases h
 ·have h1:=hr.1.2.2.2.1.1;have h2:=hr.2.1.2.2.2.2;refine ⟨⟨h1,hn⟩,?_,?_⟩
  ·show 1≤t.al;have:=h2.1;omega
  ·exact h2.2
theorem rekey_tok {a:Ac} {b:Ac} {l:Bi} (h:RekeyIs a b l 0):(1≤l.id∧l.id≤1048575)∧1≤a.rv+1∧a.rv+1≤15:=by
 rcases h with ⟨_,_,_,h⟩ | ⟨_,_,_,_,h⟩ | ⟨_,_,_,_,_,h⟩ | ⟨ha,hr,hn,rfl,rfl,_⟩
 ·cases h
 ·cases h
 ·cases h
 ·exact ⟨⟨ha.2.2.2.1.1,hn⟩,by have:=ha.2.2.1.1;omega,by omega⟩
theorem tokB_ok {kd rv:Int} {l:Bi} {tg:Int} (hk:kd≠4) (h:(1≤l.id∧l.id≤1048575)∧1≤l.un∧l.un≤2097151) (ht:0≤tg∧tg≤65535):(tokB kd rv l tg).ok∧(tokB kd rv l tg).v = .agg #[zI 0,zI l.id,zI l.un,zI tg]:=by
 have e:tokB kd rv l tg=⟨0,l.id.toNat,l.un.toNat,tg.toNat⟩:=by unfold tokB;rw [if_neg hk]
 rw [e];refine ⟨⟨by show (0:Nat)≤3;omega,?_,?_,?_,?_,fun _=>?_,(fun h=>by cases h),fun h=>by rcases h with h | h <;> cases h⟩,?_⟩
 ·show 1≤l.id.toNat;omega
 ·show l.id.toNat≤1048575;omega
 ·show tg.toNat≤65535;omega
 ·show l.un.toNat≤2097151;omega
 ·show 1≤l.un.toNat;omega
 ·unfold token.Tok.v;show Value.agg #[zI ((0:Nat):Int),zI (l.id.toNat:Int),zI (l.un.toNat:Int),zI (tg.toNat:Int)]=_;rw [Int.toNat_of_nonneg (by omega),Int.toNat_of_nonneg (by omega),Int.toNat_of_nonneg ht.1];rfl
theorem tokB_ok4 {rv:Int} {l:Bi} {tg:Int} (h:(1≤l.id∧l.id≤1048575)∧1≤rv+1∧rv+1≤15) (ht:0≤tg∧tg≤65535):(tokB 4 rv l tg).ok∧(tokB 4 rv l tg).v = .agg #[zI 2,zI l.id,zI (rv+1),zI tg]:=by
 have e:tokB 4 rv l tg=⟨2,l.id.toNat,(rv+1).toNat,tg.toNat⟩:=by unfold tokB;rw [if_pos rfl]
 rw [e];refine ⟨⟨by show (2:Nat)≤3;omega,?_,?_,?_,?_,(fun h=>by cases h),fun _=>⟨?_,?_⟩,fun h=>by rcases h with h | h <;> cases h⟩,?_⟩
 ·show 1≤l.id.toNat;omega
 ·show l.id.toNat≤1048575;omega
 ·show tg.toNat≤65535;omega
 ·show (rv+1).toNat≤2097151;omega
 ·show 1≤(rv+1).toNat;omega
 ·show (rv+1).toNat≤15;omega
 ·unfold token.Tok.v;show Value.agg #[zI ((2:Nat):Int),zI (l.id.toNat:Int),zI ((rv+1).toNat:Int),zI (tg.toNat:Int)]=_;rw [Int.toNat_of_nonneg (by omega),Int.toNat_of_nonneg (by omega),Int.toNat_of_nonneg ht.1];rfl
theorem issue_tag {l ls:List Pr} {m r b d x:Int} (h:IssueIs l m r b d ls x 0):0≤x∧x≤65535:=by
 rcases h with ⟨_,_,_,h⟩ | ⟨_,_,_,_,h⟩ | ⟨hm,hp,⟨i,hi,rfl⟩,_,_⟩ | ⟨_,_,_,_,_,_,h⟩ | ⟨_,hp,_,_,_,rfl,_⟩
 ·cases h
 ·cases h
 ·exact (hm.each i hi.lt).1.2.2.2
 ·cases h
 ·exact hp.2.2.2
open disk (RepIs AppIs)
open book (Sees ECame)
open acc (TCame ACame)
open cell (RowU)
open Go.RowKit
theorem enc_yes {v:Ev} {ws:List Int} {g:Int} (h:EncIs v ws g) (hv:EMay v):(∀ x∈ws,0≤x∧x<4294967296)∧g=0:=by
 rcases h with ⟨_,rfl,rfl⟩ | ⟨n,_⟩
 ·exact ⟨book.may_word hv,rfl⟩
 ·exact absurd hv n
theorem pkeep (p2:Option Addr) (m2 c2:Nat) (a:Option Addr) (n cap:Nat) (c:List Int) (l:List Ev) (v:Ev) (w:World) (h:Dk w a n cap c) (hk:KeptIs c l 0) (hl:l.length≤120) (hv:EMay v):Calls Tryz.prog 43 #[.agg #[.slice p2 m2 c2,.slice a n cap,zI (l.length:Int)],.agg #[zI v.kd,zI v.me,zI v.mo,zI v.id,zI v.te,zI v.de,zI v.fe,zI v.pr,zI v.ch,zI v.un,zI v.tg,zI v.ow,zI v.bp]] w fun e w'=>WrGot w (KeepIs c v) e w':=by
 have HC:Hid (∀ W,Below w.heap.size w W→Dk W a n cap c):=fun W hW=>h.below hW;have HKI:Hid (KeptIs c l 0):=hk;have HV:Hid (EMay v):=hv;clear h hk hv;obtain ⟨W0,HWW,H0s,H0v,H0B,hs0⟩:=sh2 w #[.slice p2 m2 c2,.slice a n cap,zI (l.length:Int)] 78 #[zI v.kd,zI v.me,zI v.mo,zI v.id,zI v.te,zI v.de,zI v.fe,zI v.pr,zI v.ch,zI v.un,zI v.tg,zI v.ow,zI v.bp] 125;go_enter Tryz.func43,Tryz.ntmps43;go_upto_region 1 with fail
 rw [HWW.o];clear HWW;by_cases h1:l.length=120
 ·have d1:((l.length:Int) == 120)=true:=by simp;omega
  have HF:Hid (KeepIs c v [] 16):=⟨l,0,HKI.o,.inl ⟨by omega,rfl,rfl⟩⟩
  clear h1;have qs2:W0.cell? ⟨w.heap.size,2,none⟩=some (zI (l.length:Int)):=H0s.o.cell 2
  go_wp2_with (first
   | (refine zqw rfl rfl rfl H0s zqu78 ?_)
   | (refine zqw rfl rfl rfl H0v zqu125 ?_)
   | fail)
  go_ret2;exact ⟨none,0,0,[],16,rfl,HF.o,⟨rfl,.inl rfl⟩,(fun x hx=>by cases hx),Nat.le_refl _,Nat.zero_le _,H0B.o⟩
 ·have d1:((l.length:Int) == 120)=false:=by simp;omega
  have hl2:Hid (l.length<120):=(by omega:l.length<120)
  clear h1 hl;have HEN:Hid (Calls Tryz.prog 70 #[.agg #[zI v.kd,zI v.me,zI v.mo,zI v.id,zI v.te,zI v.de,zI v.fe,zI v.pr,zI v.ch,zI v.un,zI v.tg,zI v.ow,zI v.bp]] W0 fun e w'=>book.EncGot W0 v e w'):=book.kenc W0 v (book.wf_may HV.o);have qs2:W0.cell? ⟨w.heap.size,2,none⟩=some (zI (l.length:Int)):=H0s.o.cell 2
  go_wp2_with (first
   | (refine zqw rfl rfl rfl H0s zqu78 ?_)
   | (refine zqw rfl rfl rfl H0v zqu125 ?_)
   | fail)
  refine HEN.o.mono ?_;rintro e w1 ⟨ra,rn,rc,ws,g,rfl,hen,hrw,hrn,hrc,hr13,hb1⟩;have H1s:=shN H0s hb1;have H1v:=shN H0v hb1;have H1B:=shB H0B hb1;have hsw1:W0.heap.size≤w1.heap.size:=hb1.size;clear hb1 H0s H0v H0B;clear qs2;obtain ⟨hws,rfl⟩:=enc_yes hen HV.o;have HEI:Hid (EncIs v ws 0):=hen;clear hen HEN;have HAP:Hid (Calls Tryz.prog 71 #[.slice a n cap,.slice ra rn rc] w1 fun e w'=>disk.AppGot w1 c ws e w'):=(fun d:Dk w1 a n cap c=>disk.kappend w1 a n cap c ra rn rc ws d.row d.nil d.room d.bytes d.wd hrw hrn hrc (by omega) hws) (HC.o _ H1B.o)
  clear hrw hrn hrc hws;have qs1:w1.cell? ⟨w.heap.size,1,none⟩=some (.slice a n cap):=H1s.o.cell 1
  go_wp2_with (first
   | (refine zqw rfl rfl rfl H1s zqu78 ?_)
   | (refine zqw rfl rfl rfl H1v zqu125 ?_)
   | fail)
  refine HAP.o.mono ?_;rintro e w2 ⟨p3,m3,c3,ls,f3,rfl,hrow,hnew,hle,hsm,hai,hb2⟩;have H2s:=shN H1s hb2;have H2v:=shN H1v hb2;have H2B:=shB H1B hb2;have hsw2:w1.heap.size≤w2.heap.size:=hb2.size;clear hb2 H1s H1v H1B;clear qs1;have HF:Hid (KeepIs c v ls f3):=⟨l,0,HKI.o,.inr ⟨hl2.o,ws,0,HEI.o,.inr ⟨rfl,hai⟩⟩⟩
  have HRW:Hid (cell.RowW w2 p3 m3 ls):=hrow;have HNW:Hid (∀ x,p3=some x→w.heap.size≤x.block):=fun x hx=>Nat.le_trans (by omega) (hnew x hx);clear hrow hnew hai HAP HEI HKI HC hl2;go_wp2_with fail;go_ret2;exact ⟨p3,m3,c3,ls,f3,rfl,HF.o,HRW.o,HNW.o,hle,hsm,H2B.o⟩
def CusP (w:World) (bk:List Cm) (me:Int) (e:Ending) (w':World):Prop:=Below w.heap.size w w'∧((e = .returned (.tuple #[.agg #[zI 0,zI 0,zI 0,zI 0,zI 0,zI 0,zS,zS],zI 18])∧NoneAt bk me) ∨
 ∃ k dp dn dc sp sn sc,e = .returned (.tuple #[.agg #[zI (bk.getD k cm0).a.me,zI (bk.getD k cm0).a.rv,zI (bk.getD k cm0).a.nx,zI (bk.getD k cm0).a.mo,zI (bk.getD k cm0).a.bo,zI (bk.getD k cm0).a.fr,.slice dp dn dc,.slice sp sn sc],zI 0])∧FirstAt bk me k∧k<bk.length∧tar.Came w dp dn dc (bk.getD k cm0).a.ds∧book.RowS w sp sn (bk.getD k cm0).so)
theorem find_first {xs:List book.Cu} {bk:List Cm} {me x f:Int} (hl:xs.length=bk.length) (hn:∀ i,i<xs.length→book.Nums (xs.getD i book.cu0) (bk.getD i cm0).a) (h:book.FindIs xs me x f):(f=18∧NoneAt bk me)∨(∃ k:Nat,x=(k:Int)∧f=0∧FirstAt bk me k∧k<xs.length):=by
 rcases h with ⟨k,h1,h2,h3,h4,h5⟩ | ⟨h1,h2,h3⟩
 ·refine .inr ⟨k,h4,h5,⟨by rw [← hl];exact h1,by rw [← (hn k h1).1];exact h2,fun j hj=>by rw [← (hn j (by omega)).1];exact h3 j hj⟩,h1⟩
 ·exact .inl ⟨h3,fun j hj=>by rw [← (hn j (by rw [hl];exact hj)).1];exact h1 j (by rw [hl];exact hj)⟩
theorem pcust (p2:Option Addr) (m2 c2:Nat) (xs:List book.Cu) (bk:List Cm) (a:Option Addr) (n cap:Nat) (q me:Int) (w:World) (h:Sees w p2 m2 xs bk) (hm:m2≤120):Calls Tryz.prog 34 #[.agg #[.slice p2 m2 c2,.slice a n cap,zI q],zI me] w fun e w'=>CusP w bk me e w':=by
 have HSE:Hid (Sees w p2 m2 xs bk):=h;clear h;obtain ⟨W0,HWW,H0s,H0r,H0B,hs0⟩:=sh2 w #[.slice p2 m2 c2,.slice a n cap,zI q] 78 #[zI 0,zI 0,zI 0,zI 0,zI 0,zI 0,zS,zS] 64;go_enter Tryz.func34,Tryz.ntmps34;go_upto_region 1 with fail
 rw [HWW.o];clear HWW;have HFI:Hid (Calls Tryz.prog 65 #[.agg #[.slice p2 m2 c2],zI me] W0 fun e w'=>book.FindPost W0 xs me e w'):=book.pfind W0 p2 m2 c2 xs me (HSE.o.below H0B.o).row (by omega);have qs0:W0.cell? ⟨w.heap.size,0,none⟩=some (.slice p2 m2 c2):=H0s.o.cell 0
 go_wp2_with (first
  | (refine zqw rfl rfl rfl H0s zqu78 ?_)
  | (refine zqw rfl rfl rfl H0r zqu64 ?_)
  | fail)
 refine HFI.o.mono ?_;rintro e w1 ⟨x,f,rfl,hfi,hb1⟩;have H1s:=shN H0s hb1;have H1r:=shN H0r hb1;have H1B:=shB H0B hb1;have hsw1:W0.heap.size≤w1.heap.size:=hb1.size;clear hb1 H0s H0r H0B;clear qs0;have hff:=find_first HSE.o.len HSE.o.num hfi;clear hfi HFI;rcases hff with ⟨rfl,hnone⟩ | ⟨k,rfl,rfl,hfirst,hkx⟩
 ·have HNO:Hid (NoneAt bk me):=hnone;clear hnone
  go_wp2_with (first
   | (refine zql rfl rfl rfl rfl zqu64 (by simp [Value.oneCell']) H1r rfl ?_)
   | (refine zqw rfl rfl rfl H1s zqu78 ?_)
   | (refine zqw rfl rfl rfl H1r zqu64 ?_)
   | fail)
  intro W2 hU;have H2s:=shK hU H1s (by omega);have H2r:Hid (Blk W2 (w.heap.size+1) #[zI 0,zI 0,zI 0,zI 0,zI 0,zI 0,zS,zS] 64):=hU.blk;have H2B:=shV hU H1B (by omega);have hsW2:W2.heap.size=w1.heap.size:=hU.size;clear hU H1s H1r H1B;have Rr0:Hid (W2.cell? ⟨w.heap.size+1,0,none⟩=some (zI 0)):=H2r.o.cell 0;have Rr1:Hid (W2.cell? ⟨w.heap.size+1,1,none⟩=some (zI 0)):=H2r.o.cell 1;have Rr2:Hid (W2.cell? ⟨w.heap.size+1,2,none⟩=some (zI 0)):=H2r.o.cell 2;have Rr3:Hid (W2.cell? ⟨w.heap.size+1,3,none⟩=some (zI 0)):=H2r.o.cell 3;have Rr4:Hid (W2.cell? ⟨w.heap.size+1,4,none⟩=some (zI 0)):=H2r.o.cell 4;have Rr5:Hid (W2.cell? ⟨w.heap.size+1,5,none⟩=some (zI 0)):=H2r.o.cell 5;have Rr6:Hid (W2.cell? ⟨w.heap.size+1,6,none⟩=some (zS)):=H2r.o.cell 6;have Rr7:Hid (W2.cell? ⟨w.heap.size+1,7,none⟩=some (zS)):=H2r.o.cell 7;go_wp2_with fail;exact bodyPost_ret (v:= .tuple #[.agg #[zI 0,zI 0,zI 0,zI 0,zI 0,zI 0,zS,zS],zI 18]) (by simp [results,Tryz.results34,Rr0.o,Rr1.o,Rr2.o,Rr3.o,Rr4.o,Rr5.o,Rr6.o,Rr7.o,go_sem]) rfl ⟨H2B.o,.inl ⟨rfl,HNO.o⟩⟩
 ·have HFT:Hid (FirstAt bk me k):=hfirst;have HSW:Hid (Sees w1 p2 m2 xs bk):=HSE.o.below H1B.o;have HKB:Hid (k<bk.length):=by rw [← HSE.o.len];exact hkx
  have HDS:Hid (tar.Came w (xs.getD k book.cu0).dp (xs.getD k book.cu0).dn (xs.getD k book.cu0).dc (bk.getD k cm0).a.ds∧book.RowS w (xs.getD k book.cu0).sp (xs.getD k book.cu0).sn (bk.getD k cm0).so):=⟨HSE.o.ds k hkx,HSE.o.so k hkx⟩
  obtain ⟨cb,co,hpp,hcl,hcc⟩:∃ b off,p2=some ⟨b,off,none⟩∧b<w1.heap.size∧∀ i j,i<m2→j<8→w1.cell? ⟨b,off+i*8+j,none⟩=(xs.getD i book.cu0).cs[j]?:=by
   rcases HSW.o.row.2 with h | h
   ·have:=HSW.o.row.1;omega
   ·exact h
  subst hpp;have hkm:k<m2:=by have:=HSW.o.row.1;omega
  have hnm:=HSW.o.num k hkx;have hds:=HSW.o.ds k hkx;have y0:w1.cell? ⟨cb,co+k*8,none⟩=some (zI (bk.getD k cm0).a.me):=(hcc k 0 hkm (by decide)).trans (by rw [← hnm.1];rfl);have y1:w1.cell? ⟨cb,co+k*8+1,none⟩=some (zI (bk.getD k cm0).a.rv):=(hcc k 1 hkm (by decide)).trans (by rw [← hnm.2.1];rfl);have y2:w1.cell? ⟨cb,co+k*8+2,none⟩=some (zI (bk.getD k cm0).a.nx):=(hcc k 2 hkm (by decide)).trans (by rw [← hnm.2.2.1];rfl);have y3:w1.cell? ⟨cb,co+k*8+3,none⟩=some (zI (bk.getD k cm0).a.mo):=(hcc k 3 hkm (by decide)).trans (by rw [← hnm.2.2.2.1];rfl);have y4:w1.cell? ⟨cb,co+k*8+4,none⟩=some (zI (bk.getD k cm0).a.bo):=(hcc k 4 hkm (by decide)).trans (by rw [← hnm.2.2.2.2.1];rfl);have y5:w1.cell? ⟨cb,co+k*8+5,none⟩=some (zI (bk.getD k cm0).a.fr):=(hcc k 5 hkm (by decide)).trans (by rw [← hnm.2.2.2.2.2];rfl);have y6:w1.cell? ⟨cb,co+k*8+6,none⟩=some (.slice (xs.getD k book.cu0).dp (xs.getD k book.cu0).dn (xs.getD k book.cu0).dc):=hcc k 6 hkm (by decide);have y7:w1.cell? ⟨cb,co+k*8+7,none⟩=some (.slice (xs.getD k book.cu0).sp (xs.getD k book.cu0).sn (xs.getD k book.cu0).sc):=hcc k 7 hkm (by decide);clear hcc hnm;generalize (xs.getD k book.cu0).dp=dp at *;generalize (xs.getD k book.cu0).dn=dn at *;generalize (xs.getD k book.cu0).dc=dc at *;generalize hy:(bk.getD k cm0).a=y at *;have HY:Hid ((bk.getD k cm0).a=y):=hy;clear hy;generalize (xs.getD k book.cu0).sp=sp at *;generalize (xs.getD k book.cu0).sn=sn at *;generalize (xs.getD k book.cu0).sc=sc at *;clear hds hfirst hkx HSW HSE;have qs0:w1.cell? ⟨w.heap.size,0,none⟩=some (.slice (some ⟨cb,co,none⟩) m2 c2):=H1s.o.cell 0
  go_wp2_with (first
   | (refine zql rfl rfl rfl rfl zqu64 (by simp [Value.oneCell']) H1r rfl ?_)
   | (refine zqw rfl rfl rfl H1s zqu78 ?_)
   | (refine zqw rfl rfl rfl H1r zqu64 ?_)
   | fail)
  intro W2 hU;have H2s:=shK hU H1s (by omega);have H2r:Hid (Blk W2 (w.heap.size+1) #[zI y.me,zI y.rv,zI y.nx,zI y.mo,zI y.bo,zI y.fr,.slice dp dn dc,.slice sp sn sc] 64):=hU.blk;have H2B:=shV hU H1B (by omega);have hsW2:W2.heap.size=w1.heap.size:=hU.size;clear hU H1s H1r H1B;clear qs0;obtain ⟨Rr0,Rr1,Rr2,Rr3,Rr4,Rr5,Rr6,Rr7⟩:=shc8 H2r;go_wp2_with fail;exact bodyPost_ret (v:= .tuple #[.agg #[zI y.me,zI y.rv,zI y.nx,zI y.mo,zI y.bo,zI y.fr,.slice dp dn dc,.slice sp sn sc],zI 0]) (by simp [results,Tryz.results34,Rr0.o,Rr1.o,Rr2.o,Rr3.o,Rr4.o,Rr5.o,Rr6.o,Rr7.o,go_sem]) rfl ⟨H2B.o,.inr ⟨k,dp,dn,dc,sp,sn,sc,by rw [HY.o],HFT.o,HKB.o,by rw [HY.o];exact HDS.o.1,HDS.o.2⟩⟩
end vnd
end Go.Proofs.YtdpfnedfakgolaaGreatDoor
