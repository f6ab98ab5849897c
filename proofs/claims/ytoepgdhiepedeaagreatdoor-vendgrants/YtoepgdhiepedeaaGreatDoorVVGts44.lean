import Derived.Test.YtoepgdhiepedeaaGreatDoorVVGts30
import Derived.Test.YtoepgdhiepedeaaGreatDoorVVGts38
import Derived.Test.YtoepgdhiepedeaaGreatDoorVVGts43
set_option linter.unusedVariables false
set_option linter.unusedSimpArgs false
set_option maxHeartbeats 4000000
set_option maxRecDepth 100000
namespace Go.Proofs.YtoepgdhiepedeaaGreatDoor
namespace book
open Go.RowKit
open acc (Ac Tm Bi APost BPost TFault TRight OpenIs OweIs SellIs GrantIs RekeyIs wf6 ACame TCame fresh_updN fresh_drew came_lt)
variable{v:Ev}
theorem ev_me(h:EMay v):0≤v.me∧v.me≤49:=by unfold EMay at h;omega
theorem ev_kd(h:EMay v)(h1:v.kd≠1)(h5:v.kd≠5):v.kd=2∨v.kd=3∨v.kd=4:=by unfold EMay at h;omega
theorem ev_ow(h:EMay v):(Lit.int .i64 v.ow).wf=true∧(Lit.int .i64 v.bp).wf=true:=by
 have:(0≤v.ow∧v.ow≤1000000000)∧0≤v.bp∧v.bp≤10000:=by unfold EMay at h;omega
 exact⟨wf_i (by omega) (by omega),wf_i (by omega) (by omega)⟩
theorem charge_wr{w0:World}{base gW B:Nat}{t:Tm}{pt:Option Addr}{lt ct g n cap:Nat}{xs:List Cu}{bk:List Cm}{k:Nat}{y b:Ac}{sol:List So}{dp pb:Option Addr}{dn dc lb cb:Nat}{sp:Option Addr}{sn sc:Nat}{cur:Array Value}{w w1 WF:World}
  (h:Wr w0 base gW B t pt lt ct (.slice (some ⟨g,0,none⟩) n cap) xs bk w) (hk:k<xs.length) (hx:xs.getD k cu0=⟨y.me,y.rv,y.nx,y.mo,y.bo,y.fr,dp,dn,dc,sp,sn,sc⟩) (hc:bk.getD k cm0=⟨y,sol⟩) (hcb:Blk w g cur 71) (hcs:k*8+8≤cur.size) (hc7:cur[k*8+7]?=some (.slice sp sn sc))
  (hm:EMay v) (hh:HapIs t ⟨y,sol⟩ v ⟨b,sol⟩ 0) (hb:zB w w1) (hf:deb.Fresh w1 w.heap.size pb lb cb b.ds) (hU:Upd w1 WF g (putAll cur (k*8) [zI b.me,zI b.rv,zI b.nx,zI b.mo,zI b.bo,zI b.fr,.slice pb lb cb]) 71):
  WPost w0 base gW B t pt lt ct (HapR t bk k v) w (.returned (.tuple #[])) WF:=by
 have a:=h.hold.has k hk;have f:=h.hold.off k hk;rw[hc] at a;rw[hx] at a f;have r:∀i,(Value.slice sp sn sc).ownBlock=some i→i<w.heap.size∧base≤i∧i≠g:=λi c=>⟨(World.ownsRow.lt a.so i c).2,(World.ownsRow.lt a.so i c).1,λe=>f.1 i c (by rw[e];rfl)⟩;have G:base≤g:=(World.ownsRow.lt h.hold.row g rfl).1;have H:=hcb.lt;have C:=h.sz;have l:=hU.bel 0 w1 (Nat.zero_le _) zb;have A:∀i,i<w.heap.size→i≠g→WF.heap[i]?=w.heap[i]?:=λi s x=>by rw[hU.oth i x];exact hb.block i s
 have d:WF.os=w.os∧WF.tape=w.tape∧WF.output=w.output:=⟨l.os.trans hb.os,l.tape.trans hb.tape,l.output.trans hb.output⟩
 have u:w.heap.size≤WF.heap.size:=by rw[hU.size];exact hb.size
 have D:=hap_wf hh hm;refine⟨⟨d.1,d.2.1,d.2.2,u,λi s _ _=>A i (by omega) (by omega)⟩,.inl ⟨.slice (some ⟨g,0,none⟩) n cap,xs.set k ⟨b.me,b.rv,b.nx,b.mo,b.bo,b.fr,pb,lb,cb,sp,sn,sc⟩,bk.set k ⟨b,sol⟩,rfl,⟨⟨b,sol⟩,by rw[hc];exact hh,λ_=>rfl⟩,λz=>?_⟩⟩;refine put_wr h hk hx hcb (λi s x _=>A i s x) u d (x':=⟨b.me,b.rv,b.nx,b.mo,b.bo,b.fr,pb,lb,cb,sp,sn,sc⟩) ⟨⟨rfl,rfl,rfl,rfl,rfl,rfl⟩,⟨acc_upd hf.came hU (λm p o q=>by have:=hf.new m p o;omega),λm p o=>by have:=hf.new m p o;omega⟩,?_⟩ D.1 (by rw[hc];exact D.2) (λi c=> .inl c) (λm p o=>hf.new m p o) (λi c m p o q=>by have s:=(r i c).1;have x:=hf.new m p o;omega) ?_ z
 ·exact lo_upd (a.so.next hb) hU (λi c=>(r i c).2.2)
 ·have E:putAll cur (k*8) ([zI b.me,zI b.rv,zI b.nx,zI b.mo,zI b.bo,zI b.fr,.slice pb lb cb]++[.slice sp sn sc])=putAll cur (k*8) [zI b.me,zI b.rv,zI b.nx,zI b.mo,zI b.bo,zI b.fr,.slice pb lb cb]:=by
   rw[← putAll_more];apply Array.ext_getElem?;intro j;by_cases I:j=k*8+7
   ·subst I;rw[show k*8+([zI b.me,zI b.rv,zI b.nx,zI b.mo,zI b.bo,zI b.fr,.slice pb lb cb]:List Value).length=k*8+7 from rfl,Array.getElem?_setIfInBounds_self_of_lt (by rw[putAll_size];omega),putAll_get _ _ _ _ (by simp;omega),if_neg (by simp only[List.length_cons,List.length_nil];omega),hc7]
   ·rw[Array.getElem?_setIfInBounds_ne (by simp only[List.length_cons,List.length_nil];omega)]
  have F:(⟨b.me,b.rv,b.nx,b.mo,b.bo,b.fr,pb,lb,cb,sp,sn,sc⟩:Cu).cs=[zI b.me,zI b.rv,zI b.nx,zI b.mo,zI b.bo,zI b.fr,.slice pb lb cb]++[.slice sp sn sc]:=rfl;rw[F,E];exact hU.blk
theorem bhappen(w0:World)(base gW B:Nat)(t:Tm)(pt:Option Addr)(lt ct:Nat)(a:Option Addr)(n cap:Nat)(xs:List Cu)(bk:List Cm)(v:Ev)(w:World)(h:Wr w0 base gW B t pt lt ct (.slice a n cap) xs bk w)(ht:TCame w0 t pt lt ct):Calls Tryz.prog 108 #[.pointer (some ⟨gW,0,none⟩),.agg #[zI v.kd,zI v.me,zI v.mo,zI v.id,zI v.te,zI v.de,zI v.fe,zI v.pr,zI v.ch,zI v.un,zI v.tg,zI v.ow,zI v.bp]] w λe w'=>WPost w0 base gW B t pt lt ct (StepIs t bk v) w e w':=by
 have ah:Hid (∀W,zC 119 #[.agg #[zI v.kd,zI v.me,zI v.mo,zI v.id,zI v.te,zI v.de,zI v.fe,zI v.pr,zI v.ch,zI v.un,zI v.tg,zI v.ow,zI v.bp]] W λe w'=>MustPost W v e w'):=λW=>bmust v W;have HR:=zh h;have HT:=zh ht;have a8:=zh h.sz;clear h ht;obtain⟨W0,am,ad,ac,-⟩:=sh1 w #[zI v.kd,zI v.me,zI v.mo,zI v.id,zI v.te,zI v.de,zI v.fe,zI v.pr,zI v.ch,zI v.un,zI v.tg,zI v.ow,zI v.bp] 44;go_enter Tryz.func108,Tryz.ntmps108;go_upto_region 1 with fail
 rw[am.o];go_wp2_with refine zw ?_;refine(ah.o _).mono ?_;rintro e j ⟨Z,Q⟩;have s:=shN ad Q;have J:=shB ac Q;clear Q;rcases Z with⟨Z,rfl⟩|⟨Z,rfl⟩
 case inr=>
  exact⟨rfl,.of J.o a8.o,.inr ⟨5,[],by decide,rfl,.inl ⟨Z,rfl⟩⟩⟩
 have l:=zh Z;have ag:Hid (∀i,¬ Blk j w.heap.size i 71):=λi q=>by have H:j.heap[w.heap.size]?=_:=s.o;have Y:j.heap[w.heap.size]?=_:=q;rw[H] at Y;simp at Y
 clear Z;have d:=zh (HR.o.next J.o);have z:Hid (Kp base gW B w j):=.of J.o a8.o;have av:=s.o.lt;have c0:=zy0 s;have c1:=zy1 s;by_cases k1:v.kd=1
 case pos=>
  have q1:(v.kd==1)=true:=by simpa using k1
  have HK:=zh k1;clear k1;have ak:=zh (breg w0 base gW B t pt lt ct a n cap xs bk v.me j d.o (ev_me l.o));go_wp2_with fail;refine ak.o.mono ?_;intro e w9 V;have hq:=V.back (R':=StepIs t bk v) z.o (λb f hr=>by rcases hr with⟨H,rfl⟩|⟨H,rfl,rfl⟩;exact .inr (.inl ⟨l.o,HK.o,H,rfl⟩);exact .inr (.inr (.inl ⟨l.o,HK.o,H,rfl,rfl⟩)));have N:=zh hq;clear V hq;rcases N.o.2 with⟨V3,ar,P,rfl,_⟩|⟨f,P,_,rfl,_⟩
  ·go_wp2_with fail;go_end0;exact N.o
  ·exact⟨rfl,N.o⟩
 have q1:(v.kd==1)=false:=by simpa using k1
 have C:=zh k1;clear k1
 have af:Hid (zC 153 #[.pointer (some ⟨gW,0,none⟩),zI v.me] j λe w'=>CuPost j a bk v.me e w'):=by
  have hl:xs.length=n:=by obtain⟨_,_,hv,_⟩:=d.o.hold.row.row;injection hv with _ I _;exact I.symm
  refine bcust gW B t pt lt ct a n cap bk v.me j d.o.blk d.o.mp (by rw[← d.o.hold.len,hl]) (λhn=>?_) (by have:=d.o.few.1;have:=d.o.hold.len;omega);obtain⟨g,i,I,_⟩:=at_cust d.o.hold.row (k:=0) (by omega);exact⟨g,I⟩
 go_wp2_with fail;refine af.o.mono ?_;rintro e w9 ⟨aq,an⟩;obtain rfl:j=w9:=aq.symm;rcases an with⟨k,g,U,rfl,rfl⟩|⟨ap,rfl⟩
 case inr=>
  exact⟨rfl,z.o,.inr ⟨18,[],by decide,rfl,.inr (.inr (.inr (.inl ⟨l.o,C.o,ap,rfl⟩)))⟩⟩
 have M:=zh U;have A:Hid (k<xs.length):=by show _<_;rw[d.o.hold.len];exact U.1
 clear U;by_cases k5:v.kd=5
 case neg=>
  have q5:(v.kd==5)=false:=by simpa using k5
  have ai:=zh k5;clear k5;have al:=zh (bsell w0 base gW B t pt lt ct g n cap xs bk k v j d.o A.o HT.o l.o (ev_kd l.o C.o ai.o));generalize k*8=O at *;go_wp2_with refine zw ?_;refine al.o.mono ?_;intro e w9 V;have hq:=V.back (R':=StepIs t bk v) z.o (λb f hr=>by obtain⟨c',H,Y⟩:=hr;exact .inr (.inr (.inr (.inr ⟨l.o,C.o,k,c',M.o,H,Y⟩))));have N:=zh hq;clear V hq;rcases N.o.2 with⟨V3,ar,P,rfl,_⟩|⟨f,P,_,rfl,_⟩
  ·go_wp2_with fail;go_end0;exact N.o
  ·exact⟨rfl,N.o⟩
 have q5:(v.kd==5)=true:=by simpa using k5
 have a7:=zh k5;clear k5;have E:=d.o.hold.has k A.o;have D:wf6 (bk.getD k cm0).a:=d.o.wf _ (getD_in (by rw[← d.o.hold.len];exact A.o));obtain⟨c,hc⟩:∃c,bk.getD k cm0=c:=⟨_,rfl⟩
 obtain⟨x,hx⟩:∃x,xs.getD k cu0=x:=⟨_,rfl⟩
 obtain⟨g',i,I,ao,T,aa,m⟩:=at_cust d.o.hold.row A.o;obtain rfl:g=g':=by injection I with I;injection I
 clear I;rw[hc] at E D;rw[hx] at E m;obtain⟨y,X⟩:=c;obtain⟨dp,dn,dc,sp,sn,sc,rfl⟩:=cuA_of E.num;have HX:=zh hx;have HC:=zh hc;have p:=zh T;have L:Hid (k*8+8≤i.size):=aa;have au:=T.lt;have ab:g≠w.heap.size:=λq=>ag.o i (by rw[← q];exact T);have aj:Hid (zC 154 #[.agg #[zI y.me,zI y.rv,zI y.nx,zI y.mo,zI y.bo,zI y.fr,.slice dp dn dc],.agg #[zI v.ow,zI v.bp]] j.drew λe w'=>OwPost j.drew y ⟨v.ow,v.bp⟩ e w'):=bowing y dp dn dc ⟨v.ow,v.bp⟩ j.drew ⟨E.ds.came.below zb.drew,D⟩ (ev_ow l.o);have a0:Hid (i[k*8+0]?=some (zI y.me)):=m 0 (by decide);have a1:Hid (i[k*8+1]?=some (zI y.rv)):=m 1 (by decide);have G:Hid (i[k*8+2]?=some (zI y.nx)):=m 2 (by decide);have a2:Hid (i[k*8+3]?=some (zI y.mo)):=m 3 (by decide);have a3:Hid (i[k*8+4]?=some (zI y.bo)):=m 4 (by decide);have a4:Hid (i[k*8+5]?=some (zI y.fr)):=m 5 (by decide);have a5:Hid (i[k*8+6]?=some (.slice dp dn dc)):=m 6 (by decide);have a6:Hid (i[k*8+7]?=some (.slice sp sn sc)):=m 7 (by decide);clear m hx hc E D ao aa;obtain⟨O,hO⟩:∃O,k*8=O:=⟨_,rfl⟩
 have HO:Hid (k*8=O):=hO;rw[hO] at L a0 a1 G a2 a3 a4 a5 a6;rw[hO];clear hO;go_wp2_with fail;clear q1 q5 c0 c1;refine wp_region_held_drew (S:=λu=>Blk u w.heap.size #[zI v.kd,zI v.me,zI v.mo,zI v.id,zI v.te,zI v.de,zI v.fe,zI v.pr,zI v.ch,zI v.un,zI v.tg,zI v.ow,zI v.bp] 44) (by kernel_rfl) (show _ from Blk.drew s.o 1) (λr=>?_);have z0:j.drew.cell? ⟨g,O,none⟩=some (zI y.me):=(p.o.cell (O+0)).trans a0.o;have z1:j.drew.cell? ⟨g,O+1,none⟩=some (zI y.rv):=(p.o.cell (O+1)).trans a1.o;have z2:j.drew.cell? ⟨g,O+2,none⟩=some (zI y.nx):=(p.o.cell (O+2)).trans G.o;have z3:j.drew.cell? ⟨g,O+3,none⟩=some (zI y.mo):=(p.o.cell (O+3)).trans a2.o;have z4:j.drew.cell? ⟨g,O+4,none⟩=some (zI y.bo):=(p.o.cell (O+4)).trans a3.o;have z5:j.drew.cell? ⟨g,O+5,none⟩=some (zI y.fr):=(p.o.cell (O+5)).trans a4.o;have z6:j.drew.cell? ⟨g,O+6,none⟩=some (.slice dp dn dc):=(p.o.cell (O+6)).trans a5.o;refine zt' 0 (.pointer (some ⟨g,O,none⟩)) ?_;refine zt' 1 (.pointer (some ⟨g,O,none⟩)) ?_;refine zt' 2 (.pointer (some ⟨g,O,none⟩)) ?_;refine zt' 3 (.pointer (some ⟨g,O,none⟩)) ?_;refine zt' 5 (.pointer (some ⟨w.heap.size,11,none⟩)) ?_;refine zu' 6 (.agg #[zI v.ow,zI v.bp]) rfl rfl (Or.inl ⟨by rfl,λv hv=>by have g0:=hv.cell 11;have g1:=hv.cell 12;clear hv;go_simp⟩) ?_;refine zo 4 λK F=>?_;rw[if_pos (by rfl)];refine wp_runOp (v:=.agg #[zI y.me,zI y.rv,zI y.nx,zI y.mo,zI y.bo,zI y.fr,.slice dp dn dc]) (w':=j.drew) 25 rfl (by clear F;go_simp) ?_;refine F.o _ _ (Blk.drew s.o 1) (λr=>?_);clear F K z0 z1 z2 z3 z4 z5 z6;simp only[Act.put,zq];refine zo 7 λK F=>?_;rw[if_pos (by rfl)];refine wp_callOpP 28 rfl (by clear F;go_simp) aj.o ?_;rintro e w2 ⟨Q,V⟩;rcases V with⟨b,pb,lb,cb,rfl,hi,hf⟩|⟨b,f,hf,rfl,hi⟩
 case inr=>
  exact .inr ⟨_,rfl,rfl,z.o.trans (.of ((Below.refl j.heap.size j).drew.trans Q) d.o.sz),.inr ⟨f,[],hf,rfl,.inr (.inr (.inr (.inr ⟨l.o,C.o,k,⟨y,X⟩,M.o,by rw[HC.o];exact .inl ⟨a7.o,b,hi,λq=>absurd q hf⟩,λq=>absurd q hf⟩)))⟩⟩
 refine .inl ⟨_,rfl,?_⟩;have R:=(Below.refl j.heap.size j).drew.trans Q;obtain⟨a9,G⟩:=zn2 R s p;have ae:=zh R;have HI:=zh hi;have HF:=zh hf;refine F.o _ _ a9.o (λr=>?_);clear F K hi hf Q R;unfold acc.Ac.v acc.Ac.cs;simp only[Act.put,zq];refine zt' 8 (.pointer (some ⟨g,O,none⟩)) ?_;refine zt' 9 (.pointer (some ⟨g,O,none⟩)) ?_;refine zo 10 λK F=>?_;rw[if_pos (by rfl)];refine wp_letOpN 55 _ _ rfl g O rfl (.agg #[zI b.me,zI b.rv,zI b.nx,zI b.mo,zI b.bo,zI b.fr,.slice pb lb cb]) rfl #[zI b.me,zI b.rv,zI b.nx,zI b.mo,zI b.bo,zI b.fr,.slice pb lb cb] rfl (by kernel_rfl) (by simp[Value.oneCell']) i 71 G.o (by have:=L.o;simp;omega) (putAll i O [zI b.me,zI b.rv,zI b.nx,zI b.mo,zI b.bo,zI b.fr,.slice pb lb cb]) rfl rfl ?_;intro WF hU;have M1:=zh (hU.keep a9.o (Ne.symm ab))
 have MF:Hid (WPost w0 base gW B t pt lt ct (StepIs t bk v) w (.returned (.tuple #[])) WF):=by
  have hh:HapIs t ⟨y,X⟩ v ⟨b,X⟩ 0:=.inl ⟨a7.o,b,HI.o,λ_=>rfl⟩;refine(charge_wr d.o A.o HX.o HC.o p.o (by rw[HO.o];exact L.o) (by rw[HO.o];exact a6.o) l.o hh ae.o HF.o (by rw[HO.o];exact hU)).back z.o (λbb f hr=>?_);obtain⟨c',H,Y⟩:=hr;exact .inr (.inr (.inr (.inr ⟨l.o,C.o,k,c',M.o,H,Y⟩)))
 refine F.o _ _ M1.o (λr=>?_);clear F K hU;refine wpAnyH_done (by kernel_rfl) ?_ _;clear r;go_wp2_with fail;go_end0;exact MF.o
theorem Wr.upd{w0:World}{base gW B g:Nat}{t:Tm}{pt:Option Addr}{lt ct:Nat}{V:Value}{xs:List Cu}{bk:List Cm}{w W:World}{cs:Array Value}{ty:TypeId}(h:Wr w0 base gW B t pt lt ct V xs bk w)(hU:Upd w W g cs ty)(h0:g<base)(h1:g≠gW)(h2:g≠B)(h3:w0.heap.size≤g):Wr w0 base gW B t pt lt ct V xs bk W:=
 ⟨hU.keep h.blk (Ne.symm h1),h.mp.upd hU (Ne.symm h2),h.hold.upd hU h0,h.gw,h.gb,h.ne,h.n0,h.n1,by rw[hU.size];exact h.sz,hU.bel _ _ h3 h.bel,h.few,h.wf⟩
theorem Small.more{bk:List Cm}{k m:Nat}(h:Small bk k)(hk:k≤m):Small bk m:=⟨Nat.le_trans h.1 hk,λc a=>⟨Nat.le_trans (h.2 c a).1 hk,(h.2 c a).2⟩⟩
structure Mid2 (w:World) (t:Tm) (pt:Option Addr) (lt ct:Nat) (l:List Ev) (gn base gW B k:Nat) (st:Nat→List Cm) (wr:World):Prop where
 s0:st 0=[]
 steps:∀i,i<k→StepIs t (st i) (l.getD i ev0) (st (i+1)) 0
 small:Small (st k) k
 bb:Blk wr (w.heap.size+1) #[zS] 65
 ba:Blk wr (w.heap.size+1+1) #[zI 0] 3
 be:Blk wr (w.heap.size+1+1+1) #[zI 0] 36
 bn:Blk wr gn #[zI (k:Int)] 3
 wr:∃V xs,Wr w base gW B t pt lt ct V xs (st k) wr
structure Pl (w:World) (gn base gW B:Nat):Prop where
 h1:w.heap.size+1+1+1<gn
 h2:gn<B
 h3:B<gW
 h4:gW<base
theorem kof:KOf:=by
 intro w t s lt r pl n ar l ht hl;unfold acc.Tm.v;have HT:=zh ht;have HL:=zh hl.row;have a7:=zh hl.row.1;have bw:n≤9223372036854775807:=by have:=hl.bytes;omega
 have bi:∀(fn:Fn)(first ar:Array Value)(w:World),(Instr.makeFunc fn first ar).run Tryz.prog w=.ok (.func fn first ar) w:=λ_ _ _ _=>rfl;have bj:=mkMapI;have b0:Hid (∀W,zB w W→zC 97 #[.agg #[.slice s lt r,zI t.ff,zI t.fb,zI t.db,zI t.al]] W λe w'=>tar.ErrPost W (TFault t) e w'):=λW hB=>acc.kcheck W t s lt r (ht.below hB);clear ht hl;obtain⟨W0,b6,aB,aA,ac,ad,az,-⟩:=sh4 w #[.slice s lt r,zI t.ff,zI t.fb,zI t.db,zI t.al] 24 #[zS] 65 #[zI 0] 3 #[zI 0] 36;go_enter_defers Tryz.func72,Tryz.ntmps72;go_upto_region 1 with fail
 rw[b6.o];have aZ:=zh (b0.o W0 az.o)
 go_wp2_with (first
  |(refine zqw rfl rfl rfl aB zqu24 ?_)
  |(refine zqw rfl rfl rfl aA zqu65 ?_)
  |(refine wp_whole rfl 3 _ rfl _ rfl 3 _ _ ac.o Tryz.underlying3 rfl (by kernel_rfl) ?_)
  |(refine wp_whole rfl 36 _ rfl _ rfl 36 _ _ ad.o Tryz.underlying36 rfl (by kernel_rfl) ?_)
  | fail)
 refine aZ.o.mono ?_;rintro e g ⟨f,rfl,hf,au⟩;obtain⟨J,U,z,u⟩:=zn4 au aB aA ac ad;have I:=shB az au;clear au;by_cases h0:f=0
 case neg=>
  have nf:(f != 0)=true:=by simpa using h0
  have HF:=zh hf;have b5:=zh h0;clear hf h0
  go_wp2_with (first
   |(refine zql rfl rfl rfl rfl zqu65 (by simp[Value.oneCell']) U rfl ?_)
   |(refine zqw rfl rfl rfl J zqu24 ?_)
   |(refine zqw rfl rfl rfl U zqu65 ?_)
   |(refine wp_whole rfl 3 _ rfl _ rfl 3 _ _ z.o Tryz.underlying3 rfl (by kernel_rfl) ?_)
   |(refine wp_whole rfl 36 _ rfl _ rfl 36 _ _ u.o Tryz.underlying36 rfl (by kernel_rfl) ?_)
   | fail)
  intro bt b;obtain⟨a0,C,D⟩:=zk3 b J z u;have am:=zk b I;have Z:=zyb b;clear b
  go_wp2_with (first
   |(refine wp_let1 rfl 3 _ _ rfl (w.heap.size+1+1) 0 rfl .i64 0 rfl (by kernel_rfl) #[zI 0] 3 C.o (by simp) ?_)
   |(refine zqw rfl rfl rfl a0 zqu24 ?_)
   |(refine zqw rfl rfl rfl Z zqu65 ?_)
   |(refine wp_whole rfl 3 _ rfl _ rfl 3 _ _ C.o Tryz.underlying3 rfl (by kernel_rfl) ?_)
   |(refine wp_whole rfl 36 _ rfl _ rfl 36 _ _ D.o Tryz.underlying36 rfl (by kernel_rfl) ?_)
   | fail)
  intro aU b;obtain⟨L,K,y⟩:=zk3 b a0 Z D;have a1:=zk b am;have x:=zyb b;clear b
  go_wp2_with (first
   |(refine wp_let1 rfl 36 _ _ rfl (w.heap.size+1+1+1) 0 rfl .i64 f rfl (by kernel_rfl) #[zI 0] 36 y.o (by simp) ?_)
   |(refine zqw rfl rfl rfl L zqu24 ?_)
   |(refine zqw rfl rfl rfl K zqu65 ?_)
   |(refine wp_whole rfl 3 _ rfl _ rfl 3 _ _ x.o Tryz.underlying3 rfl (by kernel_rfl) ?_)
   |(refine wp_whole rfl 36 _ rfl _ rfl 36 _ _ y.o Tryz.underlying36 rfl (by kernel_rfl) ?_)
   | fail)
  intro P b;obtain⟨aV,ao,a2⟩:=zk3 b L K x;have an:=zk b a1;have a3:=zyb b;clear L K x y a1;clear b;go_wp2_with fail;have rb:=zy0 ao;have ax:=zy0 a2;have ay:=zy0 a3;show Leaves _ _ _ _ [] .returning P;refine⟨.tuple #[.agg #[zS],zI 0,zI f],by simp[results,Tryz.results72,rb,ax,ay,go_sem],?_⟩;exact⟨none,0,0,[],[],0,f,rfl,.inl ⟨HF.o,b5.o,rfl,rfl⟩,sees_nil _,Nat.zero_le _,an.o⟩
 subst h0;have aq:Hid (TRight t):=hf.ok.1 rfl;clear hf;by_cases a6:120<n
 case pos=>
  have aO:decide ((120:Int)<(n:Int))=true:=decide_eq_true (by omega);have aY:Hid (120<l.length):=by show _<_;rw[a7.o];exact a6
  clear a6
  go_wp2_with (first
   |(refine zql rfl rfl rfl rfl zqu65 (by simp[Value.oneCell']) U rfl ?_)
   |(refine zqw rfl rfl rfl J zqu24 ?_)
   |(refine zqw rfl rfl rfl U zqu65 ?_)
   |(refine wp_whole rfl 3 _ rfl _ rfl 3 _ _ z.o Tryz.underlying3 rfl (by kernel_rfl) ?_)
   |(refine wp_whole rfl 36 _ rfl _ rfl 36 _ _ u.o Tryz.underlying36 rfl (by kernel_rfl) ?_)
   | fail)
  intro bt b;obtain⟨a0,C,D⟩:=zk3 b J z u;have am:=zk b I;have Z:=zyb b;clear b
  go_wp2_with (first
   |(refine wp_let1 rfl 3 _ _ rfl (w.heap.size+1+1) 0 rfl .i64 0 rfl (by kernel_rfl) #[zI 0] 3 C.o (by simp) ?_)
   |(refine zqw rfl rfl rfl a0 zqu24 ?_)
   |(refine zqw rfl rfl rfl Z zqu65 ?_)
   |(refine wp_whole rfl 3 _ rfl _ rfl 3 _ _ C.o Tryz.underlying3 rfl (by kernel_rfl) ?_)
   |(refine wp_whole rfl 36 _ rfl _ rfl 36 _ _ D.o Tryz.underlying36 rfl (by kernel_rfl) ?_)
   | fail)
  intro aU b;obtain⟨L,K,y⟩:=zk3 b a0 Z D;have a1:=zk b am;have x:=zyb b;clear b
  go_wp2_with (first
   |(refine wp_let1 rfl 36 _ _ rfl (w.heap.size+1+1+1) 0 rfl .i64 1 rfl (by kernel_rfl) #[zI 0] 36 y.o (by simp) ?_)
   |(refine zqw rfl rfl rfl L zqu24 ?_)
   |(refine zqw rfl rfl rfl K zqu65 ?_)
   |(refine wp_whole rfl 3 _ rfl _ rfl 3 _ _ x.o Tryz.underlying3 rfl (by kernel_rfl) ?_)
   |(refine wp_whole rfl 36 _ rfl _ rfl 36 _ _ y.o Tryz.underlying36 rfl (by kernel_rfl) ?_)
   | fail)
  intro P b;obtain⟨aV,ao,a2⟩:=zk3 b L K x;have an:=zk b a1;have a3:=zyb b;clear L K x y a1;clear b;go_wp2_with fail;have rb:=zy0 ao;have ax:=zy0 a2;have ay:=zy0 a3;show Leaves _ _ _ _ [] .returning P;refine⟨.tuple #[.agg #[zS],zI 0,zI 1],by simp[results,Tryz.results72,rb,ax,ay,go_sem],?_⟩;exact⟨none,0,0,[],[],0,1,rfl,.inr (.inl ⟨aq.o,aY.o,rfl,rfl,rfl⟩),sees_nil _,Nat.zero_le _,an.o⟩
 have aO:decide ((120:Int)<(n:Int))=false:=decide_eq_false (by omega);have av:n≤120:=by omega
 have ae:Hid (l.length≤120):=by show _≤_;rw[a7.o];exact av
 clear a6;have aD:Hid (Blk (((g.alloc (.cells #[zI 0] 3)).alloc (.map #[] 0)).alloc (.cells #[zS,.slice s lt r,zI t.ff,zI t.fb,zI t.db,zI t.al,.map (some (g.heap.size+1))] 170)) g.heap.size #[zI 0] 3):=((Blk.new _ _ _).alloc _).alloc _
 have aC:Hid (MpI (((g.alloc (.cells #[zI 0] 3)).alloc (.map #[] 0)).alloc (.cells #[zS,.slice s lt r,zI t.ff,zI t.fb,zI t.db,zI t.al,.map (some (g.heap.size+1))] 170)) (g.heap.size+1) []):=by
  have h1:=MpI.new (g.alloc (.cells #[zI 0] 3));rw[show (g.alloc (.cells #[zI 0] 3)).heap.size=g.heap.size+1 by simp] at h1;exact h1.below (zb.alloc zc _)
 have F:Hid (Blk (((g.alloc (.cells #[zI 0] 3)).alloc (.map #[] 0)).alloc (.cells #[zS,.slice s lt r,zI t.ff,zI t.fb,zI t.db,zI t.al,.map (some (g.heap.size+1))] 170)) (g.heap.size+1+1) #[zS,.slice s lt r,zI t.ff,zI t.fb,zI t.db,zI t.al,.map (some (g.heap.size+1))] 170):=by
  have h1:=Blk.new ((g.alloc (.cells #[zI 0] 3)).alloc (.map #[] 0)) #[zS,.slice s lt r,zI t.ff,zI t.fb,zI t.db,zI t.al,.map (some (g.heap.size+1))] 170
  rwa [show ((g.alloc (.cells #[zI 0] 3)).alloc (.map #[] 0)).heap.size=g.heap.size+1+1 by simp] at h1
 have b8:Hid (Blk (((g.alloc (.cells #[zI 0] 3)).alloc (.map #[] 0)).alloc (.cells #[zS,.slice s lt r,zI t.ff,zI t.fb,zI t.db,zI t.al,.map (some (g.heap.size+1))] 170)) (w.heap.size) #[.slice s lt r,zI t.ff,zI t.fb,zI t.db,zI t.al] 24):=((J.o.alloc _).alloc _).alloc _;have aJ:Hid (Blk (((g.alloc (.cells #[zI 0] 3)).alloc (.map #[] 0)).alloc (.cells #[zS,.slice s lt r,zI t.ff,zI t.fb,zI t.db,zI t.al,.map (some (g.heap.size+1))] 170)) (w.heap.size+1) #[zS] 65):=((U.o.alloc _).alloc _).alloc _;have ag:Hid (Blk (((g.alloc (.cells #[zI 0] 3)).alloc (.map #[] 0)).alloc (.cells #[zS,.slice s lt r,zI t.ff,zI t.fb,zI t.db,zI t.al,.map (some (g.heap.size+1))] 170)) (w.heap.size+1+1) #[zI 0] 3):=((z.o.alloc _).alloc _).alloc _;have ah:Hid (Blk (((g.alloc (.cells #[zI 0] 3)).alloc (.map #[] 0)).alloc (.cells #[zS,.slice s lt r,zI t.ff,zI t.fb,zI t.db,zI t.al,.map (some (g.heap.size+1))] 170)) (w.heap.size+1+1+1) #[zI 0] 36):=((u.o.alloc _).alloc _).alloc _;have aI:Hid (zB w (((g.alloc (.cells #[zI 0] 3)).alloc (.map #[] 0)).alloc (.cells #[zS,.slice s lt r,zI t.ff,zI t.fb,zI t.db,zI t.al,.map (some (g.heap.size+1))] 170))):=((I.o.alloc I.o.size _).alloc (Nat.le_trans I.o.size (by simp)) _).alloc (Nat.le_trans I.o.size (by simp;omega)) _;have S:Hid (w.heap.size+1+1+1<g.heap.size):=u.o.lt;have aF:Hid ((((g.alloc (.cells #[zI 0] 3)).alloc (.map #[] 0)).alloc (.cells #[zS,.slice s lt r,zI t.ff,zI t.fb,zI t.db,zI t.al,.map (some (g.heap.size+1))] 170)).heap.size=g.heap.size+1+1+1):=by show _=_;simp
 go_upto_region 9 with (first
  |(refine wp_whole rfl 24 _ rfl w.heap.size rfl 24 #[.slice s lt r,zI t.ff,zI t.fb,zI t.db,zI t.al] _ (J.o.alloc _) Tryz.underlying24 rfl (by kernel_rfl) ?_)
  | fail)
 generalize (((g.alloc (.cells #[zI 0] 3)).alloc (.map #[] 0)).alloc (.cells #[zS,.slice s lt r,zI t.ff,zI t.fb,zI t.db,zI t.al,.map (some (g.heap.size+1))] 170))=W2 at *;generalize g.heap.size=A at *;have E:Hid (Pl w A (A+1+1+1) (A+1+1) (A+1)):=⟨S.o,Nat.lt_succ_self _,Nat.lt_succ_self _,Nat.lt_succ_self _⟩
 have af:Hid (Mid2 w t s lt r l A (A+1+1+1) (A+1+1) (A+1) 0 (λ_=>[]) W2):=⟨rfl,(λi hi=>absurd hi (Nat.not_lt_zero _)),Small.zero,aJ.o,ag.o,ah.o,aD.o,zS,[],F.o,aC.o,Holds.zero _ _,by omega,by omega,by omega,by have:=S.o;omega,by have:=S.o;omega,by rw[aF.o];exact zc,aI.o,Small.more Small.zero (by omega),λc hc=>by cases hc⟩
 clear b8 aJ ag ah aD aC F aI S aF J U z u I;generalize A+1+1+1=d at *;generalize bh:A+1+1=X at *;generalize A+1=B at *;clear bh;clear bi bj aO;go_wp2_with fail;go_loopg [] n (λgk wr=>∃(k:Nat)(H:Nat→List Cm),k+gk=n∧Mid2 w t s lt r l A d X B k H wr)
 case atStart=>exact⟨0,_,by omega,af.o⟩
 case round=>
  obtain⟨k,H,hk,T⟩:=hrel;clear af;have R:Hid (Mid2 w t s lt r l A d X B k H wr):=T;have q8:wr.cell? ⟨A,0,none⟩=some (zI (k:Int)):=T.bn.cell 0;obtain⟨V,Q,aw⟩:=T.wr;obtain⟨a,N,hV,_⟩:=aw.hold.row.row;subst hV;have G:Hid (Wr w d X B t s lt r (.slice a Q.length N) Q (H k) wr):=aw;clear T aw;by_cases aR:k<n
  case neg=>
   have aQ:k=n:=by omega
   have b3:Hid (k=n):=aQ;have aP:decide ((k:Int)<(n:Int))=false:=decide_eq_false (by omega);clear aQ;have q0:wr.cell? ⟨X,0,none⟩=some (.slice a Q.length N):=G.o.blk.cell 0;have bk:=E.o.h1;have bm:=E.o.h2;have bo:=E.o.h3;have bq:=E.o.h4;have b7:Hid (Q.length≤120):=by show _≤_;rw[G.o.hold.len];exact G.o.few.1
   have a4:Hid (Wr w d X B t s lt r (.slice a Q.length N) Q (H k) wr∧Blk wr (w.heap.size+1) #[zS] 65∧Blk wr (w.heap.size+1+1) #[zI 0] 3∧Blk wr (w.heap.size+1+1+1) #[zI 0] 36):=⟨G.o,R.o.bb,R.o.ba,R.o.be⟩
   clear G;generalize aS:Q.length=m at *;have bv:Hid (Q.length=m):=aS;clear aS;go_wp2_with (first|(refine wp_letAll rfl 65 _ _ rfl (w.heap.size+1) rfl #[.slice a m N] rfl (by kernel_rfl) (by simp[Value.oneCell']) #[zS] 65 a4.o.2.1 rfl ?_)|fail)
   intro V1 b;clear q0;have a5:Hid (Wr w d X B t s lt r (.slice a m N) Q (H k) V1∧Blk V1 (w.heap.size+1) #[.slice a m N] 65∧Blk V1 (w.heap.size+1+1) #[zI 0] 3∧Blk V1 (w.heap.size+1+1+1) #[zI 0] 36):=⟨a4.o.1.upd b (by omega) (by omega) (by omega) (by omega),b.blk,b.keep a4.o.2.2.1 (by omega),b.keep a4.o.2.2.2 (by omega)⟩
   clear b a4;go_wp2_with (first|(refine wp_let1 rfl 3 _ _ rfl (w.heap.size+1+1) 0 rfl .i64 0 rfl (by kernel_rfl) #[zI 0] 3 a5.o.2.2.1 (by simp) ?_)|fail)
   intro V2 b;have F:Hid (Wr w d X B t s lt r (.slice a m N) Q (H k) V2∧Blk V2 (w.heap.size+1) #[.slice a m N] 65∧Blk V2 (w.heap.size+1+1) #[zI 0] 3∧Blk V2 (w.heap.size+1+1+1) #[zI 0] 36):=⟨a5.o.1.upd b (by omega) (by omega) (by omega) (by omega),b.keep a5.o.2.1 (by omega),b.blk,b.keep a5.o.2.2.2 (by omega)⟩
   clear b a5;go_wp2_with (first|(refine wp_let1 rfl 36 _ _ rfl (w.heap.size+1+1+1) 0 rfl .i64 0 rfl (by kernel_rfl) #[zI 0] 36 F.o.2.2.2 (by simp) ?_)|fail)
   intro V3 b;have a8:Hid (Wr w d X B t s lt r (.slice a m N) Q (H k) V3∧Blk V3 (w.heap.size+1) #[.slice a m N] 65∧Blk V3 (w.heap.size+1+1) #[zI 0] 3∧Blk V3 (w.heap.size+1+1+1) #[zI 0] 36):=⟨F.o.1.upd b (by omega) (by omega) (by omega) (by omega),b.keep F.o.2.1 (by omega),b.keep F.o.2.2.1 (by omega),b.blk⟩
   clear b F;go_wp2_with fail;refine leaves_cons (f:=106) (args:=#[.pointer (some ⟨w.heap.size+1+1+1,0,none⟩),.pointer (some ⟨A,0,none⟩),.pointer (some ⟨w.heap.size+1+1,0,none⟩)]) (by simp) (by simp[go_sem]) ?_;refine(of_idle (w.heap.size+1+1+1) A (w.heap.size+1+1) 0 _ a8.o.2.2.2).mono ?_;rintro e u' w5 ⟨rfl,hs,W,hb,b⟩;have ak:Wr w d X B t s lt r (.slice a m N) Q (H k) w5:=(a8.o.1.next hb).upd b (by omega) (by omega) (by omega) (by omega);have r0:w5.cell? ⟨w.heap.size+1,0,none⟩=some (.slice a m N):=(b.keep (a8.o.2.1.next hb) (by omega)).cell 0;have r1:w5.cell? ⟨w.heap.size+1+1,0,none⟩=some (zI 0):=(b.keep (a8.o.2.2.1.next hb) (by omega)).cell 0;have r2:=zx0 b;show Leaves _ _ _ _ [] (settle u') w5;rw[hs];refine⟨.tuple #[.agg #[.slice a m N],zI 0,zI 0],by simp[results,Tryz.results72,r0,r1,r2,go_sem],?_⟩;obtain⟨p9,c9,bs,ai⟩:=ak.hold.sees;injection bs with e1 e2 e3
   subst e1;rw[← e2] at ai;exact⟨a,m,N,Q,H k,0,0,rfl,.inr (.inr ⟨aq.o,ae.o,k,H,R.o.s0,R.o.steps,.inl ⟨by rw[a7.o];exact b3.o,rfl,rfl,rfl⟩⟩),ai,b7.o,ak.bel⟩
  have aP:decide ((k:Int)<(n:Int))=true:=decide_eq_true (by omega);obtain⟨M,q,rfl,lb,hc⟩:=HL.o.2.resolve_left (by omega);have h:∀j,j<13→wr.cell? ⟨M,q+k*13+j,none⟩=(l.getD k ev0).cl[j]?:=λj hj=>(G.o.bel.cell (p:=⟨M,q+k*13+j,none⟩) lb).trans (hc k j aR hj);obtain⟨v,hv⟩:∃v,v=l.getD k ev0:=⟨_,rfl⟩
  have HV:Hid (v=l.getD k ev0):=hv;rw[← hv] at h;clear hv hc;have c0:wr.cell? ⟨M,q+k*13,none⟩=some (zI v.kd):=h 0 (by decide);have c1:wr.cell? ⟨M,q+k*13+1,none⟩=some (zI v.me):=h 1 (by decide);have c2:wr.cell? ⟨M,q+k*13+2,none⟩=some (zI v.mo):=h 2 (by decide);have c3:wr.cell? ⟨M,q+k*13+3,none⟩=some (zI v.id):=h 3 (by decide);have c4:wr.cell? ⟨M,q+k*13+4,none⟩=some (zI v.te):=h 4 (by decide);have c5:wr.cell? ⟨M,q+k*13+5,none⟩=some (zI v.de):=h 5 (by decide);have c6:wr.cell? ⟨M,q+k*13+6,none⟩=some (zI v.fe):=h 6 (by decide);have c7:wr.cell? ⟨M,q+k*13+7,none⟩=some (zI v.pr):=h 7 (by decide);have c8:wr.cell? ⟨M,q+k*13+8,none⟩=some (zI v.ch):=h 8 (by decide);have c9:wr.cell? ⟨M,q+k*13+9,none⟩=some (zI v.un):=h 9 (by decide);have b9:wr.cell? ⟨M,q+k*13+10,none⟩=some (zI v.tg):=h 10 (by decide);have bf:wr.cell? ⟨M,q+k*13+11,none⟩=some (zI v.ow):=h 11 (by decide);have bg:wr.cell? ⟨M,q+k*13+12,none⟩=some (zI v.bp):=h 12 (by decide);have b1:Hid (zC 108 #[.pointer (some ⟨X,0,none⟩),.agg #[zI v.kd,zI v.me,zI v.mo,zI v.id,zI v.te,zI v.de,zI v.fe,zI v.pr,zI v.ch,zI v.un,zI v.tg,zI v.ow,zI v.bp]] wr λe w'=>WPost w d X B t s lt r (StepIs t (H k) v) wr e w'):=bhappen w d X B t s lt r a Q.length N Q (H k) v wr G.o HT.o;clear h lb;have b2:Hid (k<l.length):=by show _<_;rw[a7.o];exact aR
  go_wp2_with fail;refine b1.o.mono ?_;rintro e w2 ⟨O,br⟩;clear q8 aP c0 c1 c2 c3 c4 c5 c6 c7 c8 c9 b9 bf bg;have bk:=E.o.h1;have bm:=E.o.h2;have bo:=E.o.h3;have bq:=E.o.h4;have aL:=zh (O.keep R.o.bb (by omega) (by omega) (by omega));have aK:=zh (O.keep R.o.ba (by omega) (by omega) (by omega));have aM:=zh (O.keep R.o.be (by omega) (by omega) (by omega));have aN:=zh (O.keep R.o.bn (by omega) (by omega) (by omega));have aW:=zh (O.bel G.o.bel (by omega) (by omega) (by omega));rcases br with⟨V',bu,aa,rfl,Y,aj⟩|⟨f,aa,hf,rfl,Y⟩
  case inr=>
   have ap:Hid (StepIs t (H k) (l.getD k ev0) aa f):=by show StepIs _ _ _ _ _;rw[← HV.o];exact Y
   have HF:=zh hf;clear Y O;refine leaves_cons (f:=106) (args:=#[.pointer (some ⟨w.heap.size+1+1+1,0,none⟩),.pointer (some ⟨A,0,none⟩),.pointer (some ⟨w.heap.size+1+1,0,none⟩)]) (by simp) (by simp[go_sem]) ?_;refine(of_caught (w.heap.size+1+1+1) A (w.heap.size+1+1) 0 (k:Int) 0 f hf _ aM.o aN.o aK.o (by omega) (by omega)).mono ?_;rintro e u' w5 ⟨rfl,hs,W,W3,hb,b,ab⟩;have r0:=(ab.keep (b.keep (aL.o.next hb) (by omega)) (by omega)).cell 0;have r1:=zx0 ab;have r2:=(ab.keep b.blk (by omega)).cell 0;have aX:zB w w5:=ab.bel _ _ (by omega) (b.bel _ _ (by omega) (bel_step aW.o hb));show Leaves _ _ _ _ [] (settle u') w5;rw[hs];refine⟨.tuple #[.agg #[zS],zI (k:Int),zI f],by simp[results,Tryz.results72,r0,r1,r2,go_sem],?_⟩;exact⟨none,0,0,[],[],(k:Int),f,rfl,.inr (.inr ⟨aq.o,ae.o,k,H,R.o.s0,R.o.steps,.inr ⟨b2.o,⟨aa,ap.o⟩,HF.o,rfl,rfl⟩⟩),sees_nil _,Nat.zero_le _,aX⟩
  have ap:Hid (StepIs t (H k) (l.getD k ev0) aa 0):=by show StepIs _ _ _ _ _;rw[← HV.o];exact Y
  have aE:=zh (step_small Y R.o.small);have aG:=zh (aj (aE.o.more (by omega)));have q8:=zy0 aN;have bx:IntKind.i64.wrap ((k:Int)+1)=(k:Int)+1:=by rw[IntKind.wrap_i64];omega
  clear Y O aj;go_wp2_with refine zl ?_;intro W3 b;have aH:=zh (aG.o.upd b (by omega) (by omega) (by omega) (by omega));have a9:Hid (Blk W3 (w.heap.size+1) #[zS] 65∧Blk W3 (w.heap.size+1+1) #[zI 0] 3∧Blk W3 (w.heap.size+1+1+1) #[zI 0] 36∧Blk W3 A #[zI ((k:Int)+1)] 3):=⟨b.keep aL.o (by omega),b.keep aK.o (by omega),b.keep aM.o (by omega),b.blk⟩
  clear b q8;obtain⟨aT,s1,s2,s3⟩:=run_more R.o.steps ap.o;have b4:Hid (Mid2 w t s lt r l A d X B (k+1) aT W3):=⟨s1.trans R.o.s0,s3,by rw[s2];exact aE.o,a9.o.1,a9.o.2.1,a9.o.2.2.1,by have h1:=a9.o.2.2.2;rw[show ((k:Int)+1)=((k+1:Nat):Int) by omega] at h1;exact h1,V',bu,by rw[s2];exact aH.o⟩
  clear s1 s2 s3;go_wp2_with fail;go_roundg (n-(k+1))
  case rel=>exact⟨k+1,aT,by omega,b4.o⟩
  case measure=>omega
end book
end Go.Proofs.YtoepgdhiepedeaaGreatDoor
