import Derived.Test.YtoepgdhiepedeaaGreatDoorVVSls33
import Derived.Test.YtoepgdhiepedeaaGreatDoorVVSls38
set_option linter.unusedVariables false
set_option linter.unusedSimpArgs false
set_option maxHeartbeats 4000000
set_option maxRecDepth 100000
namespace Go.Proofs.YtoepgdhiepedeaaGreatDoor
namespace vnd
open book (Ev ev0 Cm cm0 So so0 Sees)
open acc (Ac Tm Bi)
open ora (Pr)
open cell (Wr RowU RowW)
open rcp (Rc rc0)
open Go.RowKit
def TokGot(w:World)(R:List Wr→List Pr→Rc→Int→Prop)(e:Ending)(w':World):Prop:=∃p m cp ls p5 n5 c5 o' r f,e=.returned (.tuple #[.slice p m cp,.agg #[.slice p5 n5 c5],rcp.Rc.v r,zI f])∧R ls o' r f∧RowW w' p m ls∧(∀x,p=some x→w.heap.size≤x.block)∧m≤cp∧m≤100000∧ora.RowP w' p5 n5 o'∧(p5=none→c5=0)∧n5≤c5∧(∀y,p5=some y→w.heap.size≤y.block)∧zB w w'
open disk (RepIs AppIs RepPost AppPost Lr Recs Sli sl0)
open book (EMay evL evOf EncIs DecIs BookIs BookPost ECame RowE FirstAt NoneAt Tells EncPost DecPost)
open acc (SellIs GrantIs RekeyIs OweIs)
open ora (IssueIs)
open cell (Lw Ws)
open token (Tok fmtL)
theorem tok_few{kd:Int}{t:Tm}{c:List Int}{o:List Pr}{me te mo dr:Int}{ls:List Wr}{o':List Pr}{r:Rc}{f:Int}(h:TokIs kd t c o me te mo dr ls o' r f):ls.length≤66:=by
 obtain⟨a,g,_,⟨_,rfl,_⟩|⟨_,_,rfl,_⟩|⟨_,k,b,l,x,_,_,⟨_,rfl,_⟩|⟨_,j,m,d,_,⟨_,rfl,_⟩|⟨_,i,e,q,⟨_,rfl,_⟩|⟨_,rfl,_⟩⟩⟩⟩⟩:=h
 ·simp
 ·simp
 ·simp
 ·simp
 ·simp
 ·exact keep_few q
theorem tok_ofew{kd:Int}{t:Tm}{c:List Int}{o:List Pr}{me te mo dr:Int}{ls:List Wr}{o':List Pr}{r:Rc}{f:Int}(h:TokIs kd t c o me te mo dr ls o' r f):o'.length≤500:=by
 obtain⟨d,g,_,⟨_,_,rfl,_⟩|⟨_,_,_,rfl,_⟩|⟨_,k,b,l,x,_,_,⟨_,_,rfl,_⟩|⟨_,m,n,e,a,⟨_,_,rfl,_⟩|⟨_,j,i,q,⟨_,_,rfl,_⟩|⟨_,_,rfl,_⟩⟩⟩⟩⟩:=h
 ·simp
 ·simp
 ·simp
 ·simp
 ·simp
 ·exact ora.few_small a
theorem tok_got{w w':World}{R:List Wr→List Pr→Rc→Int→Prop}{e:Ending}(h:TokPost w R e w')(hf:∀ls o r f,R ls o r f→ls.length≤66):TokGot w R e w':=by
 obtain⟨V,ls,z,u,k,y,r,f,rfl,j,i,l,m,n,p,s⟩:=h;have g:=World.ownsRow.lt i;have q:=hf _ _ _ _ j;obtain⟨a,c,rfl,b,_,d,_⟩:=i.row;exact⟨a,_,c,ls,z,u,k,y,r,f,rfl,j,b,λx t=>(g x.block (by rw[t];rfl)).1,d,by omega,l,m,n,p,s⟩
theorem cut_end{P:Program}{md:Region.Mode}{ops:Array Oper}{Q:Exit→Act→World→Prop}{S:World→Prop}{fuel:Nat}{listed:Array Bool}{a:Act}{U0:World}{γ:Type}(fuel2:Nat)(listed2:Array Bool)(F:γ→Act)(I:γ→World→Prop)
  (hE:∀c U,I c U→S U→wpAnyH P md ops Q S fuel2 listed2 (F c) U)
  (h:Shut (∀(c:γ)(U:World)(l:Array Bool)(fu:Nat),(l==listed2)=true→fu=fuel2→I c U→S U→wpAnyH P md ops Q S fu l (F c) U)→wpAnyH P md ops Q S fuel listed a U0):wpAnyH P md ops Q S fuel listed a U0:=
 h (λc U l fu e hf b d=>by rw[eq_of_beq e,hf];exact hE c U b d)
structure EndS where
 ga:Nat
 gb:Nat
 p:Option Addr
 m:Nat
 cp:Nat
 ls:List Wr
 p5:Option Addr
 n5:Nat
 c5:Nat
 o2:List Pr
 r:Rc
 f:Int
 p2:Option Addr
 c2:Nat
structure EndV where
 ga:Nat
 gb:Nat
 p5:Option Addr
 n5:Nat
 c5:Nat
 o2:List Pr
 tg:Int
 f:Int
def KvSell(w0:World):Prop:=∀(W:World)(t:Tm)(pt:Option Addr)(lt ct:Nat)(a:Option Addr)(n cap:Nat)(c:List Int)(ao:Option Addr)(no ko:Nat)(o:List Pr)(me te mo dr:Int),zB w0 W→acc.TCame W t pt lt ct→Dk W a n cap c→ora.Came W ao no ko o→(Lit.int .i64 me).wf=true→(Lit.int .i64 te).wf=true→(Lit.int .i64 mo).wf=true→(Lit.int .i64 dr).wf=true→zC 8 #[t.v pt lt ct,.slice a n cap,.agg #[.slice ao no ko],zI me,zI te,zI mo,zI dr] W λe w'=>TokGot W (TokIs 2 t c o me te mo dr) e w'
theorem cell_lw_next{w w':World}{base:Nat}{v:Value}{l:List Wr}(h:Lw w base v l)(hb:zB w w'):Lw w' base v l:=by
 refine⟨h.1,?_⟩;rcases h.2 with e|⟨g,a,b,f,d,c,rest⟩
 ·exact .inl e
 ·exact .inr ⟨g,a,b,f,d,Blk.next c hb,rest⟩
theorem rloaded(t:Tm)(pt:Option Addr)(lt ct:Nat)(a:Option Addr)(n cap:Nat)(c:List Int)(w:World)(ht:tar.Came w pt lt ct t.ts)(h:RowU w a n c)(hw:∀x∈c,0≤x∧x<4294967296):Calls Tryz.prog 20 #[.agg #[.slice pt lt ct,zI t.ff,zI t.fb,zI t.db,zI t.al],.slice a n cap] w λe w'=>LoadPost w t c e w':=by
 have HC:Hid (∀W,zB w W→RowU W a n c):=λW Y=>h.below Y;have HT:Hid (∀W,zB w W→tar.Came W pt lt ct t.ts):=λW Y=>ht.below Y;have HW:=zh hw;clear h ht hw;obtain⟨U,r,G,F,s,a5⟩:=sh2 w #[.slice pt lt ct,zI t.ff,zI t.fb,zI t.db,zI t.al] 24 #[zS] 65;go_enter Tryz.func20,Tryz.ntmps20;go_upto_region 1 with fail
 rw[r.o];have Q:Hid (zC 42 #[.slice a n cap] U λe w'=>KeptPost U c e w'):=rkept a n cap c U (HC.o _ s.o) HW.o;go_wp2_with refine zw ?_;refine Q.o.mono ?_;rintro e w1 ⟨p,m,cp,l,f,rfl,hk,B,hm,g⟩;obtain⟨u,H⟩:=zn2 g G F;have d:=shB s g;have a1:=g.size;clear g;have z:=zh hk;have P:=zh B;clear hk B;by_cases E:f=0
 ·subst E;have O:Hid (zC 43 #[.agg #[.slice pt lt ct,zI t.ff,zI t.fb,zI t.db,zI t.al],.slice p m cp] w1 λe w'=>BookPost w1 t l e w'):=book.rbook t pt lt ct p m cp l w1 (HT.o _ d.o).row (HT.o _ d.o).most P.o.row (by omega);go_wp2_with refine zw ?_;refine O.o.mono ?_;rintro e w2 ⟨p2,m2,c2,xs,bk,V,X,rfl,A,D,Z,i⟩;obtain⟨y,k⟩:=zn2 i u H;have j:=shB d i;have a2:=i.size;clear i;have T:Hid (LoadIs t c bk X):=⟨l,0,z.o,.inr ⟨rfl,V,A⟩⟩
  obtain⟨W3,r,J,q,C⟩:=sh1 w2 #[.slice p2 m2 c2] 65;have R:=zh (D.below q.o);clear A D;obtain⟨L,K⟩:=zn2 q.o y k;have I:=shB j q.o;go_upto_region 5 with fail
  rw[r.o];go_wp2_with (first|refine zs ?_|refine zw ?_)
  intro W4 b;have S:=zh (sees_one R.o K.o b);obtain⟨a4,a3⟩:=zk2 b L J;have M:=zk b I;have N:=zyb b;have a0:=b.size;clear b;go_wp2_with fail;exact zr (.tuple #[.agg #[.slice p2 m2 c2],zI X]) (by simp[results,Tryz.results20,zy0 N,go_sem]) ⟨p2,m2,c2,xs,bk,X,rfl,T.o,S.o,Z,M.o⟩
 ·have d0:(f != 0)=true:=by simpa using E
  have T:Hid (LoadIs t c [] f):=⟨l,f,z.o,.inl ⟨E,rfl,rfl⟩⟩
  clear E;go_wp2_with (first|refine zs ?_|refine zw ?_)
  intro W3 b;have y:=zk1 b u;have j:=zk b d;have k:=zyb b;have C:=b.size;clear b;go_wp2_with fail;exact zr (.tuple #[.agg #[zS],zI f]) (by simp[results,Tryz.results20,zy0 k,go_sem]) ⟨none,0,0,[],[],f,rfl,T.o,book.sees_nil _,Nat.zero_le _,j.o⟩
end vnd
namespace acc
open tar (Du du0 Came RowD Ld PairT)
open Go.RowKit
theorem terms_any(x:Tm)(p:Option Addr)(len cap:Nat)(w:World)(h:TCame w x p len cap):Calls Tryz.prog 9 #[x.v p len cap] w λe w'=>∃p' cap',e=.returned (x.v p' len cap')∧deb.Fresh w' w.heap.size p' len cap' x.ts∧zB w w':=by
 have d:=h.ts.row.1;have H:=zh h;unfold Tm.v;obtain⟨u,J,m,z,k,W⟩:=sh2 w #[.slice p len cap,zI x.ff,zI x.fb,zI x.db,zI x.al] 24 #[zS,zI 0,zI 0,zI 0,zI 0] 24;have l:=zh (h.ts.below k.o);go_enter Tryz.func9,Tryz.ntmps9;go_upto_region 1 with fail
 rw[J.o];have I:=zh (tar.steps_any p len cap x.ts u l.o);clear h;have L:=zy0 m;go_wp2_with fail;refine I.o.mono ?_;rintro e X ⟨Y,rfl,i,b⟩;obtain⟨Q,B⟩:=zn2 b m z;have P:=zh (l.o.below b);have A:=shB k b;have O:=b.size;clear b;have q:=H.o.ts;obtain⟨t,c2,K,g⟩:=i.came (by rw[d];exact q.bytes) q.wf;subst K;have j:=deb.ld_new i;rw[d] at g j ⊢;have f:Hid (deb.Fresh X u.heap.size t len c2 x.ts):=⟨g,j⟩
 have c:=zh (came_lt f.o.came);clear i g j L;go_wp2_with (first|refine zm ?_|refine zw ?_)
 intro W3 a;have D:=zyb a;have R:=zk1 a B;have n:Hid (deb.Fresh W3 u.heap.size t len c2 x.ts):=fresh_updN f.o a (λr y s=>by have U:=f.o.new r y s;have V:=c.o r y s;omega);have C:=zk a A;have M:=a.size;clear a;go_wp2_with (first|refine zs ?_|refine zw ?_)
 intro T a;have S:=zk1 a D;have G:=zyb a;have F:Hid (deb.Fresh T u.heap.size t len c2 x.ts):=fresh_updN n.o a (λr y s=>by have U:=n.o.new r y s;have V:=c.o r y s;omega);have E:=zk a C;have N:=a.size;clear a;go_wp2_with fail;exact zr (.agg #[.slice t len c2,zI x.ff,zI x.fb,zI x.db,zI x.al]) (by simp[results,Tryz.results9,scl5 G,go_sem]) ⟨t,c2,rfl,F.o.low (by omega),E.o⟩
end acc
namespace vnd
open disk (RepIs AppIs)
open book (Ev ev0 EMay evL evOf EncIs DecIs Cm cm0 So so0 BookIs Sees ECame FirstAt NoneAt)
open acc (Ac Tm Bi TCame ACame)
open cell (Wr RowU)
open Go.RowKit
theorem rowP_off{w W:World}{g:Nat}{v':Array Value}{T':TypeId}{p:Option Addr}{n:Nat}{l:List ora.Pr}(h:ora.RowP w p n l)(hg:∀y,p=some y→y.block≠g)(hU:Upd w W g v' T'):ora.RowP W p n l:=by
 refine⟨h.1,?_⟩;rcases h.2 with e|⟨b,c,rfl,f⟩
 ·exact .inl e
 ·refine .inr ⟨b,c,rfl,λi j=>?_⟩;have a:b≠g:=hg _ rfl;have d:=f i j;unfold ora.PrAt at d ⊢;have k:∀o,W.cell? ⟨b,o,none⟩=w.cell? ⟨b,o,none⟩:=λo=>hU.cell ⟨b,o,none⟩ a rfl;simpa only[k] using d
end vnd
namespace token
open words
open Go.RowKit
theorem body_ok(k:Tok)(w:World)(ht:TTab w)(hk:k.ok):
  Calls Tryz.prog 74 #[k.v] w λe w'=>e=.returned (.tuple #[zI (k.body:Int),zI 0])∧zB w w':=by
 have s:Hid (∀W,TTab W→zC 111 #[.agg #[zI (k.c:Int),zI (k.i:Int),zI (k.a:Int),zI (k.t:Int)]] W λe w'=>e=.returned (zI 0)∧zB W w'):=λW d=>by
  have:=flaw_any k.c k.i k.a k.t W d
  rwa [flaw_tok.2 hk] at this
 have A:Hid (∀W,TTab W→zC 113 #[.agg #[zI (k.c:Int),zI (k.i:Int),zI (k.a:Int),zI (k.t:Int)]] W λe w'=>PackPost W k e w'):=λW d=>pack_any k W hk d
 have B:Hid (∀(x y z:Nat) W,WN x y z k.num→zC 112 #[.agg #[.int .u32 (x:Int),.int .u32 (y:Int),.int .u32 (z:Int)],zI 16,zI 43] W λe w'=>e=.returned (.tuple #[.int .u64 (k.body:Int),zI 0])∧zB W w'):=λx y z W d=>by
  have:=bits_wn x y z 16 43 k.num W d (by omega) (by omega) (by omega)
  rwa [show k.num/2^16%2^43=k.body from body_num hk] at this
 have D:IntKind.i64.wrap (k.body:Int)=(k.body:Int):=wrap_i _ (by have:=body_bd hk;omega);have q:Hid (TTab (w.alloc (.cells #[zI (k.c:Int),zI (k.i:Int),zI (k.a:Int),zI (k.t:Int)] 73))):=ht.below (bel_box _ _);have r:Hid (zB w (w.alloc (.cells #[zI (k.c:Int),zI (k.i:Int),zI (k.a:Int),zI (k.t:Int)] 73))):=bel_box _ _;have C:Hid (Blk (w.alloc (.cells #[zI (k.c:Int),zI (k.i:Int),zI (k.a:Int),zI (k.t:Int)] 73)) w.heap.size #[zI (k.c:Int),zI (k.i:Int),zI (k.a:Int),zI (k.t:Int)] 73):=Blk.new _ _ _;clear ht hk;unfold Tok.v;generalize (k.body:Int)=bd at *;go_enter Tryz.func74,Tryz.ntmps74;go_wp2_with fail;refine(s.o _ q.o).mono ?_;rintro e E ⟨rfl,b⟩;have l:=shB r b;have p:Hid (TTab E):=q.o.below b;have f:=C.o.next b;have F:=f.cell 0;have G:=f.cell 1;have H:=f.cell 2;have I:=f.cell 3;clear b f;go_wp2_with fail;refine(A.o _ p.o).mono ?_;rintro e J ⟨x,y,z,rfl,j,g⟩;have m:=shB l g;have u:Hid (WN x y z k.num):=j;clear g j F G H I;go_wp2_with fail;refine(B.o _ _ _ _ u.o).mono ?_;rintro e K ⟨rfl,h⟩;have n:=shB m h;clear h;go_wp2_with fail;refine bodyPost_ret (v:=.tuple #[zI bd,zI 0]) (by simp[results,Tryz.results74,go_sem]) rfl ⟨rfl,n.o⟩
end token
namespace vnd
open disk (RepIs AppIs)
open book (Ev ev0 EMay evL evOf EncIs DecIs Cm cm0 So so0 BookIs Sees ECame FirstAt NoneAt Tells)
open acc (Ac Tm Bi TCame ACame SellIs GrantIs RekeyIs)
open ora (Pr IssueIs)
open token (Tok TTab fmtL)
open rcp (Rc rc0)
open cell (Wr RowU RowW)
open Go.RowKit
def BGot(w:World)(R:Ac→Bi→Int→Prop)(e:Ending)(w':World):Prop:=∃b l p len cap f,e=.returned (.tuple #[acc.Ac.v b p len cap,acc.Bi.v l,zI f])∧R b l f∧zB w w'
def TagP(w:World)(o:List Pr)(me rv bd dr cl id am:Int)(e:Ending)(w':World):Prop:=∃p5 n5 c5 o2 tg f,e=.returned (.tuple #[.agg #[.slice p5 n5 c5],.agg #[zI cl,zI id,zI am,zI tg],zI f])∧IssueIs o me rv bd dr o2 tg f∧ora.RowP w' p5 n5 o2∧(p5=none→c5=0)∧n5≤c5∧(∀x,p5=some x→w.heap.size≤x.block)∧zB w w'
theorem ptagged(ao:Option Addr)(no ko:Nat)(o:List Pr)(y:Ac)(dp:Option Addr)(dn dc:Nat)(cl id am dr:Int)(K:Tok)(w:World)(ht:TTab w)(hk:K.ok)(hv:K.v=.agg #[zI cl,zI id,zI am,zI 0])(ho:ora.RowP w ao no o):Calls Tryz.prog 38 #[.agg #[.slice ao no ko],.agg #[zI y.me,zI y.rv,zI y.nx,zI y.mo,zI y.bo,zI y.fr,.slice dp dn dc],.agg #[zI cl,zI id,zI am,zI 0],zI dr] w λe w'=>TagP w o y.me y.rv (K.body:Int) dr cl id am e w':=by
 have HO:Hid (∀W,zB w W→ora.RowP W ao no o):=λW hW=>ho.below hW
 have au:Hid (∀W,zB w W→zC 74 #[.agg #[zI cl,zI id,zI am,zI 0]] W λe w'=>e=.returned (.tuple #[zI (K.body:Int),zI 0])∧zB W w'):=λW hW=>by
  have hh:=token.body_ok K W (ht.below hW) hk;rw[hv] at hh;exact hh
 clear ht hk hv ho;generalize (K.body:Int)=bd at *;obtain⟨W0,m,P,N,O,R,Q,q,aJ⟩:=sh5 w #[.slice ao no ko] 28 #[zI y.me,zI y.rv,zI y.nx,zI y.mo,zI y.bo,zI y.fr,.slice dp dn dc] 55 #[zI cl,zI id,zI am,zI 0] 73 #[zS] 28 #[zI 0,zI 0,zI 0,zI 0] 73;go_enter Tryz.func38,Tryz.ntmps38;go_upto_region 1 with fail
 rw[m.o];have ar:=au.o W0 q.o;go_wp2_with refine zw ?_;refine ar.mono ?_;rintro e w1 ⟨rfl,f⟩;obtain⟨U,k,T,X,V⟩:=zn5 f P N O R Q;have r:=shB q f;have aD:=f.size;clear f;have aw:Hid (zC 75 #[.agg #[.slice ao no ko],zI y.me,zI y.rv,zI bd,zI dr] w1 λe w'=>ora.IssueQ w1 o y.me y.rv bd dr e w'):=ora.poi ao no ko o y.me y.rv bd dr w1 (HO.o _ r.o);have az:=zy0 k;have aA:=zy1 k;go_wp2_with refine zw ?_;clear az aA;refine aw.o.mono ?_;rintro e L ⟨v5,p,J,M,rfl,H,j,g⟩;obtain⟨a1,Z,a0,a3,a2⟩:=zn5 g U k T X V;have Y:=shB r g;have aE:=g.size;clear g;obtain⟨c,i,rfl,I,F,E,G⟩:=H.lies;have av:=zh j;have ax:=zh I;have A:Hid ((c=none→i=0)∧p.length≤i):=⟨F,E⟩
 have d:=zh G;clear I F E G j H;generalize p.length=h at *;have aF:Hid (zB L L):=zb;obtain⟨W3,m,a6,l,aB⟩:=sh1 L #[.slice c h i] 28;obtain⟨a7,a5,aG,a9,a8⟩:=zn5 l.o a1 Z a0 a3 a2;have a4:=shB Y l.o;go_upto_region 3 with fail
 rw[m.o];go_wp2_with refine zl ?_;intro W4 a;have ay:Hid (ora.RowP W4 c h p):=rowP_off (ax.o.below l.o) (λx n=>by have:=d.o x n;omega) a;obtain⟨ac,ab,ae,ad,t⟩:=zk5 a a7 a5 a9 a8 a6;have aa:=zk a a4;have s:=zyb a;have aC:=a.size;clear a;go_wp2_with fail;refine wp_region_held_drew (S:=λv=>Blk v (L.heap.size) #[.slice c h i] 28∧Blk v (w.heap.size+1+1) #[zI cl,zI id,zI am,zI J] 73) (by kernel_rfl) ⟨Blk.drew t.o 1,Blk.drew s.o 1⟩ (λb=>?_);refine zu' 0 (.agg #[.slice c h i]) rfl rfl (Or.inl ⟨by rfl,λv hv=>by have g0:=hv.1.cell 0;clear hv;go_simp⟩) ?_;refine zu' 1 (.agg #[zI cl,zI id,zI am,zI J]) rfl rfl (Or.inl ⟨by rfl,λv hv=>by have g0:=hv.2.cell 0;have g1:=hv.2.cell 1;have g2:=hv.2.cell 2;have g3:=hv.2.cell 3;clear hv;go_simp⟩) ?_;refine zt' 2 (zI M) ?_;refine zo 3 λK D=>?_;rw[if_pos (by rfl)];refine wp_letOp 28 _ _ rfl (w.heap.size+1+1+1) rfl #[.slice c h i] rfl (by kernel_rfl) (by simp[Value.oneCell']) #[zS] 28 (Blk.drew ae.o 1) rfl rfl ?_;intro V1 a;have ah:=zh (a.keep (Blk.drew ac.o 1) (by omega));have ag:=zh (a.keep (Blk.drew ab.o 1) (by omega));have u:=zh (a.keep (Blk.drew s.o 1) (by omega));have aj:=zyb a;have ai:=zh (a.keep (Blk.drew ad.o 1) (by omega));have z:=zh (a.keep (Blk.drew t.o 1) (by omega));have B:Hid (ora.RowP V1 c h p):=rowP_off (ay.o.below (bel_drew zb 1)) (λx n=>by have:=d.o x n;omega) a;have af:Hid (zB w V1):=a.bel _ _ (by omega) aa.o.drew;clear a;refine D.o _ _ ⟨z.o,u.o⟩ (λb=>?_);clear D K;refine zo 4 λK D=>?_;rw[if_pos (by rfl)];refine wp_letOp 73 _ _ rfl (w.heap.size+1+1+1+1) rfl #[zI cl,zI id,zI am,zI J] rfl (by kernel_rfl) (by simp[Value.oneCell']) #[zI 0,zI 0,zI 0,zI 0] 73 ai.o rfl rfl ?_;intro V2 a;obtain⟨aI,aH,al,aq,an⟩:=zk5 a ah ag u aj z
 have ap:=zyb a;have C:Hid (ora.RowP V2 c h p):=rowP_off B.o (λx n=>by have:=d.o x n;omega) a;have ak:=zk a af;clear a;refine D.o _ _ ⟨an.o,al.o⟩ (λb=>?_);clear D K;refine zt' 5 (zI M) ?_;refine wpAnyH_done (by kernel_rfl) ?_ _;clear b;go_wp2_with fail;exact zr (.tuple #[.agg #[.slice c h i],.agg #[zI cl,zI id,zI am,zI J],zI M]) (by simp[results,Tryz.results38,zy0 aq,scl4 ap,go_sem]) ⟨c,h,i,p,J,M,rfl,av.o,C.o,A.o.1,A.o.2,(λx n=>by have:=d.o x n;omega),ak.o⟩
open disk (May repD lenAt appW)
open book (billOf soldOf StepIs HapIs)
open acc (OweIs)
theorem book_ok{t:Tm}{l:List Ev}{bk:List Cm}{a:Int}(h:BookIs t l bk a 0):acc.TRight t∧l.length≤120∧a=0∧∃st:Nat→List Cm,st 0=[]∧(∀i,i<l.length→StepIs t (st i) (l.getD i ev0) (st (i+1)) 0)∧bk=st l.length:=by
 rcases h with⟨_,p,_⟩|⟨_,_,_,_,p⟩|⟨p,q,k,st,c,d,⟨rfl,b,e,_⟩|⟨_,_,b,_⟩⟩
 ·exact absurd rfl p
 ·cases p
 ·exact⟨p,q,e,st,c,d,b⟩
 ·exact absurd rfl b
variable{bk:List Cm}{t:Tm}
theorem step_wf{bk bk':List Cm}{v:Ev}(h:book.StepIs t bk v bk' 0)(hw:book.AWf bk):book.AWf bk':=by
 rcases h with⟨_,e⟩|⟨_,_,_,e⟩|⟨m,_,_,_,rfl⟩|⟨_,_,_,e⟩|⟨m,_,k,c,_,a,b⟩
 ·cases e
 ·cases e
 ·exact hw.snoc ⟨(book.wf_may m).2.1,rfl,rfl,rfl,rfl,rfl⟩
 ·cases e
 ·rw[b rfl];exact hw.set (book.hap_wf a m).1
theorem book_wf{l:List Ev}{a:Int}(h:BookIs t l bk a 0):book.AWf bk:=by
 obtain⟨_,_,_,f,d,e,rfl⟩:=book_ok h
 have:∀i,i≤l.length→book.AWf (f i):=by
  intro i
  induction i with
  |zero=>intro _ c b;rw[d] at b;cases b
  |succ i ih=>intro g;exact step_wf (e i (by omega)) (ih (by omega))
 exact this _ zc
theorem load_wf{c:List Int}(h:LoadIs t c bk 0):book.AWf bk:=by
 obtain⟨l,e,_,⟨p,_,q⟩|⟨_,a,q⟩⟩:=h
 ·exact absurd q.symm p
 ·exact book_wf q
theorem book_no{l:List Ev}{a f:Int}(h:BookIs t l bk a f)(hf:f≠0):bk=[]:=by
 rcases h with⟨_,_,p,_⟩|⟨_,_,p,_⟩|⟨_,_,k,b,_,_,⟨_,_,_,p⟩|⟨_,_,_,p,_⟩⟩
 ·exact p
 ·exact p
 ·exact absurd p hf
 ·exact p
theorem enc_yes{v:Ev}{ws:List Int}{g:Int}(h:EncIs v ws g)(hv:EMay v):(∀x∈ws,0≤x∧x<4294967296)∧g=0:=by
 rcases h with⟨_,rfl,rfl⟩|⟨n,_⟩
 ·exact⟨book.may_word hv,rfl⟩
 ·exact absurd hv n
theorem pkeep(p2:Option Addr)(m2 c2:Nat)(a:Option Addr)(n cap:Nat)(c:List Int)(l:List Ev)(v:Ev)(w:World)(h:Dk w a n cap c)(hk:KeptIs c l 0)(hl:l.length≤120)(hv:EMay v):Calls Tryz.prog 40 #[.agg #[.slice p2 m2 c2,.slice a n cap,zI (l.length:Int)],.agg #[zI v.kd,zI v.me,zI v.mo,zI v.id,zI v.te,zI v.de,zI v.fe,zI v.pr,zI v.ch,zI v.un,zI v.tg,zI v.ow,zI v.bp]] w λe w'=>WrGot w (KeepIs c v) e w':=by
 have HC:Hid (∀W,zB w W→Dk W a n cap c):=λW hW=>h.below hW;have s:=zh hk;have T:=zh hv;clear h hk hv;obtain⟨W0,N,k,E,p,a2⟩:=sh2 w #[.slice p2 m2 c2,.slice a n cap,zI (l.length:Int)] 93 #[zI v.kd,zI v.me,zI v.mo,zI v.id,zI v.te,zI v.de,zI v.fe,zI v.pr,zI v.ch,zI v.un,zI v.tg,zI v.ow,zI v.bp] 44;go_enter Tryz.func40,Tryz.ntmps40;go_upto_region 1 with fail
 rw[N.o];by_cases V:l.length=120
 ·have d1:((l.length:Int)==120)=true:=by simp;omega
  have K:Hid (KeepIs c v [] 16):=⟨l,0,s.o,.inl ⟨by omega,rfl,rfl⟩⟩
  clear V;have C:=zy2 k;go_wp2_with refine zw ?_;go_ret2;exact⟨none,0,0,[],16,rfl,K.o,⟨rfl,.inl rfl⟩,(λx Q=>by cases Q),zc,Nat.zero_le _,p.o⟩
 ·have d1:((l.length:Int)==120)=false:=by simp;omega
  have u:Hid (l.length<120):=(by omega:l.length<120)
  clear V hl;have J:=zh (book.kenc W0 v (book.wf_may T.o));have C:=zy2 k;go_wp2_with refine zw ?_;refine J.o.mono ?_;rintro e D ⟨ra,rn,rc,S,g,rfl,m,A,z,y,X,b⟩;obtain⟨r,F⟩:=zn2 b k E;have q:=shB p b;have Y:=b.size;clear b;clear C;obtain⟨B,rfl⟩:=enc_yes m T.o;have I:=zh m;clear m;have H:Hid (zC 77 #[.slice a n cap,.slice ra rn rc] D λe w'=>disk.AppGot D c S e w'):=(λd:Dk D a n cap c=>disk.kappend D a n cap c ra rn rc S d.row d.nil d.room d.bytes d.wd A z y (by omega) B) (HC.o _ q.o)
  clear A z y B;have R:=zy1 r;go_wp2_with refine zw ?_;refine H.o.mono ?_;rintro e w2 ⟨p3,m3,c3,ls,U,rfl,j,i,O,P,t,f⟩;obtain⟨a0,a1⟩:=zn2 f r F;have G:=shB q f;have Z:=f.size;clear f;clear R;have K:Hid (KeepIs c v ls U):=⟨l,0,s.o,.inr ⟨u.o,S,0,I.o,.inr ⟨rfl,t⟩⟩⟩
  have M:=zh j;have L:Hid (∀x,p3=some x→w.heap.size≤x.block):=λx Q=>Nat.le_trans (by omega) (i x Q);clear j i t u;go_wp2_with fail;go_ret2;exact⟨p3,m3,c3,ls,U,rfl,K.o,M.o,L.o,O,P,G.o⟩
end vnd
namespace book
open Go.RowKit
def FindPost(w:World)(l:List Cu)(me:Int)(e:Ending)(w':World):Prop:=∃x f,e=.returned (.tuple #[zI x,zI f])∧FindIs l me x f∧zB w w'
def findV(B:Nat):Value:=.func (.func 110) #[] #[.pointer (some ⟨B,0,none⟩)]
theorem asked_any(B:Nat)(me xm xr xn xo xb xf:Int)(dp:Option Addr)(dn dc:Nat)(sp:Option Addr)(sn sc:Nat)(W:World)(hc:W.cell? ⟨B,0,none⟩=some (zI me))(hB:B<W.heap.size):
  Calls Tryz.prog 110 #[.agg #[zI xm,zI xr,zI xn,zI xo,zI xb,zI xf,.slice dp dn dc,.slice sp sn sc],.pointer (some ⟨B,0,none⟩)] W λe w'=>e=.returned (.bool (xm==me))∧zB W w':=by
 have b:(W.alloc (.cells #[zI xm,zI xr,zI xn,zI xo,zI xb,zI xf,.slice dp dn dc,.slice sp sn sc] 71)).cell? ⟨B,0,none⟩=some (zI me):=by rw[World.cell?_alloc_lt W _ _ hB];exact hc
 have a:Hid (zB W (W.alloc (.cells #[zI xm,zI xr,zI xn,zI xo,zI xb,zI xf,.slice dp dn dc,.slice sp sn sc] 71))):=zb.alloc zc _;clear hc hB;go_enter Tryz.func110,Tryz.ntmps110;go_wp2_with fail;go_ret;exact⟨rfl,a.o⟩
theorem index_cust(B n cap:Nat)(me:Int)(a:Option Addr)(l:List Cu)(w:World)(hc:w.cell? ⟨B,0,none⟩=some (zI me))(hr:RowC w a n l)(hn:n≤2000000):
  Calls Tryz.prog 109 #[.slice a n cap,findV B] w λe w'=>∃x,e=.returned (zI x)∧FoundIs l me x∧zB w w':=by
 have V:=World.block_lt_of_cell? w _ hc
 have HC:Hid (∀wr,zB w wr→∀(d F D E A C:Int)(s:Option Addr)(r m:Nat)(y:Option Addr)(u t:Nat),zC 110 #[.agg #[zI d,zI F,zI D,zI E,zI A,zI C,.slice s r m,.slice y u t],.pointer (some ⟨B,0,none⟩)] wr λe w'=>e=.returned (.bool (d==me))∧zB wr w'):=λwr N d F D E A C s r m y u t=>
  asked_any B me d F D E A C s r m y u t wr ((N.cell (p:=⟨B,0,none⟩) V).trans hc) (Nat.lt_of_lt_of_le V N.size)
 have HR:Hid (RowC w a n l):=hr;have W:Hid (l.length=n):=hr.1;clear hc V hr;unfold findV;go_enter Tryz.func109,Tryz.ntmps109;go_wp2_with fail;go_loopw [8] (λi wr=>∃k:Nat,k≤n∧i=zI (k:Int)∧(∀j,j<k→(l.getD j cu0).me≠me)∧zB w wr) (λi _=>n-(intOf i).toNat)
 case atStart=>exact⟨0,Nat.zero_le _,rfl,(λj J=>absurd J (Nat.not_lt_zero _)),zb⟩
 case round=>
  obtain⟨k,hk,rfl,M,N⟩:=hrel;have Q:Hid (∀j,j<k→(l.getD j cu0).me≠me):=M;have K:Hid (zB w wr):=N;clear M N;by_cases P:k<n
  ·obtain⟨g,h,rfl,l2,O⟩:=HR.o.2.resolve_left (by omega);have c:∀j,j<8→wr.cell? ⟨g,h+k*8+j,none⟩=(l.getD k cu0).cs[j]?:=λj J=>(K.o.cell (p:=⟨g,h+k*8+j,none⟩) l2).trans (O k j P J)
   have T:Hid (∀ z,z=(l.getD k cu0).me→(z=me→FoundIs l me (k:Int))∧(z≠me→∀ j,j<k+1→(l.getD j cu0).me≠me)):=fun z hz=>⟨fun e=> .inl ⟨k,by rw [W.o];exact P,by rw [← hz];exact e,Q.o,rfl⟩,fun e j J=>by
    by_cases q:j=k
    ·subst q;rw[← hz];exact e
    ·exact Q.o j (by omega)⟩
   clear O l2;obtain⟨⟨d,F,D,E,A,C,s,r,m,y,u,t⟩,hx⟩:∃x,x=l.getD k cu0:=⟨_,rfl⟩
   have L:=T.o d (by rw[← hx]);have HY:Hid (d=me→FoundIs l me (k:Int)):=L.1;have U:Hid (d≠me→∀j,j<k+1→(l.getD j cu0).me≠me):=L.2;rw[← hx] at c;clear hx;have c0:wr.cell? ⟨g,h+k*8,none⟩=some (zI d):=c 0 (by decide);have c1:wr.cell? ⟨g,h+k*8+1,none⟩=some (zI F):=c 1 (by decide);have c2:wr.cell? ⟨g,h+k*8+2,none⟩=some (zI D):=c 2 (by decide);have X:wr.cell? ⟨g,h+k*8+3,none⟩=some (zI E):=c 3 (by decide);have Y:wr.cell? ⟨g,h+k*8+4,none⟩=some (zI A):=c 4 (by decide);have Z:wr.cell? ⟨g,h+k*8+5,none⟩=some (zI C):=c 5 (by decide);have c6:wr.cell? ⟨g,h+k*8+6,none⟩=some (.slice s r m):=c 6 (by decide);have c7:wr.cell? ⟨g,h+k*8+7,none⟩=some (.slice y u t):=c 7 (by decide);clear c;have b:=HC.o wr K.o d F D E A C s r m y u t;by_cases I:d=me
   ·have R:Hid (FoundIs l me (k:Int)):=HY.o I;rw[show (d==me)=true by simpa using I] at b;have H:Hid (zC 110 #[.agg #[zI d,zI F,zI D,zI E,zI A,zI C,.slice s r m,.slice y u t],.pointer (some ⟨B,0,none⟩)] wr λe w'=>e=.returned (.bool true)∧zB wr w'):=b;clear b I;go_wp2_with fail;refine H.o.mono ?_;rintro e w' ⟨rfl,f⟩;have G:Hid (zB w w'):=bel_step K.o f;clear f c0 c1 c2 X Y Z c6 c7;go_wp2_with fail;go_ret;exact⟨(k:Int),rfl,R.o,G.o⟩
   ·have R:Hid (∀j,j<k+1→(l.getD j cu0).me≠me):=U.o I;rw[show (d==me)=false by simpa using I] at b;have H:Hid (zC 110 #[.agg #[zI d,zI F,zI D,zI E,zI A,zI C,.slice s r m,.slice y u t],.pointer (some ⟨B,0,none⟩)] wr λe w'=>e=.returned (.bool false)∧zB wr w'):=b;clear b I;go_wp2_with fail;refine H.o.mono ?_;rintro e w' ⟨rfl,f⟩;have G:Hid (zB w w'):=bel_step K.o f;clear f c0 c1 c2 X Y Z c6 c7;go_wp2_with fail;go_roundw
    case rel=>exact⟨k+1,by omega,by go_num,R.o,G.o⟩
    case measure=>simp[intOf];omega
  ·obtain rfl:k=n:=by omega
   have S:Hid (FoundIs l me (-1)):=.inr ⟨λj J=>Q.o j (by rw[← W.o];exact J),rfl⟩;go_wp2_with fail;go_ret;exact⟨-1,rfl,S.o,K.o⟩
theorem pfind(w:World)(p:Option Addr)(n cap:Nat)(l:List Cu)(me:Int)(hr:RowC w p n l)(hn:n≤2000000):Calls Tryz.prog 73 #[.agg #[.slice p n cap],zI me] w λe w'=>FindPost w l me e w':=by
 have B:∀(fn:Fn)(first cap:Array Value)(w:World),(Instr.makeFunc fn first cap).run Tryz.prog w=.ok (.func fn first cap) w:=λ_ _ _ _=>rfl;obtain⟨c,j,g,i,b,-⟩:=sh2 w #[.slice p n cap] 65 #[zI me] 3;have u:Hid (RowC w p n l):=hr;have t:Hid (n≤2000000):=hn;clear hr hn;go_enter Tryz.func73,Tryz.ntmps73;go_upto_region 1 with fail
 rw[j.o];have c0:c.cell? ⟨w.heap.size,0,none⟩=some (.slice p n cap):=g.o.cell 0;have m:=index_cust (w.heap.size+1) n cap me p l c (i.o.cell 0) (u.o.below b.o) t.o;unfold findV at m;have s:Hid (zC 109 #[.slice p n cap,.func (.func 110) #[] #[.pointer (some ⟨w.heap.size+1,0,none⟩)]] c λe w'=>∃x,e=.returned (zI x)∧FoundIs l me x∧zB c w'):=m;clear m;go_wp2_with fail;refine s.o.mono ?_;rintro e w' ⟨x,rfl,d,q⟩;have a:Hid (zB w w'):=bel_step b.o q;clear q c0;by_cases r:x<0
 ·have f:Hid (FindIs l me 0 18):=by
   rcases d with⟨k,_,_,_,e⟩|⟨h,_⟩
   ·omega
   ·exact .inr ⟨h,rfl,rfl⟩
  clear d;go_wp2_with fail;go_ret2;exact⟨0,18,rfl,f.o,a.o⟩
 ·have f:Hid (FindIs l me x 0):=by
   rcases d with⟨k,y,z,A,e⟩|⟨h,e⟩
   ·exact .inl ⟨k,y,z,A,e,rfl⟩
   ·omega
  clear d;go_wp2_with fail;go_ret2;exact⟨x,0,rfl,f.o,a.o⟩
end book
namespace vnd
open disk (RepIs AppIs)
open book (Ev ev0 EMay evL evOf EncIs DecIs Cm cm0 So so0 BookIs Sees ECame FirstAt NoneAt)
open acc (Ac Tm Bi TCame ACame)
open cell (Wr RowU)
open Go.RowKit
def CusP(w:World)(bk:List Cm)(me:Int)(e:Ending)(w':World):Prop:=zB w w'∧((e=.returned (.tuple #[.agg #[zI 0,zI 0,zI 0,zI 0,zI 0,zI 0,zS,zS],zI 18])∧NoneAt bk me) ∨
 ∃ k dp dn dc sp sn sc,e = .returned (.tuple #[.agg #[zI (bk.getD k cm0).a.me,zI (bk.getD k cm0).a.rv,zI (bk.getD k cm0).a.nx,zI (bk.getD k cm0).a.mo,zI (bk.getD k cm0).a.bo,zI (bk.getD k cm0).a.fr,.slice dp dn dc,.slice sp sn sc],zI 0])∧FirstAt bk me k∧k<bk.length∧tar.Came w dp dn dc (bk.getD k cm0).a.ds∧book.RowS w sp sn (bk.getD k cm0).so)
theorem find_first{xs:List book.Cu}{bk:List Cm}{me x f:Int}(hl:xs.length=bk.length)(hn:∀i,i<xs.length→book.Nums (xs.getD i book.cu0) (bk.getD i cm0).a)(h:book.FindIs xs me x f):(f=18∧NoneAt bk me)∨(∃k:Nat,x=(k:Int)∧f=0∧FirstAt bk me k∧k<xs.length):=by
 rcases h with⟨k,b,e,d,g,l⟩|⟨b,e,d⟩
 ·refine .inr ⟨k,g,l,⟨by rw[← hl];exact b,by rw[← (hn k b).1];exact e,λj c=>by rw[← (hn j (by omega)).1];exact d j c⟩,b⟩
 ·exact .inl ⟨d,λj c=>by rw[← (hn j (by rw[hl];exact c)).1];exact b j (by rw[hl];exact c)⟩
theorem pcust(p2:Option Addr)(m2 c2:Nat)(xs:List book.Cu)(bk:List Cm)(a:Option Addr)(n cap:Nat)(q me:Int)(w:World)(h:Sees w p2 m2 xs bk)(hm:m2≤120):Calls Tryz.prog 37 #[.agg #[.slice p2 m2 c2,.slice a n cap,zI q],zI me] w λe w'=>CusP w bk me e w':=by
 have d:=zh h;clear h;obtain⟨W0,R,C,I,H,a1⟩:=sh2 w #[.slice p2 m2 c2,.slice a n cap,zI q] 93 #[zI 0,zI 0,zI 0,zI 0,zI 0,zI 0,zS,zS] 71;go_enter Tryz.func37,Tryz.ntmps37;go_upto_region 1 with fail
 rw[R.o];have N:=zh (book.pfind W0 p2 m2 c2 xs me (d.o.below H.o).row (by omega));have F:=zy0 C
 go_wp2_with (first
  |(refine zqw rfl rfl rfl C zqu93 ?_)
  |(refine zqw rfl rfl rfl I zqu71 ?_)
  | fail)
 refine N.o.mono ?_;rintro e z ⟨x,f,rfl,K,B⟩;obtain⟨s,A⟩:=zn2 B C I;have D:=shB H B;have a0:=B.size;clear B;clear F;have Y:=find_first d.o.len d.o.num K;clear K;rcases Y with⟨rfl,u⟩|⟨k,rfl,rfl,m,r⟩
 ·have Q:=zh u;clear u
  go_wp2_with (first
   |(refine zql rfl rfl rfl rfl zqu71 (by simp[Value.oneCell']) A rfl ?_)
   |(refine zqw rfl rfl rfl s zqu93 ?_)
   |(refine zqw rfl rfl rfl A zqu71 ?_)
   | fail)
  intro G t;have M:=zk1 t s;have E:=zk t D;have c:=zyb t;have L:=t.size;clear t;have S:Hid (G.cell? ⟨w.heap.size+1,3,none⟩=some (zI 0)):=c.o.cell 3;have T:Hid (G.cell? ⟨w.heap.size+1,4,none⟩=some (zI 0)):=c.o.cell 4;have U:Hid (G.cell? ⟨w.heap.size+1,5,none⟩=some (zI 0)):=c.o.cell 5;have V:Hid (G.cell? ⟨w.heap.size+1,6,none⟩=some (zS)):=c.o.cell 6;have W:Hid (G.cell? ⟨w.heap.size+1,7,none⟩=some (zS)):=c.o.cell 7;go_wp2_with fail;exact zr (.tuple #[.agg #[zI 0,zI 0,zI 0,zI 0,zI 0,zI 0,zS,zS],zI 18]) (by simp[results,Tryz.results37,zy0 c,zy1 c,zy2 c,S.o,T.o,U.o,V.o,W.o,go_sem]) ⟨E.o,.inl ⟨rfl,Q.o⟩⟩
 ·have O:Hid (FirstAt bk me k):=m;have p:Hid (Sees z p2 m2 xs bk):=d.o.below D.o;have P:Hid (k<bk.length):=by rw[← d.o.len];exact r
  have J:Hid (tar.Came w (xs.getD k book.cu0).dp (xs.getD k book.cu0).dn (xs.getD k book.cu0).dc (bk.getD k cm0).a.ds∧book.RowS w (xs.getD k book.cu0).sp (xs.getD k book.cu0).sn (bk.getD k cm0).so):=⟨d.o.ds k r,d.o.so k r⟩
  obtain⟨cb,co,hpp,hcl,hcc⟩:∃b off,p2=some ⟨b,off,none⟩∧b<z.heap.size∧∀i j,i<m2→j<8→z.cell? ⟨b,off+i*8+j,none⟩=(xs.getD i book.cu0).cs[j]?:=by
   rcases p.o.row.2 with h|h
   ·have:=p.o.row.1;omega
   ·exact h
  subst hpp;have g:k<m2:=by have:=p.o.row.1;omega
  have l:=p.o.num k r;have X:=p.o.ds k r;have y0:z.cell? ⟨cb,co+k*8,none⟩=some (zI (bk.getD k cm0).a.me):=(hcc k 0 g (by decide)).trans (by rw[← l.1];rfl);have y1:z.cell? ⟨cb,co+k*8+1,none⟩=some (zI (bk.getD k cm0).a.rv):=(hcc k 1 g (by decide)).trans (by rw[← l.2.1];rfl);have y2:z.cell? ⟨cb,co+k*8+2,none⟩=some (zI (bk.getD k cm0).a.nx):=(hcc k 2 g (by decide)).trans (by rw[← l.2.2.1];rfl);have y3:z.cell? ⟨cb,co+k*8+3,none⟩=some (zI (bk.getD k cm0).a.mo):=(hcc k 3 g (by decide)).trans (by rw[← l.2.2.2.1];rfl);have y4:z.cell? ⟨cb,co+k*8+4,none⟩=some (zI (bk.getD k cm0).a.bo):=(hcc k 4 g (by decide)).trans (by rw[← l.2.2.2.2.1];rfl);have y5:z.cell? ⟨cb,co+k*8+5,none⟩=some (zI (bk.getD k cm0).a.fr):=(hcc k 5 g (by decide)).trans (by rw[← l.2.2.2.2.2];rfl);have y6:z.cell? ⟨cb,co+k*8+6,none⟩=some (.slice (xs.getD k book.cu0).dp (xs.getD k book.cu0).dn (xs.getD k book.cu0).dc):=hcc k 6 g (by decide);have y7:z.cell? ⟨cb,co+k*8+7,none⟩=some (.slice (xs.getD k book.cu0).sp (xs.getD k book.cu0).sn (xs.getD k book.cu0).sc):=hcc k 7 g (by decide);clear hcc l;generalize (xs.getD k book.cu0).dp=dp at *;generalize (xs.getD k book.cu0).dn=dn at *;generalize (xs.getD k book.cu0).dc=dc at *;generalize hy:(bk.getD k cm0).a=y at *;have Z:Hid ((bk.getD k cm0).a=y):=hy;clear hy;generalize (xs.getD k book.cu0).sp=sp at *;generalize (xs.getD k book.cu0).sn=sn at *;generalize (xs.getD k book.cu0).sc=sc at *;clear X m r p d;have F:=zy0 s
  go_wp2_with (first
   |(refine zql rfl rfl rfl rfl zqu71 (by simp[Value.oneCell']) A rfl ?_)
   |(refine zqw rfl rfl rfl s zqu93 ?_)
   |(refine zqw rfl rfl rfl A zqu71 ?_)
   | fail)
  intro G t;have M:=zk1 t s;have E:=zk t D;have c:=zyb t;have L:=t.size;clear t;clear F;go_wp2_with fail;exact zr (.tuple #[.agg #[zI y.me,zI y.rv,zI y.nx,zI y.mo,zI y.bo,zI y.fr,.slice dp dn dc,.slice sp sn sc],zI 0]) (by simp[results,Tryz.results37,scl8 c,go_sem]) ⟨E.o,.inr ⟨k,dp,dn,dc,sp,sn,sc,by rw[Z.o],O.o,P.o,by rw[Z.o];exact J.o.1,J.o.2⟩⟩
theorem puntag(kd me mo dr:Int)(F:Value)(l:Bi)(b:Ac)(p:Option Addr)(ln cp:Nat)(cl am:Int)(w:World)(h:(kd=4∧cl=2∧am=b.rv)∨(kd≠4∧cl=0∧am=l.un)):Calls Tryz.prog 39 #[.agg #[zI kd,zI me,zI mo,zI dr,F],.agg #[zI l.id,zI l.te,zI l.de,zI l.fe,zI l.pr,zI l.ch,zI l.un],.agg #[zI b.me,zI b.rv,zI b.nx,zI b.mo,zI b.bo,zI b.fr,.slice p ln cp]] w λe w'=>e=.returned (.agg #[zI cl,zI l.id,zI am,zI 0])∧zB w w':=by
 obtain⟨D,u,f,c,g,z,m,C⟩:=sh4 w #[zI kd,zI me,zI mo,zI dr,F] 61 #[zI l.id,zI l.te,zI l.de,zI l.fe,zI l.pr,zI l.ch,zI l.un] 33 #[zI b.me,zI b.rv,zI b.nx,zI b.mo,zI b.bo,zI b.fr,.slice p ln cp] 55 #[zI 0,zI 0,zI 0,zI 0] 73;go_enter Tryz.func39,Tryz.ntmps39;go_upto_region 1 with fail
 rw[u.o];rcases h with⟨n,rfl,rfl⟩|⟨n,rfl,rfl⟩
 ·have B:(kd==4)=true:=by simpa using n
  clear n;have j:=zy0 f;have k:=zy0 c;have x:=zy1 g;go_wp2_with (first|refine zs ?_|refine zw ?_)
  intro A d;obtain⟨s,t,r⟩:=zk3 d f c g;have i:=zk d m;have a:=zyb d;have q:=d.size;clear d;clear j k x;go_wp2_with fail;exact zr (.agg #[zI 2,zI l.id,zI b.rv,zI 0]) (by simp[results,Tryz.results39,zy0 a,zy1 a,zy2 a,zy3 a,go_sem]) ⟨rfl,i.o⟩
 ·have B:(kd==4)=false:=by simpa using n
  clear n;have j:=zy0 f;have k:=zy0 c;have y:=zy6 c;go_wp2_with (first|refine zs ?_|refine zw ?_)
  intro A d;obtain⟨s,t,r⟩:=zk3 d f c g;have i:=zk d m;have a:=zyb d;have q:=d.size;clear d;clear j k y;go_wp2_with fail;exact zr (.agg #[zI 0,zI l.id,zI l.un,zI 0]) (by simp[results,Tryz.results39,scl4 a,go_sem]) ⟨rfl,i.o⟩
theorem pref(x:Int)(w:World):Calls Tryz.prog 36 #[zI x] w λe w'=>e=.returned (.tuple #[zS,.agg #[zS],.agg #[zI 0,zI 0,zI 0,zI 0,zI 0,zI 0,zI 0,zI 0,.string ⟨#[]⟩],zI x])∧zB w w':=by
 obtain⟨q,j,m,c,b,p⟩:=sh2 w #[zS] 28 #[zI 0,zI 0,zI 0,zI 0,zI 0,zI 0,zI 0,zI 0,.string ⟨#[]⟩] 35;go_enter Tryz.func36,Tryz.ntmps36;go_upto_region 1 with fail
 rw[j.o];go_wp2_with (first|refine zs ?_|refine zw ?_)
 intro r a;have f:=zyb a;have n:=zk1 a c;have d:=zk a b;have k:=a.size;clear a;go_wp2_with (first|refine zs ?_|refine zw ?_)
 intro s a;have h:=zk1 a f;have g:=zk a d;have i:=zyb a;have l:=a.size;clear a;go_wp2_with fail;exact zr (.tuple #[zS,.agg #[zS],.agg #[zI 0,zI 0,zI 0,zI 0,zI 0,zI 0,zI 0,zI 0,.string ⟨#[]⟩],zI x]) (by simp[results,Tryz.results36,zy0 h,scl9 i,go_sem]) ⟨rfl,g.o⟩
open disk (May repD lenAt appW)
open book (Tells billOf soldOf StepIs HapIs)
open acc (SellIs GrantIs RekeyIs OweIs)
open ora (Pr IssueIs)
open rcp (Rc rc0)
theorem sell_ev{a:Ac}{t:Tm}{te mo:Int}{b:Ac}{l:Bi}{me tg:Int}(h:SellIs a t te mo b l 0)(ha:a.me=me)(ht:0≤tg∧tg≤65535):EMay (tokE 2 me mo l tg)∧l.te=te:=by
 rcases h with⟨h,rfl,rfl⟩|⟨_,_,h,_⟩|⟨_,_,_,h,_⟩|⟨d,c,n,_,u,i,rfl,rfl⟩
 ·rcases h with⟨_,h⟩|⟨_,k,m⟩|⟨_,_,_,h⟩
  ·cases h
  ·exact absurd (m.ok.1 rfl) k
  ·exact absurd rfl h.ne
 ·cases h
 ·cases h
 ·obtain⟨⟨p,q⟩,⟨r,s⟩,x⟩:=acc.rest_bd d c.1.1 c.1.2;have g:=(acc.rolled_may d.1 d.2.2).2.2.2.2.2.1;have o:u≠0:=λe=>c.2.2 (by rw[← e];exact i);have f:1≤u:=by have:=i.1.1;omega
  obtain⟨c0,c1,c2,j⟩:=acc.most_cost d.2.1.1 g.1 i f;refine⟨⟨by rw[← ha];exact d.1.2.1,.inr (.inr ⟨⟨by show (2:Int)≤2;omega,by show (2:Int)≤4;omega⟩,⟨d.1.2.2.2.1.1,n⟩,ht,⟨rfl,rfl⟩,.inr ⟨by show (2:Int)≠4;omega,d.2.2.1,⟨f,j⟩,.inr ⟨by show (2:Int)≠3;omega,c.1,?_⟩⟩⟩)⟩,rfl⟩;show (0≤acc.paid a t te mo∧acc.paid a t te mo≤te)∧(0≤acc.fee t te∧acc.fee t te≤te)∧(0≤tar.cost t.ts (acc.rolled a mo).bo ((acc.rolled a mo).bo+u)∧tar.cost t.ts (acc.rolled a mo).bo ((acc.rolled a mo).bo+u)≤te)∧(0≤acc.rest a t te mo-tar.cost t.ts (acc.rolled a mo).bo ((acc.rolled a mo).bo+u)∧acc.rest a t te mo-tar.cost t.ts (acc.rolled a mo).bo ((acc.rolled a mo).bo+u)≤te)∧acc.paid a t te mo+acc.fee t te+tar.cost t.ts (acc.rolled a mo).bo ((acc.rolled a mo).bo+u)+(acc.rest a t te mo-tar.cost t.ts (acc.rolled a mo).bo ((acc.rolled a mo).bo+u))=te;generalize tar.cost t.ts (acc.rolled a mo).bo ((acc.rolled a mo).bo+u)=C at *;generalize acc.rest a t te mo=R at *;generalize acc.paid a t te mo=P at *;generalize acc.fee t te=F at *;omega
theorem kfm:KFm:=λk W a=>token.formatted_ok k W a
end vnd
namespace cell
open Go.RowKit
theorem word_of{z:Int}(h:(Lit.int .u32 z).wf=true):0≤z∧z<4294967296:=by
 simp only[Lit.wf,Bool.and_eq_true,decide_eq_true_eq] at h;rw[show IntKind.u32.min=0 from by decide,show IntKind.u32.max=4294967295 from by decide] at h;omega
end cell
end Go.Proofs.YtoepgdhiepedeaaGreatDoor
