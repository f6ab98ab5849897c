import Derived.Test.YtoepgdhiepedeaaGreatDoorVVGts33
import Derived.Test.YtoepgdhiepedeaaGreatDoorVVGts36
import Derived.Test.YtoepgdhiepedeaaGreatDoorVVGts37
import Derived.Test.YtoepgdhiepedeaaGreatDoorVVGts38
set_option linter.unusedVariables false
set_option linter.unusedSimpArgs false
set_option maxHeartbeats 4000000
set_option maxRecDepth 100000
namespace Go.Proofs.YtoepgdhiepedeaaGreatDoor
namespace vnd
open disk (RepIs AppIs RepPost AppPost Lr Recs Sli sl0)
open book (Ev ev0 EMay evL evOf EncIs DecIs Cm cm0 So so0 BookIs BookPost Sees ECame RowE FirstAt NoneAt Tells EncPost DecPost)
open acc (Ac Tm Bi SellIs GrantIs RekeyIs OweIs)
open cell (Wr RowU RowW Lw Ws)
open Go.RowKit
theorem keep_few{c:List Int}{v:Ev}{ls:List Wr}{f:Int}(h:KeepIs c v ls f):ls.length≤66:=by
 obtain⟨l,e,_,⟨_,rfl,_⟩|⟨_,a,g,_,⟨_,rfl,_⟩|⟨_,q⟩⟩⟩:=h
 ·simp
 ·simp
 ·exact disk.app_few q
open ora (Pr IssueIs)
open rcp (Rc rc0)
open token (Tok fmtL)
def TokPost(w:World)(R:List Wr→List Pr→Rc→Int→Prop)(e:Ending)(w':World):Prop:=∃V ls p5 n5 c5 o' r f,e=.returned (.tuple #[V,.agg #[.slice p5 n5 c5],rcp.Rc.v r,zI f])∧R ls o' r f∧Lw w' w.heap.size V ls∧ora.RowP w' p5 n5 o'∧(p5=none→c5=0)∧n5≤c5∧(∀y,p5=some y→w.heap.size≤y.block)∧zB w w'
theorem lw_upd{w W:World}{g base:Nat}{cs:Array Value}{T:TypeId}{v:Value}{l:List Wr}(h:Lw w base v l)(hU:Upd w W g cs T)(hg:g<base):Lw W base v l:=by
 refine⟨h.1,?_⟩;rcases h.2 with d|⟨q,a,b,f,e,c,rest⟩
 ·exact .inl d
 ·exact .inr ⟨q,a,b,f,e,hU.keep c (by omega),rest⟩
theorem cell_lw_next{w w':World}{base:Nat}{v:Value}{l:List Wr}(h:Lw w base v l)(hb:zB w w'):Lw w' base v l:=by
 refine⟨h.1,?_⟩;rcases h.2 with e|⟨g,a,b,f,d,c,rest⟩
 ·exact .inl e
 ·exact .inr ⟨g,a,b,f,d,Blk.next c hb,rest⟩
theorem rloaded(t:Tm)(pt:Option Addr)(lt ct:Nat)(a:Option Addr)(n cap:Nat)(c:List Int)(w:World)(ht:tar.Came w pt lt ct t.ts)(h:RowU w a n c)(hw:∀x∈c,0≤x∧x<4294967296):Calls Tryz.prog 20 #[.agg #[.slice pt lt ct,zI t.ff,zI t.fb,zI t.db,zI t.al],.slice a n cap] w λe w'=>LoadPost w t c e w':=by
 have HC:Hid (∀W,zB w W→RowU W a n c):=λW Y=>h.below Y;have HT:Hid (∀W,zB w W→tar.Came W pt lt ct t.ts):=λW Y=>ht.below Y;have HW:=zh hw;clear h ht hw;obtain⟨U,r,G,F,s,a5⟩:=sh2 w #[.slice pt lt ct,zI t.ff,zI t.fb,zI t.db,zI t.al] 24 #[zS] 65;go_enter Tryz.func20,Tryz.ntmps20;go_upto_region 1 with fail
 rw[r.o];have Q:Hid (zC 42 #[.slice a n cap] U λe w'=>KeptPost U c e w'):=rkept a n cap c U (HC.o _ s.o) HW.o;go_wp2_with refine zw ?_;refine Q.o.mono ?_;rintro e w1 ⟨p,m,cp,l,f,rfl,hk,B,hm,g⟩;obtain⟨u,H⟩:=zn2 g G F;have d:=shB s g;have a1:=g.size;clear g;have z:=zh hk;have P:=zh B;clear hk B;by_cases E:f=0
 ·subst E;have O:Hid (zC 43 #[.agg #[.slice pt lt ct,zI t.ff,zI t.fb,zI t.db,zI t.al],.slice p m cp] w1 λe w'=>BookPost w1 t l e w'):=book.rbook t pt lt ct p m cp l w1 (HT.o _ d.o).row (HT.o _ d.o).most P.o.row (by omega);go_wp2_with refine zw ?_;refine O.o.mono ?_;rintro e w2 ⟨p2,m2,c2,xs,bk,V,X,rfl,A,D,Z,i⟩;obtain⟨y,k⟩:=zn2 i u H;have j:=shB d i;have a2:=i.size;clear i;have T:Hid (LoadIs t c bk X):=⟨l,0,z.o,.inr ⟨rfl,V,A⟩⟩
  obtain⟨W3,r,J,q,C⟩:=sh1 w2 #[.slice p2 m2 c2] 65;have R:=zh (D.below q.o);clear A D;obtain⟨L,K⟩:=zn2 q.o y k;have I:=shB j q.o;go_upto_region 5 with fail
  rw[r.o];go_wp2_with (first|refine zs ?_|refine zw ?_)
  intro W4 b;have S:=zh (sees_one R.o K.o b);obtain⟨a4,a3⟩:=zk2 b L J;have M:=zk b I;have N:=zyb b;have a0:=b.size;clear b;go_wp2_with fail;exact zr (.tuple #[.agg #[.slice p2 m2 c2],zI X]) (by simp[results,Tryz.results20,zy0 N,go_sem]) ⟨p2,m2,c2,xs,bk,X,rfl,T.o,S.o,Z,M.o⟩
 ·have d0:(f != 0)=true:=by simpa using E
  have T:Hid (LoadIs t c [] f):=⟨l,f,z.o,.inl ⟨E,rfl,rfl⟩⟩
  clear E;go_wp2_with (first|refine zs ?_|refine zw ?_)
  intro W3 b;have y:=zk1 b u;have j:=zk b d;have k:=zyb b;have C:=b.size;clear b;go_wp2_with fail;exact zr (.tuple #[.agg #[zS],zI f]) (by simp[results,Tryz.results20,zy0 k,go_sem]) ⟨none,0,0,[],[],f,rfl,T.o,book.sees_nil _,Nat.zero_le _,j.o⟩
theorem rkeeps(a:Option Addr)(n cap:Nat)(c:List Int)(v:Ev)(w:World)(h:RowU w a n c)(hw:∀x∈c,0≤x∧x<4294967296):Calls Tryz.prog 27 #[.slice a n cap,.agg #[zI v.kd,zI v.me,zI v.mo,zI v.id,zI v.te,zI v.de,zI v.fe,zI v.pr,zI v.ch,zI v.un,zI v.tg,zI v.ow,zI v.bp]] w λe w'=>WrPost w (KeepIs c v) e w':=by
 have T:Hid (∀W,zB w W→RowU W a n c):=λW hW=>h.below hW;have U:=zh hw;clear h hw;obtain⟨P,O,H,s,a4⟩:=sh1 w #[zI v.kd,zI v.me,zI v.mo,zI v.id,zI v.te,zI v.de,zI v.fe,zI v.pr,zI v.ch,zI v.un,zI v.tg,zI v.ow,zI v.bp] 44;go_enter Tryz.func27,Tryz.ntmps27;go_upto_region 1 with fail
 rw[O.o];have N:Hid (zC 42 #[.slice a n cap] P λe w'=>KeptPost P c e w'):=rkept a n cap c P (T.o _ s.o) U.o;go_wp2_with refine zw ?_;refine N.o.mono ?_;rintro e w1 ⟨p,m,cp,l,f,rfl,hk,A,hm,b⟩;have I:=shN H b;have t:=shB s b;have a0:=b.size;clear b;have k:=zh hk;have q:=zh A.row.1;clear hk A;by_cases F:m<120
 ·have d1:decide (120≤(m:Int))=false:=decide_eq_false (by omega);have Q:decide (120≤m)=false:=decide_eq_false (by omega);have M:=zh (book.rencoded v w1);go_wp2_with refine zw ?_;refine M.o.mono ?_;rintro e S ⟨V,r,g,rfl,B,E,d⟩;have J:=shN I d;have j:=shB t d;have a1:=d.size;clear d;have u:=zh B;clear B;by_cases G:g=0
  ·subst G;obtain⟨pw,Y,rfl,D⟩:=E.row;have L:Hid (zC 58 #[.slice a n cap,.slice pw r.length Y] S λe w'=>AppPost S c r e w'):=disk.appended a n cap c pw r.length Y r S (T.o _ j.o) U.o D.1;clear D E;go_wp2_with refine zw ?_;refine L.o.mono ?_;rintro e w3 ⟨X,R,Z,rfl,C,z,i⟩;have a3:=shN J i;have K:=shB j i;have a2:=i.size;clear i;have y:Hid (KeepIs c v R Z):=⟨l,f,k.o,.inr ⟨by rw[q.o];exact F,r,0,u.o,.inr ⟨rfl,z⟩⟩⟩
   have HL:Hid (Lw w3 w.heap.size X R):=lw_low C (by omega);clear C z;go_wp2_with fail;go_ret2;exact⟨X,R,Z,rfl,y.o,HL.o,K.o⟩
  ·have d2:(g != 0)=true:=by simpa using G
   have y:Hid (KeepIs c v [] g):=⟨l,f,k.o,.inr ⟨by rw[q.o];exact F,r,g,u.o,.inl ⟨G,rfl,rfl⟩⟩⟩
   clear G;go_wp2_with fail;go_ret2;exact⟨_,[],g,rfl,y.o,cell.Lw.zero _ _,j.o⟩
 ·have d1:decide (120≤(m:Int))=true:=decide_eq_true (by omega);have Q:decide (120≤m)=true:=decide_eq_true (by omega);have y:Hid (KeepIs c v [] 16):=⟨l,f,k.o,.inl ⟨by rw[q.o];exact F,rfl,rfl⟩⟩
  clear F;go_wp2_with fail;go_ret2;exact⟨_,[],16,rfl,y.o,cell.Lw.zero _ _,t.o⟩
end vnd
namespace cell
open Go.RowKit
theorem words_law(a b:Option Addr)(n c1 c2:Nat)(zs:List Int)(w:World)(h1:RowU w a n zs)(h2:RowU w b n zs)(hn:n≤maxLen):
  Calls Tryz.prog 13 #[.slice a n c1,.slice b n c2] w λe w'=>e=.returned (.bool true)∧zB w w':=by
 have t:((n:Int) != (n:Int))=false:=by simp
 unfold maxLen at hn;go_enter Tryz.func13,Tryz.ntmps13;go_wp2_with fail;go_loopw [5] (λi wr=>∃k:Nat,k≤n∧i=zI k∧zB w wr) (λi _=>n-(intOf i).toNat)
 case atStart=>exact⟨0,Nat.zero_le _,rfl,zb⟩
 case round=>
  obtain⟨k,u,rfl,g⟩:=hrel;by_cases f:k<n
  ·obtain⟨h,o,rfl,l,c⟩:=h1.at (by omega);obtain⟨j,q,rfl,m,d⟩:=h2.at (by omega);have r:wr.cell? ⟨h,o+k,none⟩=some (.int .u32 (zs.getD k 0)):=(g.cell (p:=⟨h,o+k,none⟩) l).trans (c k f);have s:wr.cell? ⟨j,q+k,none⟩=some (.int .u32 (zs.getD k 0)):=(g.cell (p:=⟨j,q+k,none⟩) m).trans (d k f);clear c d h1 h2 l m;generalize zs.getD k 0=z at r s;have x:(z != z)=false:=by simp
   go_wp2_with fail;go_region
   all_goals go_wp2_with fail
   go_roundw
   case rel=>exact⟨k+1,by omega,by go_num,g.drew⟩
   case measure=>simp[intOf];omega
  ·go_wp2_with fail;go_ret;exact⟨rfl,g⟩
theorem eqI(d:Nat)(a b:Int)(w:World):(Op.equalIn (d+1) 3 (zI a) (zI b)).run Tryz.prog w=.ok (a==b) w:=run_equalIn_int w d _ _ _ a b Tryz.underlying3
theorem eqU(d:Nat)(a b:Int)(w:World):(Op.equalIn (d+1) 83 (.int .u32 a) (.int .u32 b)).run Tryz.prog w=.ok (a==b) w:=run_equalIn_int w d _ _ _ a b Tryz.underlying83
theorem wt0(s c:Int)(w:World):(part 3 #[zI s,.int .u32 c] 0).run Tryz.prog w=.ok (zI s) w:=by kernel_rfl
theorem wt1(s c:Int)(w:World):(part 83 #[zI s,.int .u32 c] 1).run Tryz.prog w=.ok (.int .u32 c) w:=by kernel_rfl
theorem eqW(s t b c:Int)(w:World):
  (Op.equalIn 10000 85 (.agg #[zI s,.int .u32 b]) (.agg #[zI t,.int .u32 c])).run Tryz.prog w=.ok (s==t&&b==c) w:=by
 rw[show (10000:Nat)=9999+1 from rfl,run_equalIn_agg w 9999 85 _ _ (by kernel_rfl) (by kernel_rfl)];simp only[Program.fieldsOf,Tryz.underlying85,Op.eqFields,Sem.run_bind,Sem.run_ite];by_cases a:(s==t)=true<;>by_cases d:(b==c)=true<;>simp[wt0,wt1,show (9999:Nat)=9998+1 from rfl,eqI,eqU,a,d]
theorem writes_law(a b:Option Addr)(n c1 c2:Nat)(zs:List Wr)(w:World)(h1:RowW w a n zs)(h2:RowW w b n zs)(hn:n≤maxLen):
  Calls Tryz.prog 11 #[.slice a n c1,.slice b n c2] w λe w'=>e=.returned (.bool true)∧zB w w':=by
 have x:((n:Int) != (n:Int))=false:=by simp
 unfold maxLen at hn;go_enter Tryz.func11,Tryz.ntmps11;go_wp2_with fail;go_loopw [5] (λi wr=>∃k:Nat,k≤n∧i=zI k∧zB w wr) (λi _=>n-(intOf i).toNat)
 case atStart=>exact⟨0,Nat.zero_le _,rfl,zb⟩
 case round=>
  obtain⟨k,C,rfl,f⟩:=hrel;by_cases c:k<n
  ·obtain⟨j,m,rfl,r,g⟩:=h1.at (by omega);obtain⟨l,q,rfl,s,h⟩:=h2.at (by omega);have y:wr.cell? ⟨j,m+k*2,none⟩=some (zI (zs.getD k wr0).p):=(f.cell (p:=⟨j,m+k*2,none⟩) r).trans (g k c).1;have z:wr.cell? ⟨j,m+k*2+1,none⟩=some (.int .u32 (zs.getD k wr0).d):=(f.cell (p:=⟨j,m+k*2+1,none⟩) r).trans (g k c).2;have A:wr.cell? ⟨l,q+k*2,none⟩=some (zI (zs.getD k wr0).p):=(f.cell (p:=⟨l,q+k*2,none⟩) s).trans (h k c).1;have B:wr.cell? ⟨l,q+k*2+1,none⟩=some (.int .u32 (zs.getD k wr0).d):=(f.cell (p:=⟨l,q+k*2+1,none⟩) s).trans (h k c).2;have D:∀t:World,(Op.equalIn 10000 85 (.agg #[zI (zs.getD k wr0).p,.int .u32 (zs.getD k wr0).d]) (.agg #[zI (zs.getD k wr0).p,.int .u32 (zs.getD k wr0).d])).run Tryz.prog t=.ok true t:=λt=>by rw[eqW];simp
   have u:Hid (zB w wr):=f;clear g h h1 h2 r s f;generalize (zs.getD k wr0).p=p at *;generalize (zs.getD k wr0).d=d at *;go_wp2_with fail;go_region
   all_goals go_wp2_with fail
   go_roundw
   case rel=>exact⟨k+1,by omega,by go_num,u.o.drew⟩
   case measure=>simp[intOf];omega
  ·go_wp2_with fail;go_ret;exact⟨rfl,f⟩
end cell
namespace token
open words
open Go.RowKit
theorem body_ok(k:Tok)(w:World)(ht:TTab w)(hk:k.ok):
  Calls Tryz.prog 74 #[k.v] w λe w'=>e=.returned (.tuple #[zI (k.body:Int),zI 0])∧zB w w':=by
 have s:Hid (∀W,TTab W→zC 111 #[.agg #[zI (k.c:Int),zI (k.i:Int),zI (k.a:Int),zI (k.t:Int)]] W λe w'=>e=.returned (zI 0)∧zB W w'):=λW d=>by
  have:=flaw_any k.c k.i k.a k.t W d
  rwa [flaw_tok.2 hk] at this
 have A:Hid (∀W,TTab W→zC 113 #[.agg #[zI (k.c:Int),zI (k.i:Int),zI (k.a:Int),zI (k.t:Int)]] W λe w'=>PackPost W k e w'):=λW d=>pack_any k W hk d
 have B:Hid (∀(x y z:Nat) W,WN x y z k.num→zC 112 #[.agg #[.int .u32 (x:Int),.int .u32 (y:Int),.int .u32 (z:Int)],zI 16,zI 43] W λe w'=>e=.returned (.tuple #[.int .u64 (k.body:Int),zI 0])∧zB W w'):=λx y z W d=>by
  have:=bits_wn x y z 16 43 k.num W d (by omega) (by omega) (by omega)
  rwa [show k.num/2^16%2^43=k.body from body_num hk] at this
 have D:IntKind.i64.wrap (k.body:Int)=(k.body:Int):=wrap_i _ (by have:=body_bd hk;omega);have q:Hid (TTab (w.alloc (.cells #[zI (k.c:Int),zI (k.i:Int),zI (k.a:Int),zI (k.t:Int)] 73))):=ht.below (bel_box _ _);have r:Hid (zB w (w.alloc (.cells #[zI (k.c:Int),zI (k.i:Int),zI (k.a:Int),zI (k.t:Int)] 73))):=bel_box _ _;have C:Hid (Blk (w.alloc (.cells #[zI (k.c:Int),zI (k.i:Int),zI (k.a:Int),zI (k.t:Int)] 73)) w.heap.size #[zI (k.c:Int),zI (k.i:Int),zI (k.a:Int),zI (k.t:Int)] 73):=Blk.new _ _ _;clear ht hk;unfold Tok.v;generalize (k.body:Int)=bd at *;go_enter Tryz.func74,Tryz.ntmps74;go_wp2_with fail;refine(s.o _ q.o).mono ?_;rintro e E ⟨rfl,b⟩;have l:=shB r b;have p:Hid (TTab E):=q.o.below b;have f:=C.o.next b;have F:=f.cell 0;have G:=f.cell 1;have H:=f.cell 2;have I:=f.cell 3;clear b f;go_wp2_with fail;refine(A.o _ p.o).mono ?_;rintro e J ⟨x,y,z,rfl,j,g⟩;have m:=shB l g;have u:Hid (WN x y z k.num):=j;clear g j F G H I;go_wp2_with fail;refine(B.o _ _ _ _ u.o).mono ?_;rintro e K ⟨rfl,h⟩;have n:=shB m h;clear h;go_wp2_with fail;refine bodyPost_ret (v:=.tuple #[zI bd,zI 0]) (by simp[results,Tryz.results74,go_sem]) rfl ⟨rfl,n.o⟩
end token
namespace vnd
open disk (RepIs AppIs)
open book (Ev ev0 EMay evL evOf EncIs DecIs Cm cm0 So so0 BookIs Sees ECame FirstAt NoneAt Tells)
open acc (Ac Tm Bi TCame ACame SellIs GrantIs RekeyIs)
open ora (Pr IssueIs)
open token (Tok TTab fmtL)
open rcp (Rc rc0)
open cell (Wr RowU RowW)
open Go.RowKit
def BGot(w:World)(R:Ac→Bi→Int→Prop)(e:Ending)(w':World):Prop:=∃b l p len cap f,e=.returned (.tuple #[acc.Ac.v b p len cap,acc.Bi.v l,zI f])∧R b l f∧zB w w'
def TagP(w:World)(o:List Pr)(me rv bd dr cl id am:Int)(e:Ending)(w':World):Prop:=∃p5 n5 c5 o2 tg f,e=.returned (.tuple #[.agg #[.slice p5 n5 c5],.agg #[zI cl,zI id,zI am,zI tg],zI f])∧IssueIs o me rv bd dr o2 tg f∧ora.RowP w' p5 n5 o2∧(p5=none→c5=0)∧n5≤c5∧(∀x,p5=some x→w.heap.size≤x.block)∧zB w w'
theorem ptagged(ao:Option Addr)(no ko:Nat)(o:List Pr)(y:Ac)(dp:Option Addr)(dn dc:Nat)(cl id am dr:Int)(K:Tok)(w:World)(ht:TTab w)(hk:K.ok)(hv:K.v=.agg #[zI cl,zI id,zI am,zI 0])(ho:ora.RowP w ao no o):Calls Tryz.prog 38 #[.agg #[.slice ao no ko],.agg #[zI y.me,zI y.rv,zI y.nx,zI y.mo,zI y.bo,zI y.fr,.slice dp dn dc],.agg #[zI cl,zI id,zI am,zI 0],zI dr] w λe w'=>TagP w o y.me y.rv (K.body:Int) dr cl id am e w':=by
 have HO:Hid (∀W,zB w W→ora.RowP W ao no o):=λW hW=>ho.below hW
 have au:Hid (∀W,zB w W→zC 74 #[.agg #[zI cl,zI id,zI am,zI 0]] W λe w'=>e=.returned (.tuple #[zI (K.body:Int),zI 0])∧zB W w'):=λW hW=>by
  have hh:=token.body_ok K W (ht.below hW) hk;rw[hv] at hh;exact hh
 clear ht hk hv ho;generalize (K.body:Int)=bd at *;obtain⟨W0,m,P,N,O,R,Q,q,aJ⟩:=sh5 w #[.slice ao no ko] 28 #[zI y.me,zI y.rv,zI y.nx,zI y.mo,zI y.bo,zI y.fr,.slice dp dn dc] 55 #[zI cl,zI id,zI am,zI 0] 73 #[zS] 28 #[zI 0,zI 0,zI 0,zI 0] 73;go_enter Tryz.func38,Tryz.ntmps38;go_upto_region 1 with fail
 rw[m.o];have ar:=au.o W0 q.o;go_wp2_with refine zw ?_;refine ar.mono ?_;rintro e w1 ⟨rfl,f⟩;obtain⟨U,k,T,X,V⟩:=zn5 f P N O R Q;have r:=shB q f;have aD:=f.size;clear f;have aw:Hid (zC 75 #[.agg #[.slice ao no ko],zI y.me,zI y.rv,zI bd,zI dr] w1 λe w'=>ora.IssueQ w1 o y.me y.rv bd dr e w'):=ora.poi ao no ko o y.me y.rv bd dr w1 (HO.o _ r.o);have az:=zy0 k;have aA:=zy1 k;go_wp2_with refine zw ?_;clear az aA;refine aw.o.mono ?_;rintro e L ⟨v5,p,J,M,rfl,H,j,g⟩;obtain⟨a1,Z,a0,a3,a2⟩:=zn5 g U k T X V;have Y:=shB r g;have aE:=g.size;clear g;obtain⟨c,i,rfl,I,F,E,G⟩:=H.lies;have av:=zh j;have ax:=zh I;have A:Hid ((c=none→i=0)∧p.length≤i):=⟨F,E⟩
 have d:=zh G;clear I F E G j H;generalize p.length=h at *;have aF:Hid (zB L L):=zb;obtain⟨W3,m,a6,l,aB⟩:=sh1 L #[.slice c h i] 28;obtain⟨a7,a5,aG,a9,a8⟩:=zn5 l.o a1 Z a0 a3 a2;have a4:=shB Y l.o;go_upto_region 3 with fail
 rw[m.o];go_wp2_with refine zl ?_;intro W4 a;have ay:Hid (ora.RowP W4 c h p):=rowP_off (ax.o.below l.o) (λx n=>by have:=d.o x n;omega) a;obtain⟨ac,ab,ae,ad,t⟩:=zk5 a a7 a5 a9 a8 a6;have aa:=zk a a4;have s:=zyb a;have aC:=a.size;clear a;go_wp2_with fail;refine wp_region_held_drew (S:=λv=>Blk v (L.heap.size) #[.slice c h i] 28∧Blk v (w.heap.size+1+1) #[zI cl,zI id,zI am,zI J] 73) (by kernel_rfl) ⟨Blk.drew t.o 1,Blk.drew s.o 1⟩ (λb=>?_);refine zu' 0 (.agg #[.slice c h i]) rfl rfl (Or.inl ⟨by rfl,λv hv=>by have g0:=hv.1.cell 0;clear hv;go_simp⟩) ?_;refine zu' 1 (.agg #[zI cl,zI id,zI am,zI J]) rfl rfl (Or.inl ⟨by rfl,λv hv=>by have g0:=hv.2.cell 0;have g1:=hv.2.cell 1;have g2:=hv.2.cell 2;have g3:=hv.2.cell 3;clear hv;go_simp⟩) ?_;refine zt' 2 (zI M) ?_;refine zo 3 λK D=>?_;rw[if_pos (by rfl)];refine wp_letOp 28 _ _ rfl (w.heap.size+1+1+1) rfl #[.slice c h i] rfl (by kernel_rfl) (by simp[Value.oneCell']) #[zS] 28 (Blk.drew ae.o 1) rfl rfl ?_;intro V1 a;have ah:=zh (a.keep (Blk.drew ac.o 1) (by omega));have ag:=zh (a.keep (Blk.drew ab.o 1) (by omega));have u:=zh (a.keep (Blk.drew s.o 1) (by omega));have aj:=zyb a;have ai:=zh (a.keep (Blk.drew ad.o 1) (by omega));have z:=zh (a.keep (Blk.drew t.o 1) (by omega));have B:Hid (ora.RowP V1 c h p):=rowP_off (ay.o.below (bel_drew zb 1)) (λx n=>by have:=d.o x n;omega) a;have af:Hid (zB w V1):=a.bel _ _ (by omega) aa.o.drew;clear a;refine D.o _ _ ⟨z.o,u.o⟩ (λb=>?_);clear D K;refine zo 4 λK D=>?_;rw[if_pos (by rfl)];refine wp_letOp 73 _ _ rfl (w.heap.size+1+1+1+1) rfl #[zI cl,zI id,zI am,zI J] rfl (by kernel_rfl) (by simp[Value.oneCell']) #[zI 0,zI 0,zI 0,zI 0] 73 ai.o rfl rfl ?_;intro V2 a;obtain⟨aI,aH,al,aq,an⟩:=zk5 a ah ag u aj z
 have ap:=zyb a;have C:Hid (ora.RowP V2 c h p):=rowP_off B.o (λx n=>by have:=d.o x n;omega) a;have ak:=zk a af;clear a;refine D.o _ _ ⟨an.o,al.o⟩ (λb=>?_);clear D K;refine zt' 5 (zI M) ?_;refine wpAnyH_done (by kernel_rfl) ?_ _;clear b;go_wp2_with fail;exact zr (.tuple #[.agg #[.slice c h i],.agg #[zI cl,zI id,zI am,zI J],zI M]) (by simp[results,Tryz.results38,zy0 aq,scl4 ap,go_sem]) ⟨c,h,i,p,J,M,rfl,av.o,C.o,A.o.1,A.o.2,(λx n=>by have:=d.o x n;omega),ak.o⟩
end vnd
namespace disk
open Go.RowKit cell
def JR(w:World)(c:List Int)(k:Nat)(W:World):Prop:=∃V sl,Box w w.heap.size V sl (itD c k).1 W
theorem kreplay:KReplay:=by
 intro w a n l c h q d D L;have N:JR w c 0 (w.alloc (.cells #[zS] 140)):=⟨zS,[],Blk.new _ _ _,Lr.zero _ _ _,Recs.nil _ _,(λi y=>by cases y),zb.alloc zc _⟩
 have O:Hid (zC 121 #[.slice a n l,.func (.func 148) #[] #[.pointer (some ⟨w.heap.size,0,none⟩)]] (w.alloc (.cells #[zS] 140)) λe M=>EPost (JR w c) c e M):=by
  refine each_any 148 #[.pointer (some ⟨w.heap.size,0,none⟩)] (JR w c) a n l c _ (λk W F=>?_) N d L (λ_ _=>by kernel_rfl) ?_
  ·obtain⟨V,z,j⟩:=F;exact h.below j.bel
  ·intro k p m b o W F hp E U Q R h3;obtain⟨V,z,j⟩:=F;have X:z.length≤1000000:=by have:=j.recs.1;have:=it_count c k;omega
   refine(put_record w w.heap.size V z _ (recAt c p) b o m W j U Q R X).mono ?_;rintro e M ⟨rfl,P,I,C⟩;refine⟨rfl,P,I,?_⟩;rw[E];exact C
 clear h q d D L;go_enter Tryz.func104,Tryz.ntmps104;go_wp2_with fail;refine O.o.mono ?_;rintro e w1 ⟨x,f,k,rfl,⟨V,z,j⟩,y⟩;have t:=zh j;have K:=zh y;clear j y;by_cases hf:f=0
 ·have u:Hid (RepIs c (itD c k).1 x 0):=by
   rcases K.o with⟨_,_,e⟩|⟨_,_,_,e⟩|⟨s,H,Y,Z,_⟩
   ·rw[hf] at e;exact absurd e (by decide)
   ·rw[hf] at e;exact absurd e (by decide)
   ·exact .inr (.inr ⟨s,H,by rw[Y],Z,rfl⟩)
  have q0:=t.o.blk.cell 0;obtain⟨va,vc,S,r⟩:=t.o.reads;have B:=zh r;have g:=zh t.o.bel;subst hf;subst S;clear r;generalize (itD c k).1=J at *;have A:Hid (J.length≤100000):=Nat.le_trans (rep_few u.o).1 (by decide);generalize G:J.length=zl at *;clear G;go_wp2_with fail;go_ret3;exact⟨va,_,vc,J,x,0,rfl,B.o,A.o,u.o,g.o⟩
 ·have u:Hid (RepIs c [] 0 f):=by
   rcases K.o with⟨s,_,e⟩|⟨s,H,_,e⟩|⟨_,_,_,_,e⟩
   ·exact .inl ⟨s,rfl,rfl,e⟩
   ·exact .inr (.inl ⟨s,H,rfl,rfl,e⟩)
   ·exact absurd e hf
  have g:=zh t.o.bel;have T:(f != 0)=true:=by simpa using hf
  clear hf;go_wp2_with fail;go_ret3;exact⟨none,0,0,[],0,f,rfl,⟨rfl,.inl rfl⟩,Nat.zero_le _,u.o,g.o⟩
end disk
namespace vnd
open disk (RepIs AppIs May repD lenAt appW)
open book (Ev ev0 EMay evL evOf EncIs DecIs Cm cm0 So so0 BookIs FirstAt NoneAt Tells billOf soldOf StepIs HapIs)
open acc (Ac Tm Bi SellIs GrantIs RekeyIs OweIs)
open ora (Pr IssueIs)
open cell (Wr)
theorem book_ok{t:Tm}{l:List Ev}{bk:List Cm}{a:Int}(h:BookIs t l bk a 0):acc.TRight t∧l.length≤120∧a=0∧∃st:Nat→List Cm,st 0=[]∧(∀i,i<l.length→StepIs t (st i) (l.getD i ev0) (st (i+1)) 0)∧bk=st l.length:=by
 rcases h with⟨_,p,_⟩|⟨_,_,_,_,p⟩|⟨p,q,k,st,c,d,⟨rfl,b,e,_⟩|⟨_,_,b,_⟩⟩
 ·exact absurd rfl p
 ·cases p
 ·exact⟨p,q,e,st,c,d,b⟩
 ·exact absurd rfl b
variable{bk:List Cm}{t:Tm}
theorem step_wf{bk bk':List Cm}{v:Ev}(h:book.StepIs t bk v bk' 0)(hw:book.AWf bk):book.AWf bk':=by
 rcases h with⟨_,e⟩|⟨_,_,_,e⟩|⟨m,_,_,_,rfl⟩|⟨_,_,_,e⟩|⟨m,_,k,c,_,a,b⟩
 ·cases e
 ·cases e
 ·exact hw.snoc ⟨(book.wf_may m).2.1,rfl,rfl,rfl,rfl,rfl⟩
 ·cases e
 ·rw[b rfl];exact hw.set (book.hap_wf a m).1
theorem book_wf{l:List Ev}{a:Int}(h:BookIs t l bk a 0):book.AWf bk:=by
 obtain⟨_,_,_,f,d,e,rfl⟩:=book_ok h
 have:∀i,i≤l.length→book.AWf (f i):=by
  intro i
  induction i with
  |zero=>intro _ c b;rw[d] at b;cases b
  |succ i ih=>intro g;exact step_wf (e i (by omega)) (ih (by omega))
 exact this _ zc
theorem load_wf{c:List Int}(h:LoadIs t c bk 0):book.AWf bk:=by
 obtain⟨l,e,_,⟨p,_,q⟩|⟨_,a,q⟩⟩:=h
 ·exact absurd q.symm p
 ·exact book_wf q
theorem book_no{l:List Ev}{a f:Int}(h:BookIs t l bk a f)(hf:f≠0):bk=[]:=by
 rcases h with⟨_,_,p,_⟩|⟨_,_,p,_⟩|⟨_,_,k,b,_,_,⟨_,_,_,p⟩|⟨_,_,_,p,_⟩⟩
 ·exact p
 ·exact p
 ·exact absurd p hf
 ·exact p
end vnd
namespace book
open Go.RowKit cell
theorem ws_upd{w W:World}{base g:Nat}{cs:Array Value}{t:TypeId}{v:Value}{l:List Int}(h:Ws w base v l)(hU:Upd w W g cs t)(hg:g<base):Ws W base v l:=by
 refine⟨h.1,?_⟩;rcases h.2 with f|⟨c,a,b,i,d,e,rest⟩
 ·exact .inl f
 ·exact .inr ⟨c,a,b,i,d,by rw[hU.oth c (by omega)];exact e,rest⟩
theorem kenc:KEnc:=by
 intro w v S;clear S;unfold Ev.v;have a0:∀(fn:Fn)(first g:Array Value)(w:World),(Instr.makeFunc fn first g).run Tryz.prog w=.ok (.func fn first g) w:=λ_ _ _ _=>rfl;have B:Hid (∀W,zC 119 #[.agg #[zI v.kd,zI v.me,zI v.mo,zI v.id,zI v.te,zI v.de,zI v.fe,zI v.pr,zI v.ch,zI v.un,zI v.tg,zI v.ow,zI v.bp]] W λe t=>MustPost W v e t):=λW=>bmust v W;have F:Hid (EMay v→∀W,zC 120 #[.agg #[zI v.kd,zI v.me,zI v.mo,zI v.id,zI v.te,zI v.de,zI v.fe,zI v.pr,zI v.ch,zI v.un,zI v.tg,zI v.ow,zI v.bp]] W λe t=>∃V,e=.returned V∧Ws t W.heap.size V (evL v)∧zB W t):=λd W=>bwords v (may_word d) W;obtain⟨W1,H,p,z,u,-⟩:=sh2 w #[zI v.kd,zI v.me,zI v.mo,zI v.id,zI v.te,zI v.de,zI v.fe,zI v.pr,zI v.ch,zI v.un,zI v.tg,zI v.ow,zI v.bp] 44 #[zI 0] 36;go_enter_defers Tryz.func76,Tryz.ntmps76;go_upto_region 2 with fail
 rw[H.o];obtain⟨c0,c1,c2,J,K,L,M,N,O,P,j,k,l⟩:=scl13 p;go_wp2_with fail;refine(B.o _).mono ?_;rintro e W2 ⟨d,b⟩;obtain⟨I,i⟩:=zn2 b p z;have m:=shB u b;clear b c0 c1 c2 J K L M N O P j k l;rcases d with⟨d,rfl⟩|⟨d,rfl⟩
 ·have HY:=zh d;have G:=F.o d;have n:=zh G;clear d;obtain⟨c0,c1,c2,J,K,L,M,N,O,P,j,k,l⟩:=scl13 I;go_wp2_with fail;refine(n.o _).mono ?_;rintro e W3 ⟨V,rfl,X,b⟩;have Y:=shN i b;have x:=shB m b;have C:=zh X;have q:=zh i.o.lt;clear b X c0 c1 c2 J K L M N O P j k l;go_wp2_with refine zl ?_;intro W4 c;have A:=zyb c;have y:=zk c x;have D:=zh (ws_upd C.o c q.o);clear c;go_wp2_with fail;refine leaves_cons (f:=118) (args:=#[.pointer (some ⟨w.heap.size+1,0,none⟩)]) (by simp) (by simp[go_sem]) ?_;refine(encode_idle (w.heap.size+1) 0 _ A.o).mono ?_;rintro e U s ⟨rfl,Q,W,b,c⟩;have T:=zx0 c;have h:zB w s:=c.bel _ _ (by omega) (bel_step y.o b);have E:=ws_upd (D.o.next b) c q.o;obtain⟨a,g,R,r,h1,h2⟩:=E.row;show Leaves _ _ _ _ [] (settle U) s;rw[Q];refine⟨.tuple #[V,zI 0],by simp[results,Tryz.results76,T,go_sem],?_⟩;subst R;exact⟨a,_,g,evL v,0,rfl,.inl ⟨HY.o,rfl,rfl⟩,r,h1,h2,by rw[evL_len];exact zc,h⟩
 ·have Z:=zh d;clear d;refine leaves_cons (f:=118) (args:=#[.pointer (some ⟨w.heap.size+1,0,none⟩)]) (by simp) (by simp[go_sem]) ?_;refine(encode_caught (w.heap.size+1) 0 5 _ i.o).mono ?_;rintro e U s ⟨rfl,Q,W,b,c⟩;have T:=zx0 c;have h:zB w s:=c.bel _ _ (by omega) (bel_step m.o b);show Leaves _ _ _ _ [] (settle U) s;rw[Q];refine⟨.tuple #[zS,zI 5],by simp[results,Tryz.results76,T,go_sem],?_⟩;exact⟨none,0,0,[],5,rfl,.inr ⟨Z.o,rfl,rfl⟩,RowU.nil _ _,λ_=>rfl,zc,Nat.zero_le _,h⟩
end book
namespace disk
open Go.RowKit cell
theorem nothing_done(v:Value)(w:World):Calls Tryz.prog 122 #[v] w λe w'=>e=.returned (.tuple #[])∧w'=w:=by
 go_enter Tryz.func122,Tryz.ntmps122;go_wp2_with fail;go_end0;exact⟨rfl,rfl⟩
theorem kappend:KAppend:=by
 intro w a n D c b m u r h z g F hw E j i y I;have l:=E.1;by_cases d:1≤m∧m≤64
 ·have HE:Hid (zC 121 #[.slice a n D,.func (.func 122) #[] #[]] w λe K=>EPost (λ_ W=>W=w) c e K):=by
   refine each_any 122 #[] (λ_ W=>W=w) a n D c w (λk W G=>by rw[G];exact h) rfl g hw (λ_ _=>by kernel_rfl) ?_;intro k p m b o W G hp a2 hr h1 E h3;refine(nothing_done _ W).mono ?_;rintro e K ⟨rfl,rfl⟩;exact⟨rfl,G⟩
  have t:Hid (RMay r):=⟨by omega,by omega⟩
  have C:Hid (c.length=n∧r.length=m):=⟨h.1,l⟩
  have HL:Hid (∀p:Nat,p≤2048→n≤2048→zC 123 #[.slice b m u,zI (p:Int),zI (n:Int)] w λe K=>∃V,e=.returned V∧Lw K w.heap.size V (appW c p r)∧zB w K):=λp hp hn=>laying_any b m u r c p n w E d.1 d.2 hp hn h.1;obtain⟨a3,a4⟩:=d;have X:decide ((m:Int)<1)=false:=by simp;omega
  have d2:decide ((64:Int)<(m:Int))=false:=by simp;omega
  clear h z g F hw E j i y I l;go_enter Tryz.func77,Tryz.ntmps77;go_wp2_with fail;refine HE.o.mono ?_;rintro e w1 ⟨x,f,k,rfl,G,hi⟩;subst G;have HI:=zh hi;clear hi X d2;by_cases hf:f=0
  ·obtain⟨hmy,hl0,q⟩:May c∧lenAt c (repD c).2=0∧x=((repD c).2:Int):=by
    rcases HI.o with⟨_,_,e⟩|⟨_,_,_,e⟩|⟨J,q2,_,q4,_⟩
    ·rw[hf] at e;exact absurd e (by decide)
    ·rw[hf] at e;exact absurd e (by decide)
    ·exact⟨J,q2,q4⟩
   have T:Hid ((repD c).2≤n):=by show _≤_;rw[← C.o.1];exact rep_bound c
   have M:Hid (n≤(repD c).2+m→AppIs c r [] 16):=λZ=> .inr (.inr (.inr (.inl ⟨t.o,hmy,hl0,by rw[C.o.1,C.o.2];exact Z,rfl,rfl⟩)));have S:Hid ((repD c).2+m<n→AppIs c r (appW c (repD c).2 r) 0):=λZ=> .inr (.inr (.inr (.inr ⟨t.o,hmy,hl0,by rw[C.o.1,C.o.2];exact Z,rfl,rfl⟩)));have a0:n≤2048:=by have:=hmy.2;rw[C.o.1] at this;exact this
   subst hf;subst q;clear hmy hl0;generalize (repD c).2=p at *;have a6:=T.o;by_cases Y:n≤p+m
   ·have s:=zh (M.o Y);have e1:decide ((n:Int)<(p:Int)+1+(m:Int))=true:=by simp;omega
    go_wp2_with fail;go_ret2;exact⟨none,0,0,[],16,rfl,RowW.nil _ _,(λx q=>by cases q),zc,Nat.zero_le _,s.o,zb⟩
   ·have s:=zh (S.o (by omega));have e1:decide ((n:Int)<(p:Int)+1+(m:Int))=false:=by simp;omega
    have O:=HL.o p (by omega) a0;have Q:=zh O;go_wp2_with fail;refine Q.o.mono ?_;rintro e w2 ⟨V,rfl,B,hb⟩;obtain⟨va,vc,rfl,A,_,H,_⟩:=B.row
    have R:Hid (∀x,va=some x→w1.heap.size≤x.block):=λx q=>by
     subst q;exact(World.ownsRow.lt B x.block rfl).1
    have U:=zh A;have P:=zh H;have N:Hid ((appW c p r).length≤100000):=Nat.le_trans (app_few s.o) (by decide);have L:=zh hb;clear B hb A H;generalize appW c p r=ls at *;generalize a1:ls.length=zl at *;clear a1;go_wp2_with fail;go_ret2;exact⟨va,_,vc,ls,0,rfl,U.o,R.o,P.o,N.o,s.o,L.o⟩
  ·have s:Hid (AppIs c r [] f):=by
    rcases HI.o with⟨J,_,rfl⟩|⟨J,q2,_,rfl⟩|⟨_,_,_,_,e⟩
    ·exact .inr (.inl ⟨t.o,J,rfl,rfl⟩)
    ·exact .inr (.inr (.inl ⟨t.o,J,q2,rfl,rfl⟩))
    ·exact absurd e hf
   have a5:(f != 0)=true:=by simpa using hf
   clear hf;go_wp2_with fail;go_ret2;exact⟨none,0,0,[],f,rfl,RowW.nil _ _,(λx q=>by cases q),zc,Nat.zero_le _,s.o,zb⟩
 ·have s:Hid (AppIs c r [] 1):=.inl ⟨λh=>d ⟨by rw[← l];exact h.1,by rw[← l];exact h.2⟩,rfl,rfl⟩;clear h z g F hw E j i y I l;go_enter Tryz.func77,Tryz.ntmps77;by_cases h1:1≤m
  ·have X:decide ((m:Int)<1)=false:=by simp;omega
   have d2:decide ((64:Int)<(m:Int))=true:=by simp;omega
   go_wp2_with fail;go_ret2;exact⟨none,0,0,[],1,rfl,RowW.nil _ _,(λx q=>by cases q),zc,Nat.zero_le _,s.o,zb⟩
  ·have X:decide ((m:Int)<1)=true:=by simp;omega
   go_wp2_with fail;go_ret2;exact⟨none,0,0,[],1,rfl,RowW.nil _ _,(λx q=>by cases q),zc,Nat.zero_le _,s.o,zb⟩
end disk
namespace vnd
open disk (RepIs AppIs)
open book (Ev ev0 EMay evL evOf EncIs DecIs Cm cm0 So so0 BookIs Sees ECame FirstAt NoneAt)
open acc (Ac Tm Bi TCame ACame)
open cell (Wr RowU)
open Go.RowKit
theorem enc_yes{v:Ev}{ws:List Int}{g:Int}(h:EncIs v ws g)(hv:EMay v):(∀x∈ws,0≤x∧x<4294967296)∧g=0:=by
 rcases h with⟨_,rfl,rfl⟩|⟨n,_⟩
 ·exact⟨book.may_word hv,rfl⟩
 ·exact absurd hv n
theorem pkeep(p2:Option Addr)(m2 c2:Nat)(a:Option Addr)(n cap:Nat)(c:List Int)(l:List Ev)(v:Ev)(w:World)(h:Dk w a n cap c)(hk:KeptIs c l 0)(hl:l.length≤120)(hv:EMay v):Calls Tryz.prog 40 #[.agg #[.slice p2 m2 c2,.slice a n cap,zI (l.length:Int)],.agg #[zI v.kd,zI v.me,zI v.mo,zI v.id,zI v.te,zI v.de,zI v.fe,zI v.pr,zI v.ch,zI v.un,zI v.tg,zI v.ow,zI v.bp]] w λe w'=>WrGot w (KeepIs c v) e w':=by
 have HC:Hid (∀W,zB w W→Dk W a n cap c):=λW hW=>h.below hW;have s:=zh hk;have T:=zh hv;clear h hk hv;obtain⟨W0,N,k,E,p,a2⟩:=sh2 w #[.slice p2 m2 c2,.slice a n cap,zI (l.length:Int)] 93 #[zI v.kd,zI v.me,zI v.mo,zI v.id,zI v.te,zI v.de,zI v.fe,zI v.pr,zI v.ch,zI v.un,zI v.tg,zI v.ow,zI v.bp] 44;go_enter Tryz.func40,Tryz.ntmps40;go_upto_region 1 with fail
 rw[N.o];by_cases V:l.length=120
 ·have d1:((l.length:Int)==120)=true:=by simp;omega
  have K:Hid (KeepIs c v [] 16):=⟨l,0,s.o,.inl ⟨by omega,rfl,rfl⟩⟩
  clear V;have C:=zy2 k;go_wp2_with refine zw ?_;go_ret2;exact⟨none,0,0,[],16,rfl,K.o,⟨rfl,.inl rfl⟩,(λx Q=>by cases Q),zc,Nat.zero_le _,p.o⟩
 ·have d1:((l.length:Int)==120)=false:=by simp;omega
  have u:Hid (l.length<120):=(by omega:l.length<120)
  clear V hl;have J:=zh (book.kenc W0 v (book.wf_may T.o));have C:=zy2 k;go_wp2_with refine zw ?_;refine J.o.mono ?_;rintro e D ⟨ra,rn,rc,S,g,rfl,m,A,z,y,X,b⟩;obtain⟨r,F⟩:=zn2 b k E;have q:=shB p b;have Y:=b.size;clear b;clear C;obtain⟨B,rfl⟩:=enc_yes m T.o;have I:=zh m;clear m;have H:Hid (zC 77 #[.slice a n cap,.slice ra rn rc] D λe w'=>disk.AppGot D c S e w'):=(λd:Dk D a n cap c=>disk.kappend D a n cap c ra rn rc S d.row d.nil d.room d.bytes d.wd A z y (by omega) B) (HC.o _ q.o)
  clear A z y B;have R:=zy1 r;go_wp2_with refine zw ?_;refine H.o.mono ?_;rintro e w2 ⟨p3,m3,c3,ls,U,rfl,j,i,O,P,t,f⟩;obtain⟨a0,a1⟩:=zn2 f r F;have G:=shB q f;have Z:=f.size;clear f;clear R;have K:Hid (KeepIs c v ls U):=⟨l,0,s.o,.inr ⟨u.o,S,0,I.o,.inr ⟨rfl,t⟩⟩⟩
  have M:=zh j;have L:Hid (∀x,p3=some x→w.heap.size≤x.block):=λx Q=>Nat.le_trans (by omega) (i x Q);clear j i t u;go_wp2_with fail;go_ret2;exact⟨p3,m3,c3,ls,U,rfl,K.o,M.o,L.o,O,P,G.o⟩
end vnd
namespace book
open Go.RowKit
def FindPost(w:World)(l:List Cu)(me:Int)(e:Ending)(w':World):Prop:=∃x f,e=.returned (.tuple #[zI x,zI f])∧FindIs l me x f∧zB w w'
end book
namespace vnd
open disk (RepIs AppIs)
open book (Ev ev0 EMay evL evOf EncIs DecIs Cm cm0 So so0 BookIs Sees ECame FirstAt NoneAt)
open acc (Ac Tm Bi TCame ACame)
open cell (Wr RowU)
open Go.RowKit
theorem pref(x:Int)(w:World):Calls Tryz.prog 36 #[zI x] w λe w'=>e=.returned (.tuple #[zS,.agg #[zS],.agg #[zI 0,zI 0,zI 0,zI 0,zI 0,zI 0,zI 0,zI 0,.string ⟨#[]⟩],zI x])∧zB w w':=by
 obtain⟨q,j,m,c,b,p⟩:=sh2 w #[zS] 28 #[zI 0,zI 0,zI 0,zI 0,zI 0,zI 0,zI 0,zI 0,.string ⟨#[]⟩] 35;go_enter Tryz.func36,Tryz.ntmps36;go_upto_region 1 with fail
 rw[j.o];go_wp2_with (first|refine zs ?_|refine zw ?_)
 intro r a;have f:=zyb a;have n:=zk1 a c;have d:=zk a b;have k:=a.size;clear a;go_wp2_with (first|refine zs ?_|refine zw ?_)
 intro s a;have h:=zk1 a f;have g:=zk a d;have i:=zyb a;have l:=a.size;clear a;go_wp2_with fail;exact zr (.tuple #[zS,.agg #[zS],.agg #[zI 0,zI 0,zI 0,zI 0,zI 0,zI 0,zI 0,zI 0,.string ⟨#[]⟩],zI x]) (by simp[results,Tryz.results36,zy0 h,scl9 i,go_sem]) ⟨rfl,g.o⟩
end vnd
namespace token
open words
open Go.RowKit
theorem zero_cat(n:Nat)(D:ByteArray):(⟨#[48]⟩:ByteArray)++((⟨(List.replicate n 48).toArray⟩:ByteArray)++D)=(⟨(List.replicate (n+1) 48).toArray⟩:ByteArray)++D:=by
 apply bytes_ext;simp[List.replicate_succ]
theorem zero_size(n:Nat)(D:ByteArray):((⟨(List.replicate n 48).toArray⟩:ByteArray)++D).size=n+D.size:=by
 rw[ByteArray.size_append]
 congr 1
 show (List.replicate n (48:UInt8)).toArray.size=n;simp
theorem zero_nil(D:ByteArray):(⟨(List.replicate 0 48).toArray⟩:ByteArray)++D=D:=by
 apply bytes_ext;simp
theorem formatted_ok(k:Tok)(w:World)(hk:k.ok):
  Calls Tryz.prog 28 #[k.v] w λe w'=>e=.returned (.tuple #[.string (fmtB (97*k.num)),zI 0])∧zB w w':=by
 have I:Hid (∀W,zC 52 #[.agg #[zI (k.c:Int),zI (k.i:Int),zI (k.a:Int),zI (k.t:Int)]] W λe w'=>e=.returned (zI 0)∧zB W w'):=λW=>by
  have:=fault_any k.c k.i k.a k.t W
  rwa [flaw_tok.2 hk] at this
 have N:Hid (∀W,zC 59 #[.agg #[zI (k.c:Int),zI (k.i:Int),zI (k.a:Int),zI (k.t:Int)]] W λe w'=>NewPost W (k.num*97) e w'):=λW=>number_any k W hk;have A:=num_bd hk;have d:=dec_len20 (V:=k.num*97) (by omega);have f:=str_size (decL (k.num*97));have O:Hid (∀(n:Nat) W,Bg W n (k.num*97)→zC 60 #[.pointer (some ⟨n,0,none⟩)] W λe w'=>e=.returned (.string (strOf (decL (k.num*97))))∧zB W w'):=λn W R=>string_any n _ W R (len100 (Nat.lt_trans (show k.num*97<73786976294838206464 by omega) (by decide))) (by omega)
 have P:Hid (∀n:Nat,n+(strOf (decL (k.num*97))).size=20→(⟨(List.replicate n 48).toArray⟩:ByteArray)++strOf (decL (k.num*97))=fmtB (97*k.num)):=λn m=>by
  rw[← rep_list,pad_fmt _ _ (by rw[← f];exact m),Nat.mul_comm]
 have G:Hid (zB w (w.alloc (.cells #[zI (k.c:Int),zI (k.i:Int),zI (k.a:Int),zI (k.t:Int)] 73))):=bel_box _ _;have L:Hid (Blk (w.alloc (.cells #[zI (k.c:Int),zI (k.i:Int),zI (k.a:Int),zI (k.t:Int)] 73)) w.heap.size #[zI (k.c:Int),zI (k.i:Int),zI (k.a:Int),zI (k.t:Int)] 73):=Blk.new _ _ _;rw[← f] at d;clear hk A f;generalize strOf (decL (k.num*97))=D at *;unfold Tok.v;go_enter Tryz.func28,Tryz.ntmps28;go_wp2_with fail;refine(I.o _).mono ?_;rintro e X ⟨rfl,b⟩;have p:=shB G b;have g:=L.o.next b;have c0:=g.cell 0;have c1:=g.cell 1;have c2:=g.cell 2;have Q:=g.cell 3;clear b g;go_wp2_with fail;refine(N.o _).mono ?_;rintro e U ⟨z,rfl,S,l,h⟩;have q:=shB p h;have J:Hid (Bg U z (k.num*97)):=l;clear h l S c0 c1 c2 Q;go_wp2_with fail;refine(O.o _ _ J.o).mono ?_;rintro e Y ⟨rfl,j⟩;have r:=shB q j;clear j;go_wp2_with fail;go_loop [5] (λv=>∃n:Nat,n+D.size≤20∧v=.string ((⟨(List.replicate n 48).toArray⟩:ByteArray)++D)) (λv=>20-(match v with | .string s=>s.size|_=>0))
 case atStart=>exact⟨0,by omega,by rw[zero_nil]⟩
 case round=>
  obtain⟨n,m,rfl⟩:=hrel;have B:=zero_size n D;have E:Hid ((⟨#[48]⟩:ByteArray)++((⟨(List.replicate n 48).toArray⟩:ByteArray)++D)=(⟨(List.replicate (n+1) 48).toArray⟩:ByteArray)++D):=zero_cat n D;have M:Hid (n+D.size=20→(⟨(List.replicate n 48).toArray⟩:ByteArray)++D=fmtB (97*k.num)):=P.o n;have u:Hid (((⟨(List.replicate (n+1) 48).toArray⟩:ByteArray)++D).size=n+1+D.size):=zero_size (n+1) D;by_cases y:n+D.size<20
  ·generalize (⟨(List.replicate n 48).toArray⟩:ByteArray)++D=Z at *;have C:(Z.size:Int)<20:=by omega
   have T:¬ 9223372036854775807<1+Z.size:=by omega
   have K:Hid (n+1+D.size≤20):=(by omega:n+1+D.size≤20)
   have x:Hid (Z.size=n+D.size):=B;clear B m d;go_wp2_with fail;go_round
   case rel=>exact⟨n+1,K.o,by rw[← E.o]⟩
   case measure=>
    show 20-((⟨#[48]⟩:ByteArray)++Z).size<20-Z.size;rw[E.o,u.o,x.o];omega
  ·have F:=M.o (by omega);have H:Hid ((⟨(List.replicate n 48).toArray⟩:ByteArray)++D=fmtB (97*k.num)):=F;clear F;generalize (⟨(List.replicate n 48).toArray⟩:ByteArray)++D=Z at *;have C:¬ (Z.size:Int)<20:=by omega
   clear B y m d;go_wp2_with fail;refine bodyPost_ret (v:=.tuple #[.string Z,zI 0]) (by simp[results,Tryz.results28,go_sem]) rfl ⟨by rw[H.o],r.o⟩
end token
namespace vnd
theorem kfm:KFm:=λk W a=>token.formatted_ok k W a
end vnd
namespace cell
open Go.RowKit
theorem word_of{z:Int}(h:(Lit.int .u32 z).wf=true):0≤z∧z<4294967296:=by
 simp only[Lit.wf,Bool.and_eq_true,decide_eq_true_eq] at h;rw[show IntKind.u32.min=0 from by decide,show IntKind.u32.max=4294967295 from by decide] at h;omega
end cell
end Go.Proofs.YtoepgdhiepedeaaGreatDoor
