import Derived.Test.YtoepgdhiepedeaaGreatDoorVVRys37
import Derived.Test.YtoepgdhiepedeaaGreatDoorVVRys41
set_option linter.unusedVariables false
set_option linter.unusedSimpArgs false
set_option maxHeartbeats 4000000
set_option maxRecDepth 100000
namespace Go.Proofs.YtoepgdhiepedeaaGreatDoor
namespace vnd
open disk (RepIs AppIs RepPost AppPost Lr Recs Sli sl0)
open book (Ev ev0 EMay evL evOf EncIs DecIs Cm cm0 So so0 BookIs BookPost Sees ECame RowE FirstAt NoneAt Tells EncPost DecPost)
open acc (Ac Tm Bi SellIs GrantIs RekeyIs OweIs)
open ora (Pr IssueIs)
open cell (Wr RowU RowW Lw Ws)
open rcp (Rc rc0)
open token (Tok fmtL)
open Go.RowKit
theorem tok_few{kd:Int}{t:Tm}{c:List Int}{o:List Pr}{me te mo dr:Int}{ls:List Wr}{o':List Pr}{r:Rc}{f:Int}(h:TokIs kd t c o me te mo dr ls o' r f):ls.length≤66:=by
 obtain⟨a,g,_,⟨_,rfl,_⟩|⟨_,_,rfl,_⟩|⟨_,k,b,l,x,_,_,⟨_,rfl,_⟩|⟨_,j,m,d,_,⟨_,rfl,_⟩|⟨_,i,e,q,⟨_,rfl,_⟩|⟨_,rfl,_⟩⟩⟩⟩⟩:=h
 ·simp
 ·simp
 ·simp
 ·simp
 ·simp
 ·exact keep_few q
theorem tok_ofew{kd:Int}{t:Tm}{c:List Int}{o:List Pr}{me te mo dr:Int}{ls:List Wr}{o':List Pr}{r:Rc}{f:Int}(h:TokIs kd t c o me te mo dr ls o' r f):o'.length≤500:=by
 obtain⟨d,g,_,⟨_,_,rfl,_⟩|⟨_,_,_,rfl,_⟩|⟨_,k,b,l,x,_,_,⟨_,_,rfl,_⟩|⟨_,m,n,e,a,⟨_,_,rfl,_⟩|⟨_,j,i,q,⟨_,_,rfl,_⟩|⟨_,_,rfl,_⟩⟩⟩⟩⟩:=h
 ·simp
 ·simp
 ·simp
 ·simp
 ·simp
 ·exact ora.few_small a
theorem tok_got{w w':World}{R:List Wr→List Pr→Rc→Int→Prop}{e:Ending}(h:TokPost w R e w')(hf:∀ls o r f,R ls o r f→ls.length≤66):TokGot w R e w':=by
 obtain⟨V,ls,z,u,k,y,r,f,rfl,j,i,l,m,n,p,s⟩:=h;have g:=World.ownsRow.lt i;have q:=hf _ _ _ _ j;obtain⟨a,c,rfl,b,_,d,_⟩:=i.row;exact⟨a,_,c,ls,z,u,k,y,r,f,rfl,j,b,λx t=>(g x.block (by rw[t];rfl)).1,d,by omega,l,m,n,p,s⟩
theorem cut_end{P:Program}{md:Region.Mode}{ops:Array Oper}{Q:Exit→Act→World→Prop}{S:World→Prop}{fuel:Nat}{listed:Array Bool}{a:Act}{U0:World}{γ:Type}(fuel2:Nat)(listed2:Array Bool)(F:γ→Act)(I:γ→World→Prop)
  (hE:∀c U,I c U→S U→wpAnyH P md ops Q S fuel2 listed2 (F c) U)
  (h:Shut (∀(c:γ)(U:World)(l:Array Bool)(fu:Nat),(l==listed2)=true→fu=fuel2→I c U→S U→wpAnyH P md ops Q S fu l (F c) U)→wpAnyH P md ops Q S fuel listed a U0):wpAnyH P md ops Q S fuel listed a U0:=
 h (λc U l fu e hf b d=>by rw[eq_of_beq e,hf];exact hE c U b d)
structure EndS where
 ga:Nat
 gb:Nat
 p:Option Addr
 m:Nat
 cp:Nat
 ls:List Wr
 p5:Option Addr
 n5:Nat
 c5:Nat
 o2:List Pr
 r:Rc
 f:Int
 p2:Option Addr
 c2:Nat
structure EndV where
 ga:Nat
 gb:Nat
 p5:Option Addr
 n5:Nat
 c5:Nat
 o2:List Pr
 tg:Int
 f:Int
theorem rloaded(t:Tm)(pt:Option Addr)(lt ct:Nat)(a:Option Addr)(n cap:Nat)(c:List Int)(w:World)(ht:tar.Came w pt lt ct t.ts)(h:RowU w a n c)(hw:∀x∈c,0≤x∧x<4294967296):Calls Tryz.prog 20 #[.agg #[.slice pt lt ct,zI t.ff,zI t.fb,zI t.db,zI t.al],.slice a n cap] w λe w'=>LoadPost w t c e w':=by
 have HC:Hid (∀W,zB w W→RowU W a n c):=λW Y=>h.below Y;have HT:Hid (∀W,zB w W→tar.Came W pt lt ct t.ts):=λW Y=>ht.below Y;have HW:=zh hw;clear h ht hw;obtain⟨U,r,G,F,s,a5⟩:=sh2 w #[.slice pt lt ct,zI t.ff,zI t.fb,zI t.db,zI t.al] 24 #[zS] 65;go_enter Tryz.func20,Tryz.ntmps20;go_upto_region 1 with fail
 rw[r.o];have Q:Hid (zC 42 #[.slice a n cap] U λe w'=>KeptPost U c e w'):=rkept a n cap c U (HC.o _ s.o) HW.o;go_wp2_with refine zw ?_;refine Q.o.mono ?_;rintro e w1 ⟨p,m,cp,l,f,rfl,hk,B,hm,g⟩;obtain⟨u,H⟩:=zn2 g G F;have d:=shB s g;have a1:=g.size;clear g;have z:=zh hk;have P:=zh B;clear hk B;by_cases E:f=0
 ·subst E;have O:Hid (zC 43 #[.agg #[.slice pt lt ct,zI t.ff,zI t.fb,zI t.db,zI t.al],.slice p m cp] w1 λe w'=>BookPost w1 t l e w'):=book.rbook t pt lt ct p m cp l w1 (HT.o _ d.o).row (HT.o _ d.o).most P.o.row (by omega);go_wp2_with refine zw ?_;refine O.o.mono ?_;rintro e w2 ⟨p2,m2,c2,xs,bk,V,X,rfl,A,D,Z,i⟩;obtain⟨y,k⟩:=zn2 i u H;have j:=shB d i;have a2:=i.size;clear i;have T:Hid (LoadIs t c bk X):=⟨l,0,z.o,.inr ⟨rfl,V,A⟩⟩
  obtain⟨W3,r,J,q,C⟩:=sh1 w2 #[.slice p2 m2 c2] 65;have R:=zh (D.below q.o);clear A D;obtain⟨L,K⟩:=zn2 q.o y k;have I:=shB j q.o;go_upto_region 5 with fail
  rw[r.o];go_wp2_with (first|refine zs ?_|refine zw ?_)
  intro W4 b;have S:=zh (sees_one R.o K.o b);obtain⟨a4,a3⟩:=zk2 b L J;have M:=zk b I;have N:=zyb b;have a0:=b.size;clear b;go_wp2_with fail;exact zr (.tuple #[.agg #[.slice p2 m2 c2],zI X]) (by simp[results,Tryz.results20,zy0 N,go_sem]) ⟨p2,m2,c2,xs,bk,X,rfl,T.o,S.o,Z,M.o⟩
 ·have d0:(f != 0)=true:=by simpa using E
  have T:Hid (LoadIs t c [] f):=⟨l,f,z.o,.inl ⟨E,rfl,rfl⟩⟩
  clear E;go_wp2_with (first|refine zs ?_|refine zw ?_)
  intro W3 b;have y:=zk1 b u;have j:=zk b d;have k:=zyb b;have C:=b.size;clear b;go_wp2_with fail;exact zr (.tuple #[.agg #[zS],zI f]) (by simp[results,Tryz.results20,zy0 k,go_sem]) ⟨none,0,0,[],[],f,rfl,T.o,book.sees_nil _,Nat.zero_le _,j.o⟩
theorem rkeeps(a:Option Addr)(n cap:Nat)(c:List Int)(v:Ev)(w:World)(h:RowU w a n c)(hw:∀x∈c,0≤x∧x<4294967296):Calls Tryz.prog 27 #[.slice a n cap,.agg #[zI v.kd,zI v.me,zI v.mo,zI v.id,zI v.te,zI v.de,zI v.fe,zI v.pr,zI v.ch,zI v.un,zI v.tg,zI v.ow,zI v.bp]] w λe w'=>WrPost w (KeepIs c v) e w':=by
 have T:Hid (∀W,zB w W→RowU W a n c):=λW hW=>h.below hW;have U:=zh hw;clear h hw;obtain⟨P,O,H,s,a4⟩:=sh1 w #[zI v.kd,zI v.me,zI v.mo,zI v.id,zI v.te,zI v.de,zI v.fe,zI v.pr,zI v.ch,zI v.un,zI v.tg,zI v.ow,zI v.bp] 44;go_enter Tryz.func27,Tryz.ntmps27;go_upto_region 1 with fail
 rw[O.o];have N:Hid (zC 42 #[.slice a n cap] P λe w'=>KeptPost P c e w'):=rkept a n cap c P (T.o _ s.o) U.o;go_wp2_with refine zw ?_;refine N.o.mono ?_;rintro e w1 ⟨p,m,cp,l,f,rfl,hk,A,hm,b⟩;have I:=shN H b;have t:=shB s b;have a0:=b.size;clear b;have k:=zh hk;have q:=zh A.row.1;clear hk A;by_cases F:m<120
 ·have d1:decide (120≤(m:Int))=false:=decide_eq_false (by omega);have Q:decide (120≤m)=false:=decide_eq_false (by omega);have M:=zh (book.rencoded v w1);go_wp2_with refine zw ?_;refine M.o.mono ?_;rintro e S ⟨V,r,g,rfl,B,E,d⟩;have J:=shN I d;have j:=shB t d;have a1:=d.size;clear d;have u:=zh B;clear B;by_cases G:g=0
  ·subst G;obtain⟨pw,Y,rfl,D⟩:=E.row;have L:Hid (zC 58 #[.slice a n cap,.slice pw r.length Y] S λe w'=>AppPost S c r e w'):=disk.appended a n cap c pw r.length Y r S (T.o _ j.o) U.o D.1;clear D E;go_wp2_with refine zw ?_;refine L.o.mono ?_;rintro e w3 ⟨X,R,Z,rfl,C,z,i⟩;have a3:=shN J i;have K:=shB j i;have a2:=i.size;clear i;have y:Hid (KeepIs c v R Z):=⟨l,f,k.o,.inr ⟨by rw[q.o];exact F,r,0,u.o,.inr ⟨rfl,z⟩⟩⟩
   have HL:Hid (Lw w3 w.heap.size X R):=lw_low C (by omega);clear C z;go_wp2_with fail;go_ret2;exact⟨X,R,Z,rfl,y.o,HL.o,K.o⟩
  ·have d2:(g != 0)=true:=by simpa using G
   have y:Hid (KeepIs c v [] g):=⟨l,f,k.o,.inr ⟨by rw[q.o];exact F,r,g,u.o,.inl ⟨G,rfl,rfl⟩⟩⟩
   clear G;go_wp2_with fail;go_ret2;exact⟨_,[],g,rfl,y.o,cell.Lw.zero _ _,j.o⟩
 ·have d1:decide (120≤(m:Int))=true:=decide_eq_true (by omega);have Q:decide (120≤m)=true:=decide_eq_true (by omega);have y:Hid (KeepIs c v [] 16):=⟨l,f,k.o,.inl ⟨by rw[q.o];exact F,rfl,rfl⟩⟩
  clear F;go_wp2_with fail;go_ret2;exact⟨_,[],16,rfl,y.o,cell.Lw.zero _ _,t.o⟩
end vnd
namespace cell
open Go.RowKit
theorem words_law(a b:Option Addr)(n c1 c2:Nat)(zs:List Int)(w:World)(h1:RowU w a n zs)(h2:RowU w b n zs)(hn:n≤maxLen):
  Calls Tryz.prog 13 #[.slice a n c1,.slice b n c2] w λe w'=>e=.returned (.bool true)∧zB w w':=by
 have t:((n:Int) != (n:Int))=false:=by simp
 unfold maxLen at hn;go_enter Tryz.func13,Tryz.ntmps13;go_wp2_with fail;go_loopw [5] (λi wr=>∃k:Nat,k≤n∧i=zI k∧zB w wr) (λi _=>n-(intOf i).toNat)
 case atStart=>exact⟨0,Nat.zero_le _,rfl,zb⟩
 case round=>
  obtain⟨k,u,rfl,g⟩:=hrel;by_cases f:k<n
  ·obtain⟨h,o,rfl,l,c⟩:=h1.at (by omega);obtain⟨j,q,rfl,m,d⟩:=h2.at (by omega);have r:wr.cell? ⟨h,o+k,none⟩=some (.int .u32 (zs.getD k 0)):=(g.cell (p:=⟨h,o+k,none⟩) l).trans (c k f);have s:wr.cell? ⟨j,q+k,none⟩=some (.int .u32 (zs.getD k 0)):=(g.cell (p:=⟨j,q+k,none⟩) m).trans (d k f);clear c d h1 h2 l m;generalize zs.getD k 0=z at r s;have x:(z != z)=false:=by simp
   go_wp2_with fail;go_region
   all_goals go_wp2_with fail
   go_roundw
   case rel=>exact⟨k+1,by omega,by go_num,g.drew⟩
   case measure=>simp[intOf];omega
  ·go_wp2_with fail;go_ret;exact⟨rfl,g⟩
theorem eqI(d:Nat)(a b:Int)(w:World):(Op.equalIn (d+1) 3 (zI a) (zI b)).run Tryz.prog w=.ok (a==b) w:=run_equalIn_int w d _ _ _ a b Tryz.underlying3
theorem eqU(d:Nat)(a b:Int)(w:World):(Op.equalIn (d+1) 83 (.int .u32 a) (.int .u32 b)).run Tryz.prog w=.ok (a==b) w:=run_equalIn_int w d _ _ _ a b Tryz.underlying83
theorem wt0(s c:Int)(w:World):(part 3 #[zI s,.int .u32 c] 0).run Tryz.prog w=.ok (zI s) w:=by kernel_rfl
theorem wt1(s c:Int)(w:World):(part 83 #[zI s,.int .u32 c] 1).run Tryz.prog w=.ok (.int .u32 c) w:=by kernel_rfl
theorem eqW(s t b c:Int)(w:World):
  (Op.equalIn 10000 85 (.agg #[zI s,.int .u32 b]) (.agg #[zI t,.int .u32 c])).run Tryz.prog w=.ok (s==t&&b==c) w:=by
 rw[show (10000:Nat)=9999+1 from rfl,run_equalIn_agg w 9999 85 _ _ (by kernel_rfl) (by kernel_rfl)];simp only[Program.fieldsOf,Tryz.underlying85,Op.eqFields,Sem.run_bind,Sem.run_ite];by_cases a:(s==t)=true<;>by_cases d:(b==c)=true<;>simp[wt0,wt1,show (9999:Nat)=9998+1 from rfl,eqI,eqU,a,d]
theorem writes_law(a b:Option Addr)(n c1 c2:Nat)(zs:List Wr)(w:World)(h1:RowW w a n zs)(h2:RowW w b n zs)(hn:n≤maxLen):
  Calls Tryz.prog 11 #[.slice a n c1,.slice b n c2] w λe w'=>e=.returned (.bool true)∧zB w w':=by
 have x:((n:Int) != (n:Int))=false:=by simp
 unfold maxLen at hn;go_enter Tryz.func11,Tryz.ntmps11;go_wp2_with fail;go_loopw [5] (λi wr=>∃k:Nat,k≤n∧i=zI k∧zB w wr) (λi _=>n-(intOf i).toNat)
 case atStart=>exact⟨0,Nat.zero_le _,rfl,zb⟩
 case round=>
  obtain⟨k,C,rfl,f⟩:=hrel;by_cases c:k<n
  ·obtain⟨j,m,rfl,r,g⟩:=h1.at (by omega);obtain⟨l,q,rfl,s,h⟩:=h2.at (by omega);have y:wr.cell? ⟨j,m+k*2,none⟩=some (zI (zs.getD k wr0).p):=(f.cell (p:=⟨j,m+k*2,none⟩) r).trans (g k c).1;have z:wr.cell? ⟨j,m+k*2+1,none⟩=some (.int .u32 (zs.getD k wr0).d):=(f.cell (p:=⟨j,m+k*2+1,none⟩) r).trans (g k c).2;have A:wr.cell? ⟨l,q+k*2,none⟩=some (zI (zs.getD k wr0).p):=(f.cell (p:=⟨l,q+k*2,none⟩) s).trans (h k c).1;have B:wr.cell? ⟨l,q+k*2+1,none⟩=some (.int .u32 (zs.getD k wr0).d):=(f.cell (p:=⟨l,q+k*2+1,none⟩) s).trans (h k c).2;have D:∀t:World,(Op.equalIn 10000 85 (.agg #[zI (zs.getD k wr0).p,.int .u32 (zs.getD k wr0).d]) (.agg #[zI (zs.getD k wr0).p,.int .u32 (zs.getD k wr0).d])).run Tryz.prog t=.ok true t:=λt=>by rw[eqW];simp
   have u:Hid (zB w wr):=f;clear g h h1 h2 r s f;generalize (zs.getD k wr0).p=p at *;generalize (zs.getD k wr0).d=d at *;go_wp2_with fail;go_region
   all_goals go_wp2_with fail
   go_roundw
   case rel=>exact⟨k+1,by omega,by go_num,u.o.drew⟩
   case measure=>simp[intOf];omega
  ·go_wp2_with fail;go_ret;exact⟨rfl,f⟩
end cell
namespace acc
open tar (Du du0 Came RowD Ld PairT)
open Go.RowKit
theorem terms_any(x:Tm)(p:Option Addr)(len cap:Nat)(w:World)(h:TCame w x p len cap):Calls Tryz.prog 9 #[x.v p len cap] w λe w'=>∃p' cap',e=.returned (x.v p' len cap')∧deb.Fresh w' w.heap.size p' len cap' x.ts∧zB w w':=by
 have d:=h.ts.row.1;have H:=zh h;unfold Tm.v;obtain⟨u,J,m,z,k,W⟩:=sh2 w #[.slice p len cap,zI x.ff,zI x.fb,zI x.db,zI x.al] 24 #[zS,zI 0,zI 0,zI 0,zI 0] 24;have l:=zh (h.ts.below k.o);go_enter Tryz.func9,Tryz.ntmps9;go_upto_region 1 with fail
 rw[J.o];have I:=zh (tar.steps_any p len cap x.ts u l.o);clear h;have L:=zy0 m;go_wp2_with fail;refine I.o.mono ?_;rintro e X ⟨Y,rfl,i,b⟩;obtain⟨Q,B⟩:=zn2 b m z;have P:=zh (l.o.below b);have A:=shB k b;have O:=b.size;clear b;have q:=H.o.ts;obtain⟨t,c2,K,g⟩:=i.came (by rw[d];exact q.bytes) q.wf;subst K;have j:=deb.ld_new i;rw[d] at g j ⊢;have f:Hid (deb.Fresh X u.heap.size t len c2 x.ts):=⟨g,j⟩
 have c:=zh (came_lt f.o.came);clear i g j L;go_wp2_with (first|refine zm ?_|refine zw ?_)
 intro W3 a;have D:=zyb a;have R:=zk1 a B;have n:Hid (deb.Fresh W3 u.heap.size t len c2 x.ts):=fresh_updN f.o a (λr y s=>by have U:=f.o.new r y s;have V:=c.o r y s;omega);have C:=zk a A;have M:=a.size;clear a;go_wp2_with (first|refine zs ?_|refine zw ?_)
 intro T a;have S:=zk1 a D;have G:=zyb a;have F:Hid (deb.Fresh T u.heap.size t len c2 x.ts):=fresh_updN n.o a (λr y s=>by have U:=n.o.new r y s;have V:=c.o r y s;omega);have E:=zk a C;have N:=a.size;clear a;go_wp2_with fail;exact zr (.agg #[.slice t len c2,zI x.ff,zI x.fb,zI x.db,zI x.al]) (by simp[results,Tryz.results9,scl5 G,go_sem]) ⟨t,c2,rfl,F.o.low (by omega),E.o⟩
end acc
namespace vnd
open disk (RepIs AppIs)
open book (Ev ev0 EMay evL evOf EncIs DecIs Cm cm0 So so0 BookIs Sees ECame FirstAt NoneAt Tells)
open acc (Ac Tm Bi TCame ACame SellIs GrantIs RekeyIs)
open ora (Pr IssueIs)
open token (Tok TTab fmtL)
open rcp (Rc rc0)
open cell (Wr RowU RowW)
open Go.RowKit
def BGot(w:World)(R:Ac→Bi→Int→Prop)(e:Ending)(w':World):Prop:=∃b l p len cap f,e=.returned (.tuple #[acc.Ac.v b p len cap,acc.Bi.v l,zI f])∧R b l f∧zB w w'
theorem BGot.of{w:World}{R:Ac→Bi→Int→Prop}{e:Ending}{w':World}(h:acc.BPost w R e w'):BGot w R e w':=by
 obtain⟨b,l,p,len,a,f,c,d,_,g⟩:=h;exact⟨b,l,p,len,a,f,c,d,g⟩
def TagP(w:World)(o:List Pr)(me rv bd dr cl id am:Int)(e:Ending)(w':World):Prop:=∃p5 n5 c5 o2 tg f,e=.returned (.tuple #[.agg #[.slice p5 n5 c5],.agg #[zI cl,zI id,zI am,zI tg],zI f])∧IssueIs o me rv bd dr o2 tg f∧ora.RowP w' p5 n5 o2∧(p5=none→c5=0)∧n5≤c5∧(∀x,p5=some x→w.heap.size≤x.block)∧zB w w'
theorem ptagged(ao:Option Addr)(no ko:Nat)(o:List Pr)(y:Ac)(dp:Option Addr)(dn dc:Nat)(cl id am dr:Int)(K:Tok)(w:World)(ht:TTab w)(hk:K.ok)(hv:K.v=.agg #[zI cl,zI id,zI am,zI 0])(ho:ora.RowP w ao no o):Calls Tryz.prog 38 #[.agg #[.slice ao no ko],.agg #[zI y.me,zI y.rv,zI y.nx,zI y.mo,zI y.bo,zI y.fr,.slice dp dn dc],.agg #[zI cl,zI id,zI am,zI 0],zI dr] w λe w'=>TagP w o y.me y.rv (K.body:Int) dr cl id am e w':=by
 have HO:Hid (∀W,zB w W→ora.RowP W ao no o):=λW hW=>ho.below hW
 have au:Hid (∀W,zB w W→zC 74 #[.agg #[zI cl,zI id,zI am,zI 0]] W λe w'=>e=.returned (.tuple #[zI (K.body:Int),zI 0])∧zB W w'):=λW hW=>by
  have hh:=token.body_ok K W (ht.below hW) hk;rw[hv] at hh;exact hh
 clear ht hk hv ho;generalize (K.body:Int)=bd at *;obtain⟨W0,m,P,N,O,R,Q,q,aJ⟩:=sh5 w #[.slice ao no ko] 28 #[zI y.me,zI y.rv,zI y.nx,zI y.mo,zI y.bo,zI y.fr,.slice dp dn dc] 55 #[zI cl,zI id,zI am,zI 0] 73 #[zS] 28 #[zI 0,zI 0,zI 0,zI 0] 73;go_enter Tryz.func38,Tryz.ntmps38;go_upto_region 1 with fail
 rw[m.o];have ar:=au.o W0 q.o;go_wp2_with refine zw ?_;refine ar.mono ?_;rintro e w1 ⟨rfl,f⟩;obtain⟨U,k,T,X,V⟩:=zn5 f P N O R Q;have r:=shB q f;have aD:=f.size;clear f;have aw:Hid (zC 75 #[.agg #[.slice ao no ko],zI y.me,zI y.rv,zI bd,zI dr] w1 λe w'=>ora.IssueQ w1 o y.me y.rv bd dr e w'):=ora.poi ao no ko o y.me y.rv bd dr w1 (HO.o _ r.o);have az:=zy0 k;have aA:=zy1 k;go_wp2_with refine zw ?_;clear az aA;refine aw.o.mono ?_;rintro e L ⟨v5,p,J,M,rfl,H,j,g⟩;obtain⟨a1,Z,a0,a3,a2⟩:=zn5 g U k T X V;have Y:=shB r g;have aE:=g.size;clear g;obtain⟨c,i,rfl,I,F,E,G⟩:=H.lies;have av:=zh j;have ax:=zh I;have A:Hid ((c=none→i=0)∧p.length≤i):=⟨F,E⟩
 have d:=zh G;clear I F E G j H;generalize p.length=h at *;have aF:Hid (zB L L):=zb;obtain⟨W3,m,a6,l,aB⟩:=sh1 L #[.slice c h i] 28;obtain⟨a7,a5,aG,a9,a8⟩:=zn5 l.o a1 Z a0 a3 a2;have a4:=shB Y l.o;go_upto_region 3 with fail
 rw[m.o];go_wp2_with refine zl ?_;intro W4 a;have ay:Hid (ora.RowP W4 c h p):=rowP_off (ax.o.below l.o) (λx n=>by have:=d.o x n;omega) a;obtain⟨ac,ab,ae,ad,t⟩:=zk5 a a7 a5 a9 a8 a6;have aa:=zk a a4;have s:=zyb a;have aC:=a.size;clear a;go_wp2_with fail;refine wp_region_held_drew (S:=λv=>Blk v (L.heap.size) #[.slice c h i] 28∧Blk v (w.heap.size+1+1) #[zI cl,zI id,zI am,zI J] 73) (by kernel_rfl) ⟨Blk.drew t.o 1,Blk.drew s.o 1⟩ (λb=>?_);refine zu' 0 (.agg #[.slice c h i]) rfl rfl (Or.inl ⟨by rfl,λv hv=>by have g0:=hv.1.cell 0;clear hv;go_simp⟩) ?_;refine zu' 1 (.agg #[zI cl,zI id,zI am,zI J]) rfl rfl (Or.inl ⟨by rfl,λv hv=>by have g0:=hv.2.cell 0;have g1:=hv.2.cell 1;have g2:=hv.2.cell 2;have g3:=hv.2.cell 3;clear hv;go_simp⟩) ?_;refine zt' 2 (zI M) ?_;refine zo 3 λK D=>?_;rw[if_pos (by rfl)];refine wp_letOp 28 _ _ rfl (w.heap.size+1+1+1) rfl #[.slice c h i] rfl (by kernel_rfl) (by simp[Value.oneCell']) #[zS] 28 (Blk.drew ae.o 1) rfl rfl ?_;intro V1 a;have ah:=zh (a.keep (Blk.drew ac.o 1) (by omega));have ag:=zh (a.keep (Blk.drew ab.o 1) (by omega));have u:=zh (a.keep (Blk.drew s.o 1) (by omega));have aj:=zyb a;have ai:=zh (a.keep (Blk.drew ad.o 1) (by omega));have z:=zh (a.keep (Blk.drew t.o 1) (by omega));have B:Hid (ora.RowP V1 c h p):=rowP_off (ay.o.below (bel_drew zb 1)) (λx n=>by have:=d.o x n;omega) a;have af:Hid (zB w V1):=a.bel _ _ (by omega) aa.o.drew;clear a;refine D.o _ _ ⟨z.o,u.o⟩ (λb=>?_);clear D K;refine zo 4 λK D=>?_;rw[if_pos (by rfl)];refine wp_letOp 73 _ _ rfl (w.heap.size+1+1+1+1) rfl #[zI cl,zI id,zI am,zI J] rfl (by kernel_rfl) (by simp[Value.oneCell']) #[zI 0,zI 0,zI 0,zI 0] 73 ai.o rfl rfl ?_;intro V2 a;obtain⟨aI,aH,al,aq,an⟩:=zk5 a ah ag u aj z
 have ap:=zyb a;have C:Hid (ora.RowP V2 c h p):=rowP_off B.o (λx n=>by have:=d.o x n;omega) a;have ak:=zk a af;clear a;refine D.o _ _ ⟨an.o,al.o⟩ (λb=>?_);clear D K;refine zt' 5 (zI M) ?_;refine wpAnyH_done (by kernel_rfl) ?_ _;clear b;go_wp2_with fail;exact zr (.tuple #[.agg #[.slice c h i],.agg #[zI cl,zI id,zI am,zI J],zI M]) (by simp[results,Tryz.results38,zy0 aq,scl4 ap,go_sem]) ⟨c,h,i,p,J,M,rfl,av.o,C.o,A.o.1,A.o.2,(λx n=>by have:=d.o x n;omega),ak.o⟩
end vnd
namespace disk
open Go.RowKit cell
theorem nothing_done(v:Value)(w:World):Calls Tryz.prog 122 #[v] w λe w'=>e=.returned (.tuple #[])∧w'=w:=by
 go_enter Tryz.func122,Tryz.ntmps122;go_wp2_with fail;go_end0;exact⟨rfl,rfl⟩
theorem kappend:KAppend:=by
 intro w a n D c b m u r h z g F hw E j i y I;have l:=E.1;by_cases d:1≤m∧m≤64
 ·have HE:Hid (zC 121 #[.slice a n D,.func (.func 122) #[] #[]] w λe K=>EPost (λ_ W=>W=w) c e K):=by
   refine each_any 122 #[] (λ_ W=>W=w) a n D c w (λk W G=>by rw[G];exact h) rfl g hw (λ_ _=>by kernel_rfl) ?_;intro k p m b o W G hp a2 hr h1 E h3;refine(nothing_done _ W).mono ?_;rintro e K ⟨rfl,rfl⟩;exact⟨rfl,G⟩
  have t:Hid (RMay r):=⟨by omega,by omega⟩
  have C:Hid (c.length=n∧r.length=m):=⟨h.1,l⟩
  have HL:Hid (∀p:Nat,p≤2048→n≤2048→zC 123 #[.slice b m u,zI (p:Int),zI (n:Int)] w λe K=>∃V,e=.returned V∧Lw K w.heap.size V (appW c p r)∧zB w K):=λp hp hn=>laying_any b m u r c p n w E d.1 d.2 hp hn h.1;obtain⟨a3,a4⟩:=d;have X:decide ((m:Int)<1)=false:=by simp;omega
  have d2:decide ((64:Int)<(m:Int))=false:=by simp;omega
  clear h z g F hw E j i y I l;go_enter Tryz.func77,Tryz.ntmps77;go_wp2_with fail;refine HE.o.mono ?_;rintro e w1 ⟨x,f,k,rfl,G,hi⟩;subst G;have HI:=zh hi;clear hi X d2;by_cases hf:f=0
  ·obtain⟨hmy,hl0,q⟩:May c∧lenAt c (repD c).2=0∧x=((repD c).2:Int):=by
    rcases HI.o with⟨_,_,e⟩|⟨_,_,_,e⟩|⟨J,q2,_,q4,_⟩
    ·rw[hf] at e;exact absurd e (by decide)
    ·rw[hf] at e;exact absurd e (by decide)
    ·exact⟨J,q2,q4⟩
   have T:Hid ((repD c).2≤n):=by show _≤_;rw[← C.o.1];exact rep_bound c
   have M:Hid (n≤(repD c).2+m→AppIs c r [] 16):=λZ=> .inr (.inr (.inr (.inl ⟨t.o,hmy,hl0,by rw[C.o.1,C.o.2];exact Z,rfl,rfl⟩)));have S:Hid ((repD c).2+m<n→AppIs c r (appW c (repD c).2 r) 0):=λZ=> .inr (.inr (.inr (.inr ⟨t.o,hmy,hl0,by rw[C.o.1,C.o.2];exact Z,rfl,rfl⟩)));have a0:n≤2048:=by have:=hmy.2;rw[C.o.1] at this;exact this
   subst hf;subst q;clear hmy hl0;generalize (repD c).2=p at *;have a6:=T.o;by_cases Y:n≤p+m
   ·have s:=zh (M.o Y);have e1:decide ((n:Int)<(p:Int)+1+(m:Int))=true:=by simp;omega
    go_wp2_with fail;go_ret2;exact⟨none,0,0,[],16,rfl,RowW.nil _ _,(λx q=>by cases q),zc,Nat.zero_le _,s.o,zb⟩
   ·have s:=zh (S.o (by omega));have e1:decide ((n:Int)<(p:Int)+1+(m:Int))=false:=by simp;omega
    have O:=HL.o p (by omega) a0;have Q:=zh O;go_wp2_with fail;refine Q.o.mono ?_;rintro e w2 ⟨V,rfl,B,hb⟩;obtain⟨va,vc,rfl,A,_,H,_⟩:=B.row
    have R:Hid (∀x,va=some x→w1.heap.size≤x.block):=λx q=>by
     subst q;exact(World.ownsRow.lt B x.block rfl).1
    have U:=zh A;have P:=zh H;have N:Hid ((appW c p r).length≤100000):=Nat.le_trans (app_few s.o) (by decide);have L:=zh hb;clear B hb A H;generalize appW c p r=ls at *;generalize a1:ls.length=zl at *;clear a1;go_wp2_with fail;go_ret2;exact⟨va,_,vc,ls,0,rfl,U.o,R.o,P.o,N.o,s.o,L.o⟩
  ·have s:Hid (AppIs c r [] f):=by
    rcases HI.o with⟨J,_,rfl⟩|⟨J,q2,_,rfl⟩|⟨_,_,_,_,e⟩
    ·exact .inr (.inl ⟨t.o,J,rfl,rfl⟩)
    ·exact .inr (.inr (.inl ⟨t.o,J,q2,rfl,rfl⟩))
    ·exact absurd e hf
   have a5:(f != 0)=true:=by simpa using hf
   clear hf;go_wp2_with fail;go_ret2;exact⟨none,0,0,[],f,rfl,RowW.nil _ _,(λx q=>by cases q),zc,Nat.zero_le _,s.o,zb⟩
 ·have s:Hid (AppIs c r [] 1):=.inl ⟨λh=>d ⟨by rw[← l];exact h.1,by rw[← l];exact h.2⟩,rfl,rfl⟩;clear h z g F hw E j i y I l;go_enter Tryz.func77,Tryz.ntmps77;by_cases h1:1≤m
  ·have X:decide ((m:Int)<1)=false:=by simp;omega
   have d2:decide ((64:Int)<(m:Int))=true:=by simp;omega
   go_wp2_with fail;go_ret2;exact⟨none,0,0,[],1,rfl,RowW.nil _ _,(λx q=>by cases q),zc,Nat.zero_le _,s.o,zb⟩
  ·have X:decide ((m:Int)<1)=true:=by simp;omega
   go_wp2_with fail;go_ret2;exact⟨none,0,0,[],1,rfl,RowW.nil _ _,(λx q=>by cases q),zc,Nat.zero_le _,s.o,zb⟩
end disk
namespace vnd
open disk (RepIs AppIs)
open book (Ev ev0 EMay evL evOf EncIs DecIs Cm cm0 So so0 BookIs Sees ECame FirstAt NoneAt)
open acc (Ac Tm Bi TCame ACame)
open cell (Wr RowU)
open Go.RowKit
theorem enc_yes{v:Ev}{ws:List Int}{g:Int}(h:EncIs v ws g)(hv:EMay v):(∀x∈ws,0≤x∧x<4294967296)∧g=0:=by
 rcases h with⟨_,rfl,rfl⟩|⟨n,_⟩
 ·exact⟨book.may_word hv,rfl⟩
 ·exact absurd hv n
theorem pkeep(p2:Option Addr)(m2 c2:Nat)(a:Option Addr)(n cap:Nat)(c:List Int)(l:List Ev)(v:Ev)(w:World)(h:Dk w a n cap c)(hk:KeptIs c l 0)(hl:l.length≤120)(hv:EMay v):Calls Tryz.prog 40 #[.agg #[.slice p2 m2 c2,.slice a n cap,zI (l.length:Int)],.agg #[zI v.kd,zI v.me,zI v.mo,zI v.id,zI v.te,zI v.de,zI v.fe,zI v.pr,zI v.ch,zI v.un,zI v.tg,zI v.ow,zI v.bp]] w λe w'=>WrGot w (KeepIs c v) e w':=by
 have HC:Hid (∀W,zB w W→Dk W a n cap c):=λW hW=>h.below hW;have s:=zh hk;have T:=zh hv;clear h hk hv;obtain⟨W0,N,k,E,p,a2⟩:=sh2 w #[.slice p2 m2 c2,.slice a n cap,zI (l.length:Int)] 93 #[zI v.kd,zI v.me,zI v.mo,zI v.id,zI v.te,zI v.de,zI v.fe,zI v.pr,zI v.ch,zI v.un,zI v.tg,zI v.ow,zI v.bp] 44;go_enter Tryz.func40,Tryz.ntmps40;go_upto_region 1 with fail
 rw[N.o];by_cases V:l.length=120
 ·have d1:((l.length:Int)==120)=true:=by simp;omega
  have K:Hid (KeepIs c v [] 16):=⟨l,0,s.o,.inl ⟨by omega,rfl,rfl⟩⟩
  clear V;have C:=zy2 k;go_wp2_with refine zw ?_;go_ret2;exact⟨none,0,0,[],16,rfl,K.o,⟨rfl,.inl rfl⟩,(λx Q=>by cases Q),zc,Nat.zero_le _,p.o⟩
 ·have d1:((l.length:Int)==120)=false:=by simp;omega
  have u:Hid (l.length<120):=(by omega:l.length<120)
  clear V hl;have J:=zh (book.kenc W0 v (book.wf_may T.o));have C:=zy2 k;go_wp2_with refine zw ?_;refine J.o.mono ?_;rintro e D ⟨ra,rn,rc,S,g,rfl,m,A,z,y,X,b⟩;obtain⟨r,F⟩:=zn2 b k E;have q:=shB p b;have Y:=b.size;clear b;clear C;obtain⟨B,rfl⟩:=enc_yes m T.o;have I:=zh m;clear m;have H:Hid (zC 77 #[.slice a n cap,.slice ra rn rc] D λe w'=>disk.AppGot D c S e w'):=(λd:Dk D a n cap c=>disk.kappend D a n cap c ra rn rc S d.row d.nil d.room d.bytes d.wd A z y (by omega) B) (HC.o _ q.o)
  clear A z y B;have R:=zy1 r;go_wp2_with refine zw ?_;refine H.o.mono ?_;rintro e w2 ⟨p3,m3,c3,ls,U,rfl,j,i,O,P,t,f⟩;obtain⟨a0,a1⟩:=zn2 f r F;have G:=shB q f;have Z:=f.size;clear f;clear R;have K:Hid (KeepIs c v ls U):=⟨l,0,s.o,.inr ⟨u.o,S,0,I.o,.inr ⟨rfl,t⟩⟩⟩
  have M:=zh j;have L:Hid (∀x,p3=some x→w.heap.size≤x.block):=λx Q=>Nat.le_trans (by omega) (i x Q);clear j i t u;go_wp2_with fail;go_ret2;exact⟨p3,m3,c3,ls,U,rfl,K.o,M.o,L.o,O,P,G.o⟩
end vnd
namespace acc
open Go.ChangeShapes Go.WideShapes Go.ChangeAt Go.RowKit Go.Deep
theorem open_terms{H:Type}{enc:TypeId × Value→H}{W:World}{r:Reach}{b0 b1:Nat}{held:Bool}{v:Value}{d:DataW H}{ps:List MemPlace}
  (hval:Value.okWide Tryz.prog W r b0 24 v) (h:DataW.Trod enc Tryz.prog W b1 (λ_=>true) held 24 v d ps) (hs:∀n∈d.weights Tryz.prog 24,n≤reachBytes):
  ∃(x:Tm)(p:Option Addr)(len cap:Nat),v=x.v p len cap∧TCame W x p len cap:=by
 have u:=Tryz.underlying24;have hc:Tryz.prog.cellsOf 24=5:=by kernel_rfl
 have Z:Tryz.prog.cellsOf 3=1:=by kernel_rfl
 have s:Tryz.prog.cellsOf 22=1:=by kernel_rfl
 obtain⟨cs,rfl,k⟩:=okWide_struct u hval;rw[hc] at k
 obtain⟨c0,c1,c2,c3,c4,rfl⟩:∃c0 c1 c2 c3 c4,cs=#[c0,c1,c2,c3,c4]:=by
  cases cs with
  |mk l=>match l,k with
   |[c0,c1,c2,c3,c4],_=>exact⟨c0,c1,c2,c3,c4,rfl⟩
 obtain⟨F,hf⟩:=h;obtain⟨xs,n,N,hd,_,g,f⟩:=DataW.trod_struct u hf
 match xs,g with
 |[y0,y1,y2,y3,y4],_=>
  have G:=f 0 _ rfl;have I:=f 1 _ rfl;have J:=f 2 _ rfl;have K:=f 3 _ rfl;have L:=f 4 _ rfl;simp[Value.cells,Z,s] at G I J K L;obtain⟨U,B,-,Q⟩:=DataW.trod_int Tryz.underlying3 I;obtain⟨V,C,-,R⟩:=DataW.trod_int Tryz.underlying3 J;obtain⟨X,D,-,S⟩:=DataW.trod_int Tryz.underlying3 K;obtain⟨Y,E,-,T⟩:=DataW.trod_int Tryz.underlying3 L;simp at B C D E;subst B C D E;rcases Deep.open_slice_pairs Tryz.underlying22 Tryz.underlying214 (by kernel_rfl) rfl rfl (by kernel_rfl) (by kernel_rfl) G with⟨b,_⟩|⟨x,l,c,A,fu,V0,V1,D0,D1,P0,P1,b,_,hl,hm,i,hy,e⟩
  ·simp at b;subst b;exact⟨⟨[],U,V,X,Y⟩,none,0,0,rfl,⟨tar.RowD.nil _ _,(λ_=>rfl),zc,by omega,(λx N=>by cases N)⟩,⟨Q,R,S,T⟩⟩
  ·simp at b;subst b;simp only[if_true] at i;subst i
   have hr:=tar.rowD_of (len:=l) (w:=W) (a:=x) (m:=A) (by omega) (fun j hj=>by
    obtain⟨O,P,t0,t1⟩:=e j hj;obtain⟨z0,o,_,y⟩:=DataW.trod_int Tryz.underlying3 t0;obtain⟨z1,q,_,z⟩:=DataW.trod_int Tryz.underlying3 t1;simp only[List.cons.injEq,and_true] at o q;rw[o] at O;rw[q] at P
    exact ⟨z0,z1,O,P,y,z⟩)
   obtain⟨zs,r1,r2⟩:=hr;subst hy;obtain⟨t,_⟩:=Prod.mk.inj hd;subst t;have M:=hs ((l+(A-l))*Tryz.prog.bytesOf 214) (by simp[DataW.weights,u,DataW.weightsEach,Tryz.underlying22]);rw[show Tryz.prog.bytesOf 214=16 from by kernel_rfl] at M;simp only[reachBytes] at M;exact⟨⟨zs,U,V,X,Y⟩,some x,l,A,rfl,⟨r1,(λh=>by cases h),hl,by omega,r2⟩,⟨Q,R,S,T⟩⟩
end acc
end Go.Proofs.YtoepgdhiepedeaaGreatDoor
