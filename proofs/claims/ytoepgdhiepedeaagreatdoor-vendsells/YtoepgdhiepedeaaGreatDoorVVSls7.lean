import Derived.Test.YtoepgdhiepedeaaGreatDoorVVSls2
import Derived.Test.YtoepgdhiepedeaaGreatDoorVVSls4
import Derived.Test.YtoepgdhiepedeaaGreatDoorVVSls5
set_option linter.unusedVariables false
set_option linter.unusedSimpArgs false
set_option maxHeartbeats 4000000
set_option maxRecDepth 100000
namespace Go.Proofs.YtoepgdhiepedeaaGreatDoor
namespace book
structure So where
 id:Int
 cl:Int
 am:Int
 tg:Int
 rv:Int
def so0:So:=⟨0,0,0,0,0⟩
open acc (Ac Tm Bi TFault TRight OweIs SellIs GrantIs RekeyIs)
structure Cm where
 a:Ac
 so:List So
def cm0:Cm:=⟨acc.ac0,[]⟩
def billOf(v:Ev):Bi:=⟨v.id,v.te,v.de,v.fe,v.pr,v.ch,v.un⟩
def soldOf(c:Cm)(v:Ev):So:=if v.kd=4 then ⟨v.id,2,c.a.rv+1,v.tg,c.a.rv⟩ else ⟨v.id,0,v.un,v.tg,c.a.rv⟩
def Tells(t:Tm)(c:Cm)(v:Ev)(b:Ac)(l:Bi)(e:Int):Prop:=(v.kd=2∧SellIs c.a t v.te v.mo b l e)∨(v.kd=3∧GrantIs c.a t v.mo b l e)∨(v.kd=4∧RekeyIs c.a b l e)
variable{t:Tm}{bk:List Cm}{l:List Ev}{v:Ev}
theorem Tells.one{c:Cm}{b b':Ac}{l l':Bi}{e e':Int}(h:Tells t c v b l e)(h':Tells t c v b' l' e'):b=b'∧l=l'∧e=e':=by
 rcases h with⟨p,q⟩|⟨p,q⟩|⟨p,q⟩<;>rcases h' with⟨d,a⟩|⟨d,a⟩|⟨d,a⟩<;>first|exact q.one a|omega
def HapIs(t:Tm)(c:Cm)(v:Ev)(c':Cm)(f:Int):Prop:=
 (v.kd=5∧∃b,OweIs c.a ⟨v.ow,v.bp⟩ b f∧(f=0→c'=⟨b,c.so⟩)) ∨
 (v.kd≠5∧∃b l e,Tells t c v b l e∧((e≠0∧f=e)∨(e=0∧l≠billOf v∧f=8)∨(e=0∧l=billOf v∧f=0∧c'=⟨b,c.so++[soldOf c v]⟩)))
theorem HapIs.one{c c' d':Cm}{f g:Int}(h:HapIs t c v c' f)(h':HapIs t c v d' g):f=g∧(f=0→c'=d'):=by
 rcases h with⟨p,b,q,r⟩|⟨p,b,l,e,q,r⟩<;>rcases h' with⟨a,k,d,i⟩|⟨a,k,s,o,d,i⟩
 ·obtain⟨rfl,rfl⟩:=q.one d;exact⟨rfl,λh=>(r h).trans (i h).symm⟩
 ·exact absurd p a
 ·exact absurd a p
 ·obtain⟨rfl,rfl,rfl⟩:=q.one d;rcases r with⟨x,rfl⟩|⟨x,y,rfl⟩|⟨x,y,rfl,z⟩<;>rcases i with⟨j,rfl⟩|⟨j,m,rfl⟩|⟨j,m,rfl,n⟩<;>first|exact⟨rfl,λh=>absurd h x⟩|exact⟨rfl,λh=>absurd h (by decide)⟩|exact⟨rfl,λ_=>z.trans n.symm⟩|contradiction
def FirstAt(bk:List Cm)(me:Int)(k:Nat):Prop:=k<bk.length∧(bk.getD k cm0).a.me=me∧∀j,j<k→(bk.getD j cm0).a.me≠me
def NoneAt(bk:List Cm)(me:Int):Prop:=∀j,j<bk.length→(bk.getD j cm0).a.me≠me
theorem FirstAt.one{me:Int}{k k':Nat}(h:FirstAt bk me k)(h':FirstAt bk me k'):k=k':=by
 rcases Nat.lt_trichotomy k k' with c|c|c
 ·exact absurd h.2.1 (h'.2.2 k c)
 ·exact c
 ·exact absurd h'.2.1 (h.2.2 k' c)
theorem FirstAt.some{me:Int}{k:Nat}(h:FirstAt bk me k):¬ NoneAt bk me:=λa=>a k h.1 h.2.1
def StepIs(t:Tm)(bk:List Cm)(v:Ev)(bk':List Cm)(f:Int):Prop:=
 (¬ EMay v∧f=5)∨(EMay v∧v.kd=1∧¬ NoneAt bk v.me∧f=21)∨(EMay v∧v.kd=1∧NoneAt bk v.me∧f=0∧bk'=bk++[⟨⟨v.me,0,1,0,0,-1,[]⟩,[]⟩]) ∨
 (EMay v∧v.kd≠1∧NoneAt bk v.me∧f=18)∨(EMay v∧v.kd≠1∧∃k c',FirstAt bk v.me k∧HapIs t (bk.getD k cm0) v c' f∧(f=0→bk'=bk.set k c'))
theorem StepIs.one{bk b b':List Cm}{f f':Int}(h:StepIs t bk v b f)(h':StepIs t bk v b' f'):f=f'∧(f=0→b=b'):=by
 rcases h with⟨p,rfl⟩|⟨p,q,r,rfl⟩|⟨p,q,r,rfl,s⟩|⟨p,q,r,rfl⟩|⟨p,q,k,c,m,n,o⟩<;>rcases h' with⟨d,rfl⟩|⟨d,j,l,rfl⟩|⟨d,j,l,rfl,u⟩|⟨d,j,l,rfl⟩|⟨d,j,y,x,a,g,i⟩<;>first|contradiction|exact⟨rfl,λh=>absurd h (by decide)⟩|exact⟨rfl,λ_=>s.trans u.symm⟩|exact absurd r a.some|exact absurd l m.some|skip
 obtain rfl:=m.one a;obtain⟨rfl,e⟩:=n.one g;exact⟨rfl,λh=>by rw[o h,i h,e h]⟩
def BookIs(t:Tm)(l:List Ev)(bk:List Cm)(at_ f:Int):Prop:=
 (TFault t f∧f≠0∧bk=[]∧at_=0)∨(TRight t∧120<l.length∧bk=[]∧at_=0∧f=1) ∨
 (TRight t∧l.length≤120∧∃ (k:Nat) (st:Nat→List Cm),st 0=[]∧(∀ i,i<k→StepIs t (st i) (l.getD i ev0) (st (i+1)) 0) ∧
  ((k=l.length∧bk=st k∧at_=0∧f=0)∨(k<l.length∧(∃ x,StepIs t (st k) (l.getD k ev0) x f)∧f≠0∧bk=[]∧at_=(k:Int))))
theorem states_one{k k':Nat}{st st':Nat→List Cm}(h0:st 0=[])(h0':st' 0=[])(h:∀i,i<k→StepIs t (st i) (l.getD i ev0) (st (i+1)) 0)(h':∀i,i<k'→StepIs t (st' i) (l.getD i ev0) (st' (i+1)) 0):∀i,i≤k→i≤k'→st i=st' i
 |0,_,_=>h0.trans h0'.symm
 |i+1,hk,hk'=>by
  have ih:=states_one h0 h0' h h' i (by omega) (by omega);have q:=h i (by omega);have a:=h' i (by omega);rw[ih] at q;exact(q.one a).2 rfl
theorem BookIs.one{b b':List Cm}{a a' f f':Int}(h:BookIs t l b a f)(h':BookIs t l b' a' f'):b=b'∧a=a'∧f=f':=by
 rcases h with⟨p,q,rfl,rfl⟩|⟨p,q,rfl,rfl,rfl⟩|⟨p,q,k,C,z,s,A⟩<;>rcases h' with⟨g,o,rfl,rfl⟩|⟨g,o,rfl,rfl,rfl⟩|⟨g,o,j,B,r,i,u⟩
 ·exact⟨rfl,rfl,p.one g⟩
 ·exact absurd (p.ok.2 g) q
 ·exact absurd (p.ok.2 g) q
 ·exact absurd (g.ok.2 p) o
 ·exact⟨rfl,rfl,rfl⟩
 ·omega
 ·exact absurd (g.ok.2 p) o
 ·omega
 ·have same:=states_one z r s i;rcases A with⟨e,rfl,rfl,rfl⟩|⟨e,⟨x,n⟩,hf,rfl,rfl⟩<;>rcases u with⟨y,rfl,rfl,rfl⟩|⟨y,⟨D,d⟩,m,rfl,rfl⟩
  ·have:k=j:=by omega
   subst this;exact⟨same k zc zc,rfl,rfl⟩
  ·have q:=s j (by omega);rw[same j (by omega) zc] at q;exact absurd ((q.one d).1.symm) m
  ·have q:=i k (by omega);rw[← same k zc (by omega)] at q;exact absurd ((q.one n).1.symm) hf
  ·rcases Nat.lt_trichotomy k j with c|c|c
   ·have q:=i k c;rw[← same k zc (by omega)] at q;exact absurd ((q.one n).1.symm) hf
   ·subst c;rw[same k zc zc] at n;exact⟨rfl,rfl,(n.one d).1⟩
   ·have q:=s j c;rw[same j (by omega) zc] at q;exact absurd ((q.one d).1.symm) m
theorem run_more{k:Nat}{st:Nat→List Cm}(h:∀i,i<k→StepIs t (st i) (l.getD i ev0) (st (i+1)) 0)(hs:StepIs t (st k) (l.getD k ev0) bk 0):∃st':Nat→List Cm,st' 0=st 0∧st' (k+1)=bk∧(∀i,i<k+1→StepIs t (st' i) (l.getD i ev0) (st' (i+1)) 0):=by
 refine⟨λi=>if i≤k then st i else bk,if_pos (Nat.zero_le _),if_neg (by omega),λi a=>?_⟩;show StepIs t (if i≤k then st i else bk) _ (if i+1≤k then st (i+1) else bk) 0;by_cases e:i=k
 ·subst e;rw[if_pos zc,if_neg (by omega)];exact hs
 ·rw[if_pos (by omega),if_pos (by omega)];exact h i (by omega)
end book
namespace tar
open Go.RowKit
theorem wf_mid{z:Int}(h0:0≤z)(h1:z≤4000000000000):(Lit.int .i64 z).wf=true:=by
 have h1:IntKind.i64.min≤z:=by
  have e:IntKind.i64.min=-9223372036854775808:=by decide
  omega
 have a:z≤IntKind.i64.max:=by
  have e:IntKind.i64.max=9223372036854775807:=by decide
  omega
 show (decide (IntKind.i64.min≤z)&&decide (z≤IntKind.i64.max))=true;rw[Bool.and_eq_true];exact⟨decide_eq_true h1,decide_eq_true a⟩
theorem MostIs.got{l:List Du}{x m u p e:Int}(h:MostIs l x m u p e)(hR:Right l)(hM:MayMost x m):e=0∧MostOf l x m u∧p=cost l x (x+u):=by
 rcases h with⟨a,_⟩|⟨_,b,_⟩|⟨_,_,c,d⟩
 ·exact absurd hR a
 ·exact absurd hM b
 ·exact⟨c,d⟩
end tar
namespace deb
open tar (Du du0 Came RowD Ld ErrPost TwoPost PairT GaveD)
open Go.RowKit
structure Fresh (w:World) (base:Nat) (a:Option Addr) (len cap:Nat) (ls:List Du):Prop where
 came:Came w a len cap ls
 new:0<len→∀x,a=some x→base≤x.block
def RecPost(w:World)(l:List Du)(t bp:Int)(e:Ending)(w':World):Prop:=∃a len cap z p f,e=.returned (.tuple #[.slice a len cap,zI p,zI f])∧RecIs l t bp z p f∧Fresh w' w.heap.size a len cap z∧zB w w'
def AgePost(w:World)(l:List Du)(m:Int)(e:Ending)(w':World):Prop:=∃a len cap z f,e=.returned (.tuple #[.slice a len cap,zI f])∧AgeIs l m z f∧Fresh w' w.heap.size a len cap z∧zB w w'
variable{a:Option Addr}{l:List Du}{base:Nat}{w:World}{T:TypeId}
theorem Mays.wf(h:Mays l):∀x∈l,(Lit.int .i64 x.a).wf=true∧(Lit.int .i64 x.b).wf=true:=λx e=>by
 obtain⟨⟨c,f⟩,d,g⟩:=mem_fits h.2 x e;exact⟨tar.wf_mid c (by omega),tar.wf_mid d (by omega)⟩
theorem ld_mays{v:Value}(h:Ld T w base v l)(hm:Mays l):∃a cap,v=.slice a l.length cap∧Came w a l.length cap l:=h.came (by have:=hm.1;omega) hm.wf
theorem ld_new{n cap:Nat}(h:Ld T w base (.slice a n cap) l):0<n→∀x,a=some x→base≤x.block:=λc x b=>by
 subst b;exact(World.ownsRow.lt h x.block rfl).1
theorem ld_fresh{v:Value}(h:Ld T w base v l)(hm:Mays l):∃a cap,v=.slice a l.length cap∧Fresh w base a l.length cap l:=by
 obtain⟨a,cap,rfl,b⟩:=ld_mays h hm;exact⟨a,cap,rfl,b,ld_new h⟩
theorem Fresh.low{base base':Nat}{len cap:Nat}{ls:List Du}(h:Fresh w base a len cap ls)(hb:base'≤base):Fresh w base' a len cap ls:=⟨h.came,λb x c=>Nat.le_trans hb (h.new b x c)⟩
theorem Fresh.below{w w':World}{len cap:Nat}{ls:List Du}(h:Fresh w base a len cap ls)(hb:zB w w'):Fresh w' base a len cap ls:=⟨h.came.below hb,h.new⟩
theorem came_nil(w:World):Came w none 0 0 []:=⟨tar.RowD.nil _ _,λ_=>rfl,zc,by omega,λx a=>by cases a⟩
theorem fresh_nil(w:World)(base:Nat):Fresh w base none 0 0 []:=⟨came_nil w,λh=>absurd h (Nat.lt_irrefl _)⟩
end deb
namespace acc
open tar (Du du0 Came)
open Go.RowKit
def Ac.cs(x:Ac)(p:Option Addr)(len cap:Nat):Array Value:=#[zI x.me,zI x.rv,zI x.nx,zI x.mo,zI x.bo,zI x.fr,.slice p len cap]
def Ac.v(x:Ac)(p:Option Addr)(len cap:Nat):Value:=.agg (x.cs p len cap)
def Tm.v(t:Tm)(p:Option Addr)(len cap:Nat):Value:=.agg #[.slice p len cap,zI t.ff,zI t.fb,zI t.db,zI t.al]
def Bi.v(b:Bi):Value:=.agg #[zI b.id,zI b.te,zI b.de,zI b.fe,zI b.pr,zI b.ch,zI b.un]
def wf6(x:Ac):Prop:=(Lit.int .i64 x.me).wf=true∧(Lit.int .i64 x.rv).wf=true∧(Lit.int .i64 x.nx).wf=true∧(Lit.int .i64 x.mo).wf=true∧(Lit.int .i64 x.bo).wf=true∧(Lit.int .i64 x.fr).wf=true
def wf4(t:Tm):Prop:=(Lit.int .i64 t.ff).wf=true∧(Lit.int .i64 t.fb).wf=true∧(Lit.int .i64 t.db).wf=true∧(Lit.int .i64 t.al).wf=true
structure ACame (w:World) (x:Ac) (p:Option Addr) (len cap:Nat):Prop where
 ds:Came w p len cap x.ds
 wf:wf6 x
structure TCame (w:World) (t:Tm) (p:Option Addr) (len cap:Nat):Prop where
 ts:Came w p len cap t.ts
 wf:wf4 t
theorem ACame.below{w w':World}{x:Ac}{p:Option Addr}{len cap:Nat}(h:ACame w x p len cap)(hb:zB w w'):ACame w' x p len cap:=⟨h.ds.below hb,h.wf⟩
theorem TCame.below{w w':World}{t:Tm}{p:Option Addr}{len cap:Nat}(h:TCame w t p len cap)(hb:zB w w'):TCame w' t p len cap:=⟨h.ts.below hb,h.wf⟩
def APost(w:World)(R:Ac→Int→Prop)(e:Ending)(w':World):Prop:=∃b p len cap f,e=.returned (.tuple #[Ac.v b p len cap,zI f])∧R b f∧deb.Fresh w' w.heap.size p len cap b.ds∧zB w w'
def BPost(w:World)(R:Ac→Bi→Int→Prop)(e:Ending)(w':World):Prop:=∃b l p len cap f,e=.returned (.tuple #[Ac.v b p len cap,Bi.v l,zI f])∧R b l f∧deb.Fresh w' w.heap.size p len cap b.ds∧zB w w'
end acc
namespace disk
open Go.RowKit cell
theorem length_any(a:Option Addr)(n cap p:Nat)(c:List Int)(w:World)(h:RowU w a n c)(hn:n≤2048)(hp:p≤n)(hw:∀x∈c,0≤x∧x<4294967296):
  Calls Tryz.prog 132 #[.slice a n cap,zI (p:Int)] w λe w'=>e=.returned (zI (lenAt c p))∧w'=w:=by
 have l:=h.1;by_cases r:p=n
 ·have j:lenAt c p=0:=by unfold lenAt;rw[if_pos (.inl (by omega))]
  rw[j];have q:((p:Int)==(n:Int))=true:=by simp;omega
  clear j h hw l hp;go_enter Tryz.func132,Tryz.ntmps132;go_wp2_with fail;go_ret;exact⟨rfl,rfl⟩
 ·obtain⟨b,o,rfl,u,m⟩:=h.at (by omega);have c0:=m p (by omega);have t:p<n:=by omega
  have q:((p:Int)==(n:Int))=false:=by simp;omega
  have j:=hw (c.getD p 0) (by rw[List.getD_eq_getElem?_getD,List.getElem?_eq_getElem (by omega)];exact List.getElem_mem _);have i:Hid (lenAt c p=if p=c.length∨c.getD p 0=0 then 0 else if 64<c.getD p 0 then -1 else if (c.length:Int)≤p+c.getD p 0 then -1 else c.getD p 0):=rfl;have g:Hid (c.length=n):=l;generalize c.getD p 0=z at *;obtain⟨B,C⟩:=j;clear h hw m u hp r l;by_cases f:z=0
  ·have d:lenAt c p=0:=by rw[i.o,if_pos (.inr f)]
   rw[d];subst f;clear d;go_enter Tryz.func132,Tryz.ntmps132;go_wp2_with fail;go_ret;exact⟨rfl,rfl⟩
  ·have y:(z==0)=false:=by simpa using f
   by_cases k:64<z
   ·have d:lenAt c p=-1:=by rw[i.o,if_neg (by have:=g.o;omega),if_pos k]
    rw[d];clear d f;go_enter Tryz.func132,Tryz.ntmps132;go_wp2_with fail;go_ret;exact⟨rfl,rfl⟩
   ·have s:z≤64:=by omega
    by_cases A:(n:Int)≤p+z
    ·have d:lenAt c p=-1:=by rw[i.o,if_neg (by have:=g.o;omega),if_neg k,if_pos (by have:=g.o;omega)]
     rw[d];clear d f;go_enter Tryz.func132,Tryz.ntmps132;go_wp2_with fail;go_ret;exact⟨rfl,rfl⟩
    ·have d:lenAt c p=z:=by rw[i.o,if_neg (by have:=g.o;omega),if_neg k,if_neg (by have:=g.o;omega)]
     rw[d];clear d f;go_enter Tryz.func132,Tryz.ntmps132;go_wp2_with fail;go_ret;exact⟨rfl,rfl⟩
end disk
section
open Go.RowKit
theorem wp_runOp{P:Program}{o:Oper}{a:Act}{w w':World}{v:Value}{K:Act→World→Prop}{Q:Exit→Act→World→Prop}(d:Nat)(hd:o.dst=some d)(hrun:(execOp a.eval o).run P w=.ok (.value v) w')(h:K (a.put (some d) v) w'):o.wp P a w K Q:=by
 rw[← hd] at h;unfold Oper.wp;rw[hrun,Oper.upon_value];exact h
theorem wp_callOp{P:Program}{o:Oper}{a:Act}{w:World}{f:FuncId}{args:Array Value}{R:Ending→World→Prop}{K:Act→World→Prop}{Q:Exit→Act→World→Prop}(d:Nat)(hd:o.dst=some d)(hrun:(execOp a.eval o).run P w=.ok (.enter f args) w)(hc:Calls P f args w R)
  (h:∀e w',R e w'→∃v,e=.returned v∧K (a.put (some d) v) w'):o.wp P a w K Q:=by
 rw[← hd] at h;unfold Oper.wp;rw[hrun,Oper.upon_enter];refine hc.mono λe w' c=>?_;obtain⟨v,rfl,b⟩:=h e w' c;exact b
end
namespace acc
open tar (Du du0 Came RowD Ld PairT)
open Go.RowKit
variable{p:Option Addr}{l:List Du}{new:Array Value}{len cap:Nat}{w W:World}{t:TypeId}{g base:Nat}
theorem row_upd{g:Nat}{len:Nat}(h:RowD w p len l)(hU:Upd w W g new t)(hg:0<len→∀x,p=some x→x.block≠g):RowD W p len l:=by
 refine⟨h.1,?_⟩;rcases h.2 with d|⟨b,a,rfl,e⟩
 ·exact .inl d
 ·refine .inr ⟨b,a,rfl,λi f=>?_⟩;have c:b≠g:=hg (by omega) _ rfl;rw[hU.cell ⟨b,a+i*2,none⟩ c rfl,hU.cell ⟨b,a+i*2+1,none⟩ c rfl];exact e i f
theorem came_upd{g:Nat}(h:Came w p len cap l)(hU:Upd w W g new t)(hg:0<len→∀x,p=some x→x.block≠g):Came W p len cap l:=⟨row_upd h.row hU hg,h.nil,h.room,h.bytes,h.wf⟩
theorem fresh_upd(h:deb.Fresh w base p len cap l)(hU:Upd w W g new t)(hg:g<base):deb.Fresh W base p len cap l:=⟨came_upd h.came hU (λa x b=>by have:=h.new a x b;omega),h.new⟩
theorem fresh_updN(h:deb.Fresh w base p len cap l)(hU:Upd w W g new t)(hg:0<len→∀x,p=some x→x.block≠g):deb.Fresh W base p len cap l:=⟨came_upd h.came hU hg,h.new⟩
theorem fresh_drew{w:World}{base:Nat}(h:deb.Fresh w base p len cap l):deb.Fresh w.drew base p len cap l:=⟨⟨h.came.row,h.came.nil,h.came.room,h.came.bytes,h.came.wf⟩,h.new⟩
theorem ld_upd{T:TypeId}{v:Value}(h:Ld T w base v l)(hU:Upd w W g new t)(hg:g<base):Ld T W base v l:=by
 refine⟨h.1,?_⟩;rcases h.2 with d|⟨q,a,b,f,e,c,rest⟩
 ·exact .inl d
 ·exact .inr ⟨q,a,b,f,e,hU.keep c (by omega),rest⟩
theorem ld_ne{T t:TypeId}{w:World}{base G n cap:Nat}{a:Option Addr}{cs:Array Value}(h:Ld T w base (.slice a n cap) l)(hB:Blk w G cs t)(ht:t≠T):0<n→∀x,a=some x→x.block≠G:=λm x j e=>by
 rcases h.2 with⟨c,_⟩|⟨q,k,d,c,o,i,_⟩
 ·injection c with h1 h2 h3
  omega
 ·injection c with h1 h2 h3
  rw[j] at h1;have g:=Option.some.inj h1;subst g;have f:=e;subst f;have b:=i;unfold Blk at hB b;rw[hB] at b;injection b with h5
  injection h5 with _ h6
  exact ht h6
theorem came_lt{w:World}(h:Came w p len cap l):0<len→∀x,p=some x→x.block<w.heap.size:=λd x a=>by
 obtain⟨b,f,e,c,_⟩:=h.row.at d;rw[e] at a;cases a;exact c
end acc
namespace ora
open Go.RowKit
theorem in_yes(n lo hi:Int)(w:World)(h1:lo≤n)(h2:n≤hi):
  Calls Tryz.prog 47 #[zI n,zI lo,zI hi] w λe w'=>e=.returned (.bool true)∧w'=w:=by
 go_enter Tryz.func47,Tryz.ntmps47;go_wp2;go_ret;exact⟨rfl,rfl⟩
theorem in_no(n lo hi:Int)(w:World)(h:n<lo∨hi<n):
  Calls Tryz.prog 47 #[zI n,zI lo,zI hi] w λe w'=>e=.returned (.bool false)∧w'=w:=by
 by_cases a:n<lo
 ·clear h;go_enter Tryz.func47,Tryz.ntmps47;go_wp2;go_ret;exact⟨rfl,rfl⟩
 ·have b:lo≤n:=by omega
  have c:decide (n≤hi)=false:=by simp;omega
  clear h a;go_enter Tryz.func47,Tryz.ntmps47;go_wp2;go_ret;exact⟨rfl,rfl⟩
theorem pairMay_any(m r b t:Int)(w:World):
  Calls Tryz.prog 54 #[.agg #[zI m,zI r,zI b,zI t]] w λe w'=>Told w (Pr.mk m r b t).may e w':=by
 have l:=Blk.new w #[zI m,zI r,zI b,zI t] 87;have c0:=l.cell 0;have c1:=l.cell 1;have c2:=l.cell 2;have y:=l.cell 3;have k:Hid (zB w (w.alloc (.cells #[zI m,zI r,zI b,zI t] 87))):=zb.alloc zc _;clear l;by_cases c:0≤m∧m≤49
 ·have g:Hid (∀W,zC 47 #[zI m,zI 0,zI 49] W λe w'=>e=.returned (.bool true)∧w'=W):=λW=>in_yes _ _ _ W c.1 c.2;by_cases d:0≤r∧r≤15
  ·have j:Hid (∀W,zC 47 #[zI r,zI 0,zI 15] W λe w'=>e=.returned (.bool true)∧w'=W):=λW=>in_yes _ _ _ W d.1 d.2;by_cases f:0≤b∧b≤8796093022207
   ·have n:Hid (∀W,zC 47 #[zI b,zI 0,zI 8796093022207] W λe w'=>e=.returned (.bool true)∧w'=W):=λW=>in_yes _ _ _ W f.1 f.2;by_cases i:0≤t∧t≤65535
    ·have q:Hid (∀W,zC 47 #[zI t,zI 0,zI 65535] W λe w'=>e=.returned (.bool true)∧w'=W):=λW=>in_yes _ _ _ W i.1 i.2;have a:Hid ((Pr.mk m r b t).may):=⟨c,d,f,i⟩
     clear c d f i;go_enter Tryz.func54,Tryz.ntmps54;go_wp2_with fail;refine(g.o _).mono ?_;rintro e p ⟨rfl,rfl⟩;go_wp2_with fail;refine(j.o _).mono ?_;rintro e s ⟨rfl,rfl⟩;go_wp2_with fail;refine(n.o _).mono ?_;rintro e u ⟨rfl,rfl⟩;go_wp2_with fail;refine(q.o _).mono ?_;rintro e x ⟨rfl,rfl⟩;go_wp2_with fail;go_ret;exact Told.yes a.o k.o
    ·have q:Hid (∀W,zC 47 #[zI t,zI 0,zI 65535] W λe w'=>e=.returned (.bool false)∧w'=W):=λW=>in_no _ _ _ W (by omega);have a:Hid (¬ (Pr.mk m r b t).may):=λh=>i h.2.2.2;clear c d f i;go_enter Tryz.func54,Tryz.ntmps54;go_wp2_with fail;refine(g.o _).mono ?_;rintro e p ⟨rfl,rfl⟩;go_wp2_with fail;refine(j.o _).mono ?_;rintro e s ⟨rfl,rfl⟩;go_wp2_with fail;refine(n.o _).mono ?_;rintro e u ⟨rfl,rfl⟩;go_wp2_with fail;refine(q.o _).mono ?_;rintro e x ⟨rfl,rfl⟩;go_wp2_with fail;go_ret;exact Told.no a.o k.o
   ·have n:Hid (∀W,zC 47 #[zI b,zI 0,zI 8796093022207] W λe w'=>e=.returned (.bool false)∧w'=W):=λW=>in_no _ _ _ W (by omega);have a:Hid (¬ (Pr.mk m r b t).may):=λh=>f h.2.2.1;clear c d f;go_enter Tryz.func54,Tryz.ntmps54;go_wp2_with fail;refine(g.o _).mono ?_;rintro e p ⟨rfl,rfl⟩;go_wp2_with fail;refine(j.o _).mono ?_;rintro e s ⟨rfl,rfl⟩;go_wp2_with fail;refine(n.o _).mono ?_;rintro e u ⟨rfl,rfl⟩;go_wp2_with fail;go_ret;exact Told.no a.o k.o
  ·have j:Hid (∀W,zC 47 #[zI r,zI 0,zI 15] W λe w'=>e=.returned (.bool false)∧w'=W):=λW=>in_no _ _ _ W (by omega);have a:Hid (¬ (Pr.mk m r b t).may):=λh=>d h.2.1;clear c d;go_enter Tryz.func54,Tryz.ntmps54;go_wp2_with fail;refine(g.o _).mono ?_;rintro e p ⟨rfl,rfl⟩;go_wp2_with fail;refine(j.o _).mono ?_;rintro e s ⟨rfl,rfl⟩;go_wp2_with fail;go_ret;exact Told.no a.o k.o
 ·have g:Hid (∀W,zC 47 #[zI m,zI 0,zI 49] W λe w'=>e=.returned (.bool false)∧w'=W):=λW=>in_no _ _ _ W (by omega);have a:Hid (¬ (Pr.mk m r b t).may):=λh=>c h.1;clear c;go_enter Tryz.func54,Tryz.ntmps54;go_wp2_with fail;refine(g.o _).mono ?_;rintro e p ⟨rfl,rfl⟩;go_wp2_with fail;go_ret;exact Told.no a.o k.o
theorem tagged_any(a:Option Addr)(n cap:Nat)(l:List Pr)(m r b:Int)(w:World)(hr:RowP w a n l)(hn:n≤9223372036854775807):
  Calls Tryz.prog 56 #[.agg #[.slice a n cap],zI m,zI r,zI b] w λe w'=>TagPost w l m r b e w':=by
 have E:Hid (Bo w (w.alloc (.cells #[.slice a n cap] 28)) a n cap l):=Bo.new hr;have I:Hid (l.length=n):=hr.1;clear hr;go_enter Tryz.func56,Tryz.ntmps56;go_wp2_with fail;generalize w.alloc (.cells #[.slice a n cap] 28)=S at *;go_loopw [9] (λj wr=>∃k:Nat,k≤n∧j=zI (k:Int)∧Hid (∀i,i<k→¬ (l.getD i pr0).key m r b)∧Bo w wr a n cap l) (λj _=>n-(intOf j).toNat)
 case atStart=>exact⟨0,Nat.zero_le _,rfl,λi K=>absurd K (Nat.not_lt_zero _),E.o⟩
 case round=>
  obtain⟨k,X,rfl,D,x⟩:=hrel;have B:Hid (Bo w wr a n cap l):=x;clear x;have c0:=B.o.box.cell 0;by_cases y:k<n
  ·obtain⟨O,H,rfl,_,J⟩:=B.o.row.at (by omega);obtain⟨T,U,V,W⟩:=J k y;have c:Hid ((l.getD k pr0).key m r b↔(l.getD k pr0).m=m∧(l.getD k pr0).r=r∧(l.getD k pr0).b=b):=Iff.rfl
   have q:Hid (¬ (l.getD k pr0).key m r b→∀i,i<k+1→¬ (l.getD i pr0).key m r b):=λG i K=>by
    by_cases e:i=k
    ·subst e;exact G
    ·exact D.o i (by omega)
   have F:Hid ((l.getD k pr0).key m r b→At l m r b k):=λG=>⟨by rw[I.o];exact y,G,D.o⟩;clear J;generalize (l.getD k pr0).key m r b=N at *;generalize (l.getD k pr0).m=A at *;generalize (l.getD k pr0).r=d at *;generalize (l.getD k pr0).b=z at *;generalize (l.getD k pr0).t=M at *;have C:=Blk.new wr #[zI A,zI d,zI z,zI M] 87;have Y:=C.cell 0;have Z:=C.cell 1;have n2:=C.cell 2;have g:Hid (Bo w (wr.alloc (.cells #[zI A,zI d,zI z,zI M] 87)) (some ⟨O,H,none⟩) n cap l):=B.o.alloc _;clear C;by_cases p:A=m
   ·have P:(A==m)=true:=by simp[p]
    by_cases s:d=r
    ·have Q:(d==r)=true:=by simp[s]
     by_cases u:z=b
     ·have R:(z==b)=true:=by simp[u]
      have f:Hid (At l m r b k):=F.o (c.o.2 ⟨p,s,u⟩);clear p s u;go_wp2_with fail;go_ret;exact⟨g.o.bel,.inl ⟨k,f.o,rfl⟩⟩
     ·have R:(z==b)=false:=by simp[u]
      have f:Hid (∀i,i<k+1→¬ (l.getD i pr0).key m r b):=q.o λh=>u (c.o.1 h).2.2;clear p s u;go_wp2_with fail;go_roundw
      case rel=>exact⟨k+1,by omega,by go_num,f,g.o⟩
      case measure=>simp[intOf];omega
    ·have Q:(d==r)=false:=by simp[s]
     have f:Hid (∀i,i<k+1→¬ (l.getD i pr0).key m r b):=q.o λh=>s (c.o.1 h).2.1;clear p s;go_wp2_with fail;go_roundw
     case rel=>exact⟨k+1,by omega,by go_num,f,g.o⟩
     case measure=>simp[intOf];omega
   ·have P:(A==m)=false:=by simp[p]
    have f:Hid (∀i,i<k+1→¬ (l.getD i pr0).key m r b):=q.o λh=>p (c.o.1 h).1;clear p;go_wp2_with fail;go_roundw
    case rel=>exact⟨k+1,by omega,by go_num,f,g.o⟩
    case measure=>simp[intOf];omega
  ·obtain rfl:n=k:=by omega
   have f:Hid (No l m r b):=λj L=>D.o j (by rw[I.o] at L;exact L);go_wp2_with fail;go_ret;exact⟨B.o.bel,.inr ⟨f.o,rfl⟩⟩
end ora
namespace cell
open Go.RowKit
theorem words_law(a b:Option Addr)(n c1 c2:Nat)(zs:List Int)(w:World)(h1:RowU w a n zs)(h2:RowU w b n zs)(hn:n≤maxLen):
  Calls Tryz.prog 13 #[.slice a n c1,.slice b n c2] w λe w'=>e=.returned (.bool true)∧zB w w':=by
 have t:((n:Int) != (n:Int))=false:=by simp
 unfold maxLen at hn;go_enter Tryz.func13,Tryz.ntmps13;go_wp2_with fail;go_loopw [5] (λi wr=>∃k:Nat,k≤n∧i=zI k∧zB w wr) (λi _=>n-(intOf i).toNat)
 case atStart=>exact⟨0,Nat.zero_le _,rfl,zb⟩
 case round=>
  obtain⟨k,u,rfl,g⟩:=hrel;by_cases f:k<n
  ·obtain⟨h,o,rfl,l,c⟩:=h1.at (by omega);obtain⟨j,q,rfl,m,d⟩:=h2.at (by omega);have r:wr.cell? ⟨h,o+k,none⟩=some (.int .u32 (zs.getD k 0)):=(g.cell (p:=⟨h,o+k,none⟩) l).trans (c k f);have s:wr.cell? ⟨j,q+k,none⟩=some (.int .u32 (zs.getD k 0)):=(g.cell (p:=⟨j,q+k,none⟩) m).trans (d k f);clear c d h1 h2 l m;generalize zs.getD k 0=z at r s;have x:(z != z)=false:=by simp
   go_wp2_with fail;go_region
   all_goals go_wp2_with fail
   go_roundw
   case rel=>exact⟨k+1,by omega,by go_num,g.drew⟩
   case measure=>simp[intOf];omega
  ·go_wp2_with fail;go_ret;exact⟨rfl,g⟩
end cell
namespace words
open Go.RowKit
abbrev Wat(w:World)(G:Nat)(x:W3):Prop:=Trio w G (.int .u32 x.a) (.int .u32 x.b) (.int .u32 x.c)
variable{y0 y1 y2:Value}{G:Nat}
theorem Trio.lt{w:World}(h:Trio w G y0 y1 y2):G<w.heap.size:=by
 by_cases a:G<w.heap.size
 ·exact a
 ·unfold Trio at h;rw[Array.getElem?_eq_none (by omega)] at h;cases h
theorem Trio.below{w w':World}(h:Trio w G y0 y1 y2)(hb:zB w w'):Trio w' G y0 y1 y2:=by
 have a:=h.lt;unfold Trio at *;rw[hb.block G a];exact h
abbrev put3(w:World)(G:Nat)(a b c:Value):World:=((w.setCell ⟨G,0,none⟩ a).setCell ⟨G,1,none⟩ b).setCell ⟨G,2,none⟩ c
theorem Trio.put{w:World}(h:Trio w G y0 y1 y2)(a b c:Value):Trio (put3 w G a b c) G a b c:=((h.set0 a).set1 b).set2 c
theorem below_put3{B:Nat}{w w':World}(h:Below B w w')(G:Nat)(u v x:Value)(hG:B≤G):Below B w (put3 w' G u v x):=below_set (below_set (below_set h G 0 u hG) G 1 v hG) G 2 x hG
theorem agg_ne{x y:W3}(h:x≠y):¬ (x.a=y.a∧x.b=y.b∧x.c=y.c):=λ⟨h1,h2,h3⟩=>h (by cases x;cases y;simp_all)
end words
namespace token
open Go.RowKit
theorem bel_box(w:World)(o:Obj):zB w (w.alloc o):=zb.alloc zc o
end token
namespace words
open Go.RowKit
theorem cutWord_any(B:Nat)(n:Int)(w:World)(hc:w.cell? ⟨B,0,none⟩=some (.int .u64 n))(hf:w.frozen? ⟨B,0,none⟩=false):
  Calls Tryz.prog 167 #[.pointer (some ⟨B,0,none⟩)] w λe w'=>e=.returned (.int .u32 (n%4294967296))∧w'=w.setCell ⟨B,0,none⟩ (.int .u64 (n/4294967296)):=by
 go_enter Tryz.func167,Tryz.ntmps167;go_wp2;go_ret;exact⟨rfl,rfl⟩
theorem timesStep_any(B M:Nat)(n x m:Int)(w:World)(hc:w.cell? ⟨B,0,none⟩=some (.int .u64 n))(hf:w.frozen? ⟨B,0,none⟩=false)(hm:w.cell? ⟨M,0,none⟩=some (.int .u32 m))(h0:0≤n)(h1:n<4294967296)(x0:0≤x)(x1:x<4294967296)(m0:0≤m)(m1:m<4294967296):
  Calls Tryz.prog 166 #[.int .u32 x,.pointer (some ⟨B,0,none⟩),.pointer (some ⟨M,0,none⟩)] w λe w'=>e=.returned (.int .u32 ((n+x*m)%4294967296))∧Acc w w' B (.int .u64 ((n+x*m)/4294967296)):=by
 have a:Acc w w B (.int .u64 n):=Acc.refl hc hf;have b:Hid (Acc w w B (.int .u64 n)):=a;obtain⟨c,d⟩:=prod_bd x0 x1 m0 m1;clear a;go_enter Tryz.func166,Tryz.ntmps166;go_wp2_with fail;refine(cutWord_any B (n+x*m) _ (by apply World.cell?_setCell_same;exact hc) (by rw[World.frozen?_setCell];exact hf)).mono ?_;rintro e w' ⟨rfl,rfl⟩;go_wp2_with fail;go_ret;exact⟨rfl,(b.o.set _).set _⟩
end words
namespace deb
open tar (Du du0 Came RowD Ld ErrPost TwoPost PairT GaveD)
open Go.RowKit
theorem dwithin(lo hi n:Int)(w:World):Calls Tryz.prog 145 #[zI lo,zI hi,zI n] w λe w'=>e=.returned (.bool (decide (lo≤n∧n≤hi)))∧w'=w:=by
 by_cases b:lo≤n
 ·by_cases c:n≤hi
  ·have a:decide (lo≤n∧n≤hi)=true:=by simp;omega
   rw[a];clear a;go_enter Tryz.func145,Tryz.ntmps145;go_wp2;go_ret;exact⟨rfl,rfl⟩
  ·have a:decide (lo≤n∧n≤hi)=false:=by simp;omega
   have d:decide (n≤hi)=false:=by simp;omega
   rw[a];clear a c;go_enter Tryz.func145,Tryz.ntmps145;go_wp2;go_ret;exact⟨rfl,rfl⟩
 ·have a:decide (lo≤n∧n≤hi)=false:=by simp;omega
  have d:decide (lo≤n)=false:=by simp;omega
  rw[a];clear a b;go_enter Tryz.func145,Tryz.ntmps145;go_wp2;go_ret;exact⟨rfl,rfl⟩
theorem pcheck(a:Option Addr)(n cap:Nat)(ls:List Du)(w:World)(hr:RowD w a n ls)(hn:n≤maxLen):Calls Tryz.prog 142 #[.slice a n cap] w λe w'=>∃f,e=.returned (zI f)∧FaultIs ls f∧zB w w':=by
 have c:=hr.1;have J:Hid (∀x W,zC 145 #[zI 0,zI 1000000000,zI x] W λe w'=>e=.returned (.bool (decide (0≤x∧x≤1000000000)))∧w'=W):=λx W=>dwithin 0 1000000000 x W;have I:Hid (∀x W,zC 145 #[zI 0,zI 10000,zI x] W λe w'=>e=.returned (.bool (decide (0≤x∧x≤10000)))∧w'=W):=λx W=>dwithin 0 10000 x W;have R:n≤9223372036854775807:=by unfold maxLen at hn;omega
 by_cases O:n≤8
 ·have B:Hid (ls.length≤8):=by show _≤_;rw[c];exact O
  have M:decide (8<(n:Int))=false:=decide_eq_false (by omega);have A:Hid (RowD w a n ls):=hr;have d:Hid (ls.length=n):=c;clear hr hn c;go_enter Tryz.func142,Tryz.ntmps142;go_wp2_with fail;go_loopw [10] (λx wr=>∃k:Nat,k≤n∧x=zI (k:Int)∧(∀i,i<k→Ok1 (ls.getD i du0))∧zB w wr) (λx _=>n-(intOf x).toNat)
  case atStart=>exact⟨0,Nat.zero_le _,rfl,λi E=>absurd E (Nat.not_lt_zero _),zb⟩
  case round=>
   obtain⟨k,S,rfl,hf,t⟩:=hrel;have P:Hid (∀i,i<k→Ok1 (ls.getD i du0)):=hf;have Q:Hid (zB w wr):=t;clear hf;by_cases j:k<n
   ·have N:decide ((k:Int)<(n:Int))=true:=by simp;omega
    obtain⟨b,m,rfl,D,L⟩:=A.o.at (by omega);have c0:wr.cell? ⟨b,m+k*2,none⟩=some (zI (ls.getD k du0).a):=(t.cell (p:=⟨b,m+k*2,none⟩) D).trans (L k j).1;have c1:wr.cell? ⟨b,m+k*2+1,none⟩=some (zI (ls.getD k du0).b):=(t.cell (p:=⟨b,m+k*2+1,none⟩) D).trans (L k j).2;have r:Hid (∀o,zB w (wr.alloc o)):=λo=>t.alloc t.size o;clear t L;have C:=J.o (ls.getD k du0).a;have F:=I.o (ls.getD k du0).b;by_cases u:0≤(ls.getD k du0).a∧(ls.getD k du0).a≤1000000000
    ·rw[decide_eq_true u] at C;by_cases z:0≤(ls.getD k du0).b∧(ls.getD k du0).b≤10000
     ·
      rw[decide_eq_true z] at F
      have G:Hid (∀i,i<k+1→Ok1 (ls.getD i du0)):=λi E=>by
       by_cases e:i=k
       ·subst e;exact⟨u,z⟩
       ·exact P.o i (by omega)
      have g:Hid (∀W,zC 145 #[zI 0,zI 1000000000,zI (ls.getD k du0).a] W λe w'=>e=.returned (.bool true)∧w'=W):=C;have s:Hid (∀W,zC 145 #[zI 0,zI 10000,zI (ls.getD k du0).b] W λe w'=>e=.returned (.bool true)∧w'=W):=F;clear u z;generalize (ls.getD k du0).a=x at *;generalize (ls.getD k du0).b=y at *;go_wp2_with fail;refine(g.o _).mono ?_;rintro e q ⟨rfl,l⟩;subst q;go_wp2_with fail;refine(s.o _).mono ?_;rintro e q ⟨rfl,l⟩;subst q;go_wp2_with fail;go_roundw
      case rel=>exact⟨k+1,by omega,by go_num,G.o,r.o _⟩
      case measure=>simp[intOf];omega
     ·
      rw[decide_eq_false z] at F;have K:Hid (¬ DFits ls):=λh=>z (h k (by rw[d.o];exact j)).2;have g:Hid (∀W,zC 145 #[zI 0,zI 1000000000,zI (ls.getD k du0).a] W λe w'=>e=.returned (.bool true)∧w'=W):=C;have s:Hid (∀W,zC 145 #[zI 0,zI 10000,zI (ls.getD k du0).b] W λe w'=>e=.returned (.bool false)∧w'=W):=F;clear u z;generalize (ls.getD k du0).a=x at *;generalize (ls.getD k du0).b=y at *;go_wp2_with fail;refine(g.o _).mono ?_;rintro e q ⟨rfl,l⟩;subst q;go_wp2_with fail;refine(s.o _).mono ?_;rintro e q ⟨rfl,l⟩;subst q;go_wp2_with fail;go_ret;exact⟨_,rfl,.inr (.inl ⟨B.o,K.o,rfl⟩),r.o _⟩
    ·
     rw[decide_eq_false u] at C;have K:Hid (¬ DFits ls):=λh=>u (h k (by rw[d.o];exact j)).1;have g:Hid (∀W,zC 145 #[zI 0,zI 1000000000,zI (ls.getD k du0).a] W λe w'=>e=.returned (.bool false)∧w'=W):=C;clear u;generalize (ls.getD k du0).a=x at *;generalize (ls.getD k du0).b=y at *;go_wp2_with fail;refine(g.o _).mono ?_;rintro e q ⟨rfl,l⟩;subst q;go_wp2_with fail;go_ret;exact⟨_,rfl,.inr (.inl ⟨B.o,K.o,rfl⟩),r.o _⟩
   ·obtain rfl:k=n:=by omega
    have N:decide ((k:Int)<(k:Int))=false:=by simp
    have H:Hid (DFits ls):=λi E=>P.o i (by rw[d.o] at E;exact E);clear t;go_wp2_with fail;go_ret;exact⟨_,rfl,.inr (.inr ⟨⟨B.o,H.o⟩,rfl⟩),Q.o⟩
 ·have B:Hid (¬ ls.length≤8):=by show ¬ _≤_;rw[c];exact O
  have M:decide (8<(n:Int))=true:=decide_eq_true (by omega);clear O hr c hn;go_enter Tryz.func142,Tryz.ntmps142;go_wp2_with fail;go_ret;exact⟨_,rfl,.inl ⟨B.o,rfl⟩,zb⟩
end deb
namespace tar
open Go.RowKit
def KtCheck:Prop:=∀(W:World)(a:Option Addr)(len cap:Nat)(ls:List Du),Came W a len cap ls→zC 101 #[.slice a len cap] W λe w'=>ErrPost W (FaultIs ls) e w'
end tar
namespace words
open Go.RowKit
theorem downward_any(K:Nat)(caps:Array Value)(B:Nat)(v0 v1 v2 v3:Value)(x0 x1 x2 y0 y1 y2:Int)(w:World)(h:Acc w w B v0)(hK:∀args w,(callFunc K args).run Tryz.prog w=.ok (.enter K args) w)
  (s0:∀w',Acc w w' B v0→zC K (#[.int .u32 x2]++caps) w' λe w''=>e=.returned (.int .u32 y2)∧Acc w' w'' B v1)
  (s1:∀w',Acc w w' B v1→zC K (#[.int .u32 x1]++caps) w' λe w''=>e=.returned (.int .u32 y1)∧Acc w' w'' B v2)
  (s2:∀w',Acc w w' B v2→zC K (#[.int .u32 x0]++caps) w' λe w''=>e=.returned (.int .u32 y0)∧Acc w' w'' B v3):
  Calls Tryz.prog 168 #[.agg #[.int .u32 x0,.int .u32 x1,.int .u32 x2],.func (.func K) #[] caps] w λe w'=>e=.returned (.agg #[.int .u32 y0,.int .u32 y1,.int .u32 y2])∧Acc w w' B v3:=by
 have u:Hid (∀w',Acc w w' B v0→zC K (#[.int .u32 x2]++caps) w' λe w''=>e=.returned (.int .u32 y2)∧Acc w' w'' B v1):=s0;have x:Hid (∀w',Acc w w' B v1→zC K (#[.int .u32 x1]++caps) w' λe w''=>e=.returned (.int .u32 y1)∧Acc w' w'' B v2):=s1;have y:Hid (∀w',Acc w w' B v2→zC K (#[.int .u32 x0]++caps) w' λe w''=>e=.returned (.int .u32 y0)∧Acc w' w'' B v3):=s2;have q:Hid (Acc w w B v0):=h;clear s0 s1 s2 h;go_enter Tryz.func168,Tryz.ntmps168;go_wp2_with fail;refine wp_loop_rounds 4 ?_;rw[rounds_succ];go_wp2_with fail;refine(u.o _ ((q.o.alloc _).alloc _)).mono ?_;rintro e i ⟨rfl,m⟩;have X:=q.o.old;have j:Trio i w.heap.size (.int .u32 x0) (.int .u32 x1) (.int .u32 x2):=(trio_a _ _ _ _ _).acc m (by omega);have G:Trio i (w.heap.size+1) (.int .u32 0) (.int .u32 0) (.int .u32 0):=(trio_b _ _ _ _ _).acc m (by omega);have D:=((q.o.alloc _).alloc _).trans m;have c2:=j.c2;have P:=j.free 2;have c:=j.set2 (.int .u32 y2);have M:=c.c1;have z:Hid (Trio (i.setCell ⟨w.heap.size,2,none⟩ (.int .u32 y2)) w.heap.size (.int .u32 x0) (.int .u32 x1) (.int .u32 y2)):=c;have s:Hid (Trio (i.setCell ⟨w.heap.size,2,none⟩ (.int .u32 y2)) (w.heap.size+1) (.int .u32 0) (.int .u32 0) (.int .u32 0)):=G.other _ _ (by omega);have f:Hid (Acc w (i.setCell ⟨w.heap.size,2,none⟩ (.int .u32 y2)) B v1):=D.setNew _ _ _ zc;clear m j G D c;go_wp2_with fail;rw[rounds_succ];go_wp2_with fail;refine(x.o _ f.o).mono ?_;rintro e C ⟨rfl,n⟩;have k:=z.o.acc n (by omega);have H:=s.o.acc n (by omega);have E:=f.o.trans n;clear c2 P M n;have c1:=k.c1;have O:=k.free 1;have d:=k.set1 (.int .u32 y1);have N:=d.c0;have z:Hid (Trio (C.setCell ⟨w.heap.size,1,none⟩ (.int .u32 y1)) w.heap.size (.int .u32 x0) (.int .u32 y1) (.int .u32 y2)):=d;have s:Hid (Trio (C.setCell ⟨w.heap.size,1,none⟩ (.int .u32 y1)) (w.heap.size+1) (.int .u32 0) (.int .u32 0) (.int .u32 0)):=H.other _ _ (by omega)
 have g:Hid (Acc w (C.setCell ⟨w.heap.size,1,none⟩ (.int .u32 y1)) B v2):=E.setNew _ _ _ zc;clear k H E d;go_wp2_with fail;rw[rounds_succ];go_wp2_with fail;refine(y.o _ g.o).mono ?_;rintro e J ⟨rfl,p⟩;have l:=z.o.acc p (by omega);have I:=s.o.acc p (by omega);have F:=g.o.trans p;clear c1 O N p;have c0:=l.c0;have T:=l.free 0;have b:=l.set0 (.int .u32 y0);have a:=I.other (G':=w.heap.size) 0 (.int .u32 y0) (by omega);have Q:=b.c0;have R:=b.c1;have S:=b.c2;have Y:=a.c0;have Z:=a.c1;have r2:=a.c2;have U:=a.free 0;have V:=a.free 1;have W:=a.free 2;have t:Hid (Trio (J.setCell ⟨w.heap.size,0,none⟩ (.int .u32 y0)) (w.heap.size+1) (.int .u32 0) (.int .u32 0) (.int .u32 0)):=a;have r:Hid (Acc w (J.setCell ⟨w.heap.size,0,none⟩ (.int .u32 y0)) B v3):=F.setNew _ _ _ zc;clear l I F b a;go_wp2_with fail;rw[rounds_succ];go_wp2_with fail;have A:=((t.o.set0 (.int .u32 y0)).set1 (.int .u32 y1)).set2 (.int .u32 y2);have L:=((r.o.setNew (w.heap.size+1) 0 (.int .u32 y0) (by omega)).setNew (w.heap.size+1) 1 (.int .u32 y1) (by omega)).setNew (w.heap.size+1) 2 (.int .u32 y2) (by omega);refine bodyPost_ret (v:=.agg #[.int .u32 y0,.int .u32 y1,.int .u32 y2]) (by simp[results,Tryz.results168,A.c0,A.c1,A.c2,go_sem]) rfl ⟨rfl,L⟩
end words
end Go.Proofs.YtoepgdhiepedeaaGreatDoor
