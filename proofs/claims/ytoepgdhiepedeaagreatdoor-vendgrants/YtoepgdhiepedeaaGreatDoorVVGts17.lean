import Derived.Test.YtoepgdhiepedeaaGreatDoorVVGts11
import Derived.Test.YtoepgdhiepedeaaGreatDoorVVGts12
import Derived.Test.YtoepgdhiepedeaaGreatDoorVVGts14
import Derived.Test.YtoepgdhiepedeaaGreatDoorVVGts16
set_option linter.unusedVariables false
set_option linter.unusedSimpArgs false
set_option maxHeartbeats 4000000
set_option maxRecDepth 100000
namespace Go.Proofs.YtoepgdhiepedeaaGreatDoor
namespace vnd
open disk (RepIs AppIs May repD lenAt)
open book (Ev ev0 EMay evL evOf EncIs DecIs Cm cm0 So so0 BookIs FirstAt NoneAt Tells billOf soldOf)
open acc (Ac Tm Bi SellIs GrantIs RekeyIs OweIs)
open ora (Pr IssueIs)
open cell (Wr)
open rcp (Rc rc0)
open token (Tok fmtL)
def DecOk(z:List Int):Prop:=z.length=13∧EMay (evOf z)
variable{c:List Int}{ls ls':List Wr}{f f':Int}{z:List Int}{r r':Rc}{v:Ev}
theorem DecOk.zero{e:Int}(h:DecOk z)(hd:DecIs z v e):e=0∧v=evOf z:=by
 rcases hd with⟨p,_⟩|⟨_,q,_⟩|⟨_,_,r,s⟩
 ·exact absurd h.1 p
 ·exact absurd h.2 q
 ·exact⟨s,r⟩
theorem dec_ok(hd:DecIs z v 0):DecOk z∧v=evOf z:=by
 rcases hd with⟨_,_,r⟩|⟨_,_,_,r⟩|⟨p,q,r,_⟩
 ·cases r
 ·cases r
 ·exact⟨⟨p,q⟩,r⟩
theorem dec_no{e:Int}(hd:DecIs z v e)(h:e≠0):v=ev0:=by
 rcases hd with⟨_,r,_⟩|⟨_,_,r,_⟩|⟨_,_,_,r⟩
 ·exact r
 ·exact r
 ·exact absurd r h
def KeptIs(c:List Int)(l:List Ev)(e:Int):Prop:=
 ∃ o x f,RepIs c o x f∧((f≠0∧l=[]∧e=f)∨(f=0∧(∀ j,j<o.length→DecOk (o.getD j []))∧l=o.map evOf∧e=0) ∨
  (f=0∧e≠0∧l=[]∧∃ k,k<o.length∧(∀ j,j<k→DecOk (o.getD j []))∧DecIs (o.getD k []) ev0 e))
theorem KeptIs.one{l l':List Ev}{e e':Int}(h:KeptIs c l e)(h':KeptIs c l' e'):l=l'∧e=e':=by
 obtain⟨o,x,f,r,h⟩:=h;obtain⟨y,z,u,d,h'⟩:=h';obtain⟨rfl,rfl,rfl⟩:=r.one d;rcases h with⟨p,rfl,rfl⟩|⟨p,q,rfl,rfl⟩|⟨p,q,rfl,k,s,t,m⟩<;>rcases h' with⟨n,rfl,rfl⟩|⟨n,b,rfl,rfl⟩|⟨n,b,rfl,g,i,j,a⟩<;>first|exact⟨rfl,rfl⟩|contradiction|skip
 ·exact absurd ((q g i).zero a).1 b
 ·exact absurd ((b k s).zero m).1 q
 ·rcases Nat.lt_trichotomy k g with c|c|c
  ·exact absurd ((j k c).zero m).1 q
  ·subst c;exact⟨rfl,(m.one a).2⟩
  ·exact absurd ((t g c).zero a).1 b
def LoadIs(t:Tm)(c:List Int)(bk:List Cm)(f:Int):Prop:=∃l e,KeptIs c l e∧((e≠0∧bk=[]∧f=e)∨(e=0∧∃a,BookIs t l bk a f))
theorem LoadIs.one{t:Tm}{b b':List Cm}(h:LoadIs t c b f)(h':LoadIs t c b' f'):b=b'∧f=f':=by
 obtain⟨l,e,i,h⟩:=h;obtain⟨n,m,d,h'⟩:=h';obtain⟨rfl,rfl⟩:=i.one d;rcases h with⟨p,rfl,rfl⟩|⟨p,a,q⟩<;>rcases h' with⟨j,rfl,rfl⟩|⟨j,k,g⟩<;>first|exact⟨rfl,rfl⟩|contradiction|exact⟨(q.one g).1,(q.one g).2.2⟩
def KeepIs(c:List Int)(v:Ev)(ls:List Wr)(f:Int):Prop:=
 ∃l e,KeptIs c l e∧((¬ l.length<120∧ls=[]∧f=16)∨(l.length<120∧∃ws g,EncIs v ws g∧((g≠0∧ls=[]∧f=g)∨(g=0∧AppIs c ws ls f))))
theorem KeepIs.one{l l':List Wr}(h:KeepIs c v l f)(h':KeepIs c v l' f'):l=l'∧f=f':=by
 obtain⟨k,e,b,h⟩:=h;obtain⟨u,s,a,h'⟩:=h';obtain⟨rfl,rfl⟩:=b.one a;rcases h with⟨p,rfl,rfl⟩|⟨p,z,g,q,r⟩<;>rcases h' with⟨d,rfl,rfl⟩|⟨d,m,t,i,j⟩<;>first|exact⟨rfl,rfl⟩|contradiction|skip
 obtain⟨rfl,rfl⟩:=q.one i;rcases r with⟨x,rfl,rfl⟩|⟨x,y⟩<;>rcases j with⟨n,rfl,rfl⟩|⟨n,o⟩<;>first|exact⟨rfl,rfl⟩|contradiction|exact y.one o
def tokE(kd me mo:Int)(l:Bi)(tg:Int):Ev:=⟨kd,me,mo,l.id,l.te,l.de,l.fe,l.pr,l.ch,l.un,tg,0,0⟩
def askE(kd me te mo:Int):Ev:=⟨kd,me,mo,0,te,0,0,0,0,0,0,0,0⟩
def tokB(kd rv:Int)(l:Bi)(tg:Int):Tok:=if kd=4 then ⟨2,l.id.toNat,(rv+1).toNat,tg.toNat⟩ else ⟨0,l.id.toNat,l.un.toNat,tg.toNat⟩
def recB(kd rv me:Int)(l:Bi)(tg:Int):Rc:=⟨me,l.id,l.te,l.de,l.fe,l.pr,l.ch,l.un,fmtL (97*(tokB kd rv l tg).num)⟩
def Gone(ls:List Wr)(o':List Pr)(r:Rc)(f x:Int):Prop:=ls=[]∧o'=[]∧r=rc0∧f=x
theorem Gone.one{o o':List Pr}{f f' x:Int}(h:Gone ls o r f x)(h':Gone ls' o' r' f' x):ls=ls'∧o=o'∧r=r'∧f=f':=by
 obtain⟨rfl,rfl,rfl,rfl⟩:=h;obtain⟨rfl,rfl,rfl,rfl⟩:=h';exact⟨rfl,rfl,rfl,rfl⟩
def TagIs(kd rv me mo dr:Int)(c:List Int)(o:List Pr)(l:Bi)(ls:List Wr)(o':List Pr)(r:Rc)(f:Int):Prop:=
 ∃o2 tg g,IssueIs o me rv ((tokB kd rv l 0).body:Int) dr o2 tg g∧((g≠0∧Gone ls o' r f g)∨(g=0∧∃l2 g3,KeepIs c (tokE kd me mo l tg) l2 g3∧((g3≠0∧Gone ls o' r f g3)∨(g3=0∧ls=l2∧o'=o2∧r=recB kd rv me l tg∧f=0))))
theorem TagIs.one{kd rv me mo dr:Int}{o:List Pr}{l:Bi}{a a':List Pr}(h:TagIs kd rv me mo dr c o l ls a r f)(h':TagIs kd rv me mo dr c o l ls' a' r' f'):ls=ls'∧a=a'∧r=r'∧f=f':=by
 obtain⟨D,E,g,i,h⟩:=h;obtain⟨k,t,A,b,h'⟩:=h';obtain⟨rfl,rfl,rfl⟩:=i.one b;rcases h with⟨p,q⟩|⟨p,C,B,q,s⟩<;>rcases h' with⟨m,d⟩|⟨m,j,e,d,n⟩<;>first|exact q.one d|contradiction|skip
 obtain⟨rfl,rfl⟩:=q.one d;rcases s with⟨x,y⟩|⟨x,rfl,rfl,rfl,rfl⟩<;>rcases n with⟨u,z⟩|⟨u,rfl,rfl,rfl,rfl⟩<;>first|exact y.one z|contradiction|exact⟨rfl,rfl,rfl,rfl⟩
def TokIs(kd:Int)(t:Tm)(c:List Int)(o:List Pr)(me te mo dr:Int)(ls:List Wr)(o':List Pr)(r:Rc)(f:Int):Prop:=
 ∃bk g,LoadIs t c bk g∧((g≠0∧Gone ls o' r f g)∨(g=0∧NoneAt bk me∧Gone ls o' r f 18)∨(g=0∧∃k b l h,FirstAt bk me k∧Tells t (bk.getD k cm0) (askE kd me te mo) b l h∧((h≠0∧Gone ls o' r f h)∨(h=0∧TagIs kd (bk.getD k cm0).a.rv me mo dr c o l ls o' r f))))
theorem TokIs.one{kd:Int}{t:Tm}{o:List Pr}{me te mo dr:Int}{a a':List Pr}(h:TokIs kd t c o me te mo dr ls a r f)(h':TokIs kd t c o me te mo dr ls' a' r' f'):ls=ls'∧a=a'∧r=r'∧f=f':=by
 obtain⟨E,g,A,h⟩:=h;obtain⟨n,F,e,h'⟩:=h';obtain⟨rfl,rfl⟩:=A.one e;rcases h with⟨p,q⟩|⟨p,q,s⟩|⟨p,k,b,l,x,q,s,u⟩<;>rcases h' with⟨j,d⟩|⟨j,d,i⟩|⟨j,G,D,H,I,d,i,B⟩<;>first|exact q.one d|exact s.one i|contradiction|exact absurd q d.some|exact absurd d q.some|skip
 obtain rfl:=q.one d;obtain⟨rfl,rfl,rfl⟩:=s.one i;rcases u with⟨y,z⟩|⟨y,z⟩<;>rcases B with⟨C,m⟩|⟨C,m⟩<;>first|exact z.one m|contradiction
open book (Sees)
open cell (RowU)
open Go.RowKit
def LoadPost(w:World)(t:Tm)(c:List Int)(e:Ending)(w':World):Prop:=∃p m cap xs bk f,e=.returned (.tuple #[.agg #[.slice p m cap],zI f])∧LoadIs t c bk f∧Sees w' p m xs bk∧m≤120∧zB w w'
structure Dk (w:World) (a:Option Addr) (n cap:Nat) (c:List Int):Prop where
 row:RowU w a n c
 nil:a=none→cap=0
 room:n≤cap
 bytes:n*4≤140737488351232
 wd:∀x∈c,0≤x∧x<4294967296
theorem Dk.below{w w':World}{a:Option Addr}{n cap:Nat}{c:List Int}(h:Dk w a n cap c)(hb:zB w w'):Dk w' a n cap c:=⟨h.row.below hb,h.nil,h.room,h.bytes,h.wd⟩
end vnd
namespace book
open Go.RowKit
open acc (Ac Tm Bi APost BPost OweIs SellIs GrantIs RekeyIs)
def cuA(a:Ac)(dp:Option Addr)(dn dc:Nat)(sp:Option Addr)(sn sc:Nat):Cu:=⟨a.me,a.rv,a.nx,a.mo,a.bo,a.fr,dp,dn,dc,sp,sn,sc⟩
theorem cuA_num(a:Ac)(dp:Option Addr)(dn dc:Nat)(sp:Option Addr)(sn sc:Nat):Nums (cuA a dp dn dc sp sn sc) a:=⟨rfl,rfl,rfl,rfl,rfl,rfl⟩
def HapPost(w:World)(base:Nat)(t:Tm)(x:Cu)(c:Cm)(v:Ev)(e:Ending)(w':World):Prop:=∃x' c' f,e=.returned (.tuple #[Cu.v x',zI f])∧HapIs t c v c' f∧(f=0→Turned w w' base x x' c')∧w.grownBy w' x.sold.ownBlock
theorem grown_of{w w':World}(h:zB w w')(own:Option Nat):w.grownBy w' own:=⟨h.os,h.tape,h.output,h.size,λk a _=>h.block k a⟩
theorem acc_upd{w W:World}{g:Nat}{cs:Array Value}{ty:TypeId}{a:Option Addr}{n cap:Nat}{zs:List tar.Du}(h:tar.Came w a n cap zs)(hU:Upd w W g cs ty)(hne:0<n→∀x,a=some x→x.block≠g):tar.Came W a n cap zs:=by
 refine⟨⟨h.row.1,?_⟩,h.nil,h.room,h.bytes,h.wf⟩;rcases h.row.2 with e|⟨b,c,rfl,j⟩
 ·exact .inl e
 ·refine .inr ⟨b,c,rfl,λi k=>?_⟩;have f:=j i k;have d:b≠g:=hne (by omega) ⟨b,c,none⟩ rfl;rw[hU.cell ⟨b,c+i*2,none⟩ d rfl,hU.cell ⟨b,c+i*2+1,none⟩ d rfl];exact f
theorem drew_fresh{w:World}{base:Nat}{a:Option Addr}{n cap:Nat}{zs:List tar.Du}(h:deb.Fresh w base a n cap zs):deb.Fresh w.drew base a n cap zs:=h.below zb.drew
theorem bill_ne{l:Bi}{v:Ev}(h:l≠billOf v):¬ (l.id=v.id∧l.te=v.te∧l.de=v.de∧l.fe=v.fe∧l.pr=v.pr∧l.ch=v.ch∧l.un=v.un):=λ⟨h1,h2,h3,h4,h5,h6,h7⟩=>h (by
 cases l;unfold billOf;simp only at h1 h2 h3 h4 h5 h6 h7
 rw [h1,h2,h3,h4,h5,h6,h7])
theorem lo_upd{w W:World}{base g:Nat}{cs:Array Value}{t:TypeId}{v:Value}{l:List So}(h:Lo w base v l)(hU:Upd w W g cs t)(hg:∀k,v.ownBlock=some k→k≠g):Lo W base v l:=by
 refine⟨h.1,?_⟩;rcases h.2 with i|⟨c,a,b,d,e,f,rest⟩
 ·exact .inl i
 ·exact .inr ⟨c,a,b,d,e,by rw[hU.oth c (hg c (by rw[d];rfl))];exact f,rest⟩
theorem grown_upd{w w9 W:World}{g:Nat}{cs:Array Value}{t:TypeId}{own:Option Nat}(h:w.grownBy w9 own)(hU:Upd w9 W g cs t)(hg:w.heap.size≤g):w.grownBy W own:=by
 have a:=hU.bel w.heap.size w9 hg zb;exact⟨a.os.trans h.os,a.tape.trans h.tape,a.output.trans h.output,Nat.le_trans h.size (by rw[hU.size];exact zc),λk c b=>by rw[hU.oth k (by omega)];exact h.block k c b⟩
end book
namespace vnd
open cell (Wr RowU RowW)
open Go.RowKit
def WrGot(w:World)(R:List Wr→Int→Prop)(e:Ending)(w':World):Prop:=∃p m cp ls f,e=.returned (.tuple #[.slice p m cp,zI f])∧R ls f∧RowW w' p m ls∧(∀x,p=some x→w.heap.size≤x.block)∧m≤cp∧m≤100000∧zB w w'
end vnd
namespace token
open Go.RowKit
theorem bodyOf_ok(k:Tok)(w:World)(hk:k.ok):
  Calls Tryz.prog 25 #[k.v] w λe w'=>e=.returned (.tuple #[zI (k.body:Int),zI 0])∧zB w w':=by
 have j:Hid (∀W,zC 52 #[.agg #[zI (k.c:Int),zI (k.i:Int),zI (k.a:Int),zI (k.t:Int)]] W λe w'=>e=.returned (zI 0)∧zB W w'):=λW=>by
  have:=fault_any k.c k.i k.a k.t W
  rwa [flaw_tok.2 hk] at this
 have h:Hid (zB w (w.alloc (.cells #[zI (k.c:Int),zI (k.i:Int),zI (k.a:Int),zI (k.t:Int)] 73))):=zb.alloc zc _;have l:Hid (Blk (w.alloc (.cells #[zI (k.c:Int),zI (k.i:Int),zI (k.a:Int),zI (k.t:Int)] 73)) w.heap.size #[zI (k.c:Int),zI (k.i:Int),zI (k.a:Int),zI (k.t:Int)] 73):=Blk.new _ _ _
 have g:Hid ((k.body:Int)=(k.c:Int)*2199023255552+(k.i:Int)*2097152+(k.a:Int)):=by
  show (k.body:Int)=_;unfold Tok.body;omega
 have m:=hk.c3;have n:=hk.i2;have p:=hk.a2;have A:(0:Int)≤(k.c:Int):=by omega
 have B:(0:Int)≤(k.i:Int):=by omega
 have C:(0:Int)≤(k.a:Int):=by omega
 have x:(k.c:Int)≤3:=by omega
 have y:(k.i:Int)≤1048575:=by omega
 have z:(k.a:Int)≤2097151:=by omega
 clear hk m n p;unfold Tok.v;rw[g.o];clear g;generalize (k.c:Int)=c at *;generalize (k.i:Int)=i at *;generalize (k.a:Int)=a at *;generalize (k.t:Int)=t at *;go_enter Tryz.func25,Tryz.ntmps25;go_wp2_with fail;refine(j.o _).mono ?_;rintro e q ⟨rfl,b⟩;have f:=shB h b;have d:=l.o.next b;have r:=d.cell 0;have s:=d.cell 1;have u:=d.cell 2;clear b d;go_wp2_with fail;refine bodyPost_ret (v:=.tuple #[zI (c*2199023255552+i*2097152+a),zI 0]) (by simp[results,Tryz.results25,go_sem]) rfl ⟨rfl,f.o⟩
end token
namespace acc
open tar (Du du0 Came RowD Ld PairT)
open Go.RowKit
def RollR(x:Ac)(m:Int)(b0:Bi)(y:Ac)(b:Bi)(f:Int):Prop:=((¬ RMay x m∧RErr x m f∧y=x)∨(RMay x m∧y=rolled x m∧f=0))∧b=b0
theorem proll(g:Nat)(x:Ac)(b:Bi)(p:Option Addr)(len cap:Nat)(m:Int)(w:World)(hw:Blk w g (wcs x b p len cap) 132)(hd:deb.Fresh w (g+1) p len cap x.ds)(ha:AMay x):Calls Tryz.prog 98 #[.pointer (some ⟨g,0,none⟩),zI m] w λe w'=>DPost w g (RollR x m b) e w':=by
 have ab:=hw.lt;have D:=ha.2.2.2.2.1;have a7:=zh ha.1;obtain⟨k,r,l,a,y,j,s⟩:=x;obtain⟨E,G,B,C,F,A,H⟩:=b;simp only[] at D;have I:=zh hw;have T:=zh hd;have i:Hid (∀W,zC 66 #[zI 0,zI 2399,zI m] W λe w'=>e=.returned (.bool (decide (0≤m∧m≤2399)))∧w'=W):=λW=>awithin 0 2399 m W;have q3:=zy3 I;clear hw hd ha;by_cases t:0≤m∧m≤2399
 ·rw[decide_eq_true t] at i;by_cases O:m<a
  ·have d2:decide (m<a)=true:=decide_eq_true O;have J:Hid (RollR ⟨k,r,l,a,y,j,s⟩ m ⟨E,G,B,C,F,A,H⟩ ⟨k,r,l,a,y,j,s⟩ ⟨E,G,B,C,F,A,H⟩ 23):=⟨.inl ⟨λhh=>by have:a≤m:=hh.2;omega,.inr ⟨t,O,rfl⟩,rfl⟩,rfl⟩
   clear t O D;go_enter Tryz.func98,Tryz.ntmps98;go_wp2_with fail;refine(i.o _).mono ?_;rintro e N ⟨rfl,M⟩;subst N;go_wp2_with fail;go_ret;exact⟨_,_,p,len,cap,23,rfl,J.o,I.o,T.o,Chg.refl _ _⟩
  ·have d2:decide (m<a)=false:=decide_eq_false O;have Q:Hid (RMay ⟨k,r,l,a,y,j,s⟩ m):=⟨t,by show a≤m;omega⟩
   by_cases U:a<m
   ·have d3:decide (a<m)=true:=decide_eq_true U;have ac:IntKind.i64.wrap (m-a)=m-a:=by rw[IntKind.wrap_i64];omega
    have V:Hid (zC 144 #[.slice p len cap,zI (m-a)] w.drew λe w'=>deb.AgePost w.drew s (m-a) e w'):=deb.kage _ p len cap s (m-a) (fresh_drew T.o).came (tar.wf_mid (by omega) (by omega));have a8:Hid (0≤m-a∧m-a≤2400):=⟨by omega,by omega⟩
    have a9:Hid (¬ m=a):=by show ¬ _=_;omega
    clear t O U;go_enter Tryz.func98,Tryz.ntmps98;go_wp2_with fail;refine(i.o _).mono ?_;rintro e N ⟨rfl,M⟩;subst N;go_wp2_with fail;clear d2 d3 q3;have q6:=zy6 I;refine wp_region_held_drew (S:=λv=>v.cell? ⟨g,3,none⟩=some (zI a)) (by kernel_rfl) (show w.drew.cell? _=_ from I.o.cell 3) (λd=>?_);refine zt' 0 (.pointer (some ⟨g,0,none⟩)) ?_;refine zt' 1 (.pointer (some ⟨g,0,none⟩)) ?_;refine zt' 2 (.pointer (some ⟨g,0,none⟩)) ?_;refine zt' 3 (.pointer (some ⟨g,0,none⟩)) ?_;refine zt' 4 (.pointer (some ⟨g,6,none⟩)) ?_;refine zt' 6 (zI m) ?_;refine zt' 7 (.pointer (some ⟨g,0,none⟩)) ?_;refine zt' 8 (.pointer (some ⟨g,0,none⟩)) ?_;refine zt' 9 (.pointer (some ⟨g,0,none⟩)) ?_;refine zt' 10 (.pointer (some ⟨g,3,none⟩)) ?_;refine zu' 11 (zI a) rfl rfl (Or.inl ⟨by rfl,λv hv=>by have g0:=hv;clear hv;go_simp⟩) ?_;refine zt' 12 (zI (m-a)) ?_;refine zo 5 λK u=>?_;rw[if_pos (by rfl)];refine wp_runOp (v:=.slice p len cap) (w':=w.drew) 31 rfl (by clear u;go_simp) ?_;refine u.o _ _ (show w.drew.cell? _=_ from I.o.cell 3) (λd=>?_);clear u K q6;simp only[Act.put,zq];refine zo 13 λK u=>?_;rw[if_pos (by rfl)];refine wp_callOp 39 rfl (by clear u;go_simp) V.o ?_;rintro e w1 ⟨q,n,c,z,f,rfl,hz,hf,L⟩;obtain⟨rfl,R⟩:=hz.got a7.o a8.o;have P:=zh ((Blk.drew I.o 1).next L);have X:Hid (Chg w w1 g):=(Chg.of (bel_drew zb 1)).trans (.of L);have a1:=zh (hf.low (by show g+1≤w.heap.size;omega));have HZ:=zh R;refine⟨_,rfl,u.o _ _ (P.o.cell 3) (λd=>?_)⟩;clear u K hz hf L R;simp only[Act.put,zq];refine zt' 14 (.tuple #[.slice q n c,zI 0]) ?_;refine zt' 15 (.slice q n c) ?_;refine zt' 16 (zI 0) ?_;refine zt' 17 (.pointer (some ⟨g,0,none⟩)) ?_;refine zt' 18 (.pointer (some ⟨g,0,none⟩)) ?_;refine zt' 19 (.pointer (some ⟨g,6,none⟩)) ?_;refine zo 20 λK u=>?_;rw[if_pos (by rfl)];refine wp_letOp1 53 _ _ rfl g 6 rfl (.slice q n c) rfl rfl (by kernel_rfl) rfl #[zI k,zI r,zI l,zI a,zI y,zI j,.slice p len cap,zI E,zI G,zI B,zI C,zI F,zI A,zI H] 132 P.o (by simp) rfl ?_
    intro W2 h;have a5:=zyb h;have Y:=zh (X.o.trans (.upd h));have a2:=zh (fresh_chg a1.o (.upd h));clear h;refine u.o _ _ (a5.o.cell 3) (λd=>?_);clear u K;refine wpAnyH_done (by kernel_rfl) ?_ _;clear d;go_wp2_with refine zl ?_;intro W3 h;have aa:=zyb h;have Z:=zh (Y.o.trans (.upd h));have a3:=zh (fresh_chg a2.o (.upd h));clear h;go_wp2_with refine zl ?_;intro W4 h;have a6:=zyb h;have a0:=zh (Z.o.trans (.upd h));have a4:=zh (fresh_chg a3.o (.upd h));have J:Hid (RollR ⟨k,r,l,a,y,j,s⟩ m ⟨E,G,B,C,F,A,H⟩ ⟨k,r,l,m,0,j,z⟩ ⟨E,G,B,C,F,A,H⟩ 0):=⟨.inr ⟨Q.o,by unfold rolled;rw[if_neg a9.o,HZ.o],rfl⟩,rfl⟩
    clear h;go_wp2_with fail;go_ret;exact⟨⟨k,r,l,m,0,j,z⟩,_,q,n,c,0,rfl,J.o,a6.o,a4.o,a0.o⟩
   ·have d3:decide (a<m)=false:=decide_eq_false U;have J:Hid (RollR ⟨k,r,l,a,y,j,s⟩ m ⟨E,G,B,C,F,A,H⟩ ⟨k,r,l,a,y,j,s⟩ ⟨E,G,B,C,F,A,H⟩ 0):=⟨.inr ⟨Q.o,by unfold rolled;rw[if_pos (by show m=a;omega)],rfl⟩,rfl⟩
    clear t O U D;go_enter Tryz.func98,Tryz.ntmps98;go_wp2_with fail;refine(i.o _).mono ?_;rintro e N ⟨rfl,M⟩;subst N;go_wp2_with fail;go_ret;exact⟨_,_,p,len,cap,0,rfl,J.o,I.o,T.o,Chg.refl _ _⟩
 ·rw[decide_eq_false t] at i;have J:Hid (RollR ⟨k,r,l,a,y,j,s⟩ m ⟨E,G,B,C,F,A,H⟩ ⟨k,r,l,a,y,j,s⟩ ⟨E,G,B,C,F,A,H⟩ 2):=⟨.inl ⟨λhh=>t hh.1,.inl ⟨t,rfl⟩,rfl⟩,rfl⟩
  clear t D q3;go_enter Tryz.func98,Tryz.ntmps98;go_wp2_with fail;refine(i.o _).mono ?_;rintro e N ⟨rfl,M⟩;subst N;go_wp2_with fail;go_ret;exact⟨_,_,p,len,cap,2,rfl,J.o,I.o,T.o,Chg.refl _ _⟩
def BeginR(x:Ac)(t:Tm)(m:Int)(b0:Bi)(y:Ac)(b:Bi)(f:Int):Prop:=((¬ TRight t∧TFault t f∧y=x)∨(TRight t∧¬ RMay x m∧RErr x m f∧y=x)∨(TRight t∧RMay x m∧y=rolled x m∧f=0))∧b=b0
theorem pbegin(g:Nat)(x:Ac)(p:Option Addr)(len cap:Nat)(t:Tm)(pt:Option Addr)(lt ct:Nat)(b:Bi)(m:Int)(w:World)(hw:Blk w g (wcs x b p len cap) 132)(hd:deb.Fresh w (g+1) p len cap x.ds)(ha:AMay x)(ht:Came w pt lt ct t.ts)(hwf:wf4 t)(hfar:Far pt lt g):Calls Tryz.prog 65 #[.pointer (some ⟨g,0,none⟩),.agg #[.slice pt lt ct,zI t.ff,zI t.fb,zI t.db,zI t.al],zI m] w λe w'=>DPost w g (BeginR x t m b) e w':=by
 have R:=hw.lt;have C:Hid (∀W,zB w W→zC 97 #[.agg #[.slice pt lt ct,zI t.ff,zI t.fb,zI t.db,zI t.al]] W λe w'=>tar.ErrPost W (TFault t) e w'):=λW Q=>kcheck W t pt lt ct ⟨ht.below Q,hwf⟩;have E:Hid (∀W,Blk W g (wcs x b p len cap) 132→deb.Fresh W (g+1) p len cap x.ds→zC 98 #[.pointer (some ⟨g,0,none⟩),zI m] W λe w'=>DPost W g (RollR x m b) e w'):=λW l r=>proll g x b p len cap m W l r ha;have d:Hid (zB w (w.alloc (.cells #[.slice pt lt ct,zI t.ff,zI t.fb,zI t.db,zI t.al] 24))):=(Below.refl w.heap.size w).alloc (by simp) _;have O:=zye w #[.slice pt lt ct,zI t.ff,zI t.fb,zI t.db,zI t.al] 24;have B:Hid (Blk (w.alloc (.cells #[.slice pt lt ct,zI t.ff,zI t.fb,zI t.db,zI t.al] 24)) g (wcs x b p len cap) 132):=hw.alloc _;have A:=zh (hd.below d.o);clear hw hd ha ht hwf hfar;generalize s:(w.alloc (.cells #[.slice pt lt ct,zI t.ff,zI t.fb,zI t.db,zI t.al] 24))=T at *;have F:=zh s;clear s;go_enter Tryz.func65,Tryz.ntmps65;go_upto_region 1 with fail
 rw[F.o];go_wp2_with refine zw ?_;refine(C.o _ d.o).mono ?_;rintro e N ⟨f,rfl,hf,a⟩;have k:=shN B a;have j:=zh (A.o.below a);have i:Hid (Chg w N g):=.of (bel_step d.o a);have D:=zh hf;clear hf a;by_cases z:f=0
 ·subst z;have I:Hid (TRight t):=D.o.ok.1 rfl;go_wp2_with fail;refine(E.o _ k.o j.o).mono ?_;rintro e S ⟨y,P,q,n,c,f,rfl,⟨M,J⟩,L,u,K⟩
  have G:Hid (DPost w g (BeginR x t m b) (.returned (zI f)) S):=by
   refine⟨y,P,q,n,c,f,rfl,⟨?_,J⟩,L,u,i.o.trans K⟩;rcases M with⟨l,r,H⟩|⟨l,r,H⟩
   ·exact .inr (.inl ⟨I.o,l,r,H⟩)
   ·exact .inr (.inr ⟨I.o,l,r,H⟩)
  clear M J L u K;go_wp2_with fail;go_ret;exact G.o
 ·have U:(f != 0)=true:=by simpa using z
  have G:Hid (DPost w g (BeginR x t m b) (.returned (zI f)) N):=⟨x,b,p,len,cap,f,rfl,⟨.inl ⟨λh=>z (D.o.ok.2 h),D.o,rfl⟩,rfl⟩,k.o,j.o,i.o⟩
  clear z;go_wp2_with fail;go_ret;exact G.o
def KcGrant:Prop:=∀(W:World)(x:Ac)(p:Option Addr)(len cap:Nat)(t:Tm)(pt:Option Addr)(lt ct:Nat)(m:Int),ACame W x p len cap→TCame W t pt lt ct→(Lit.int .i64 m).wf=true→zC 30 #[x.v p len cap,t.v pt lt ct,zI m] W λe w'=>BPost W (GrantIs x t m) e w'
end acc
end Go.Proofs.YtoepgdhiepedeaaGreatDoor
