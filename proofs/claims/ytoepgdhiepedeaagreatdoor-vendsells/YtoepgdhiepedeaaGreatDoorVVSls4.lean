import Derived.Test.YtoepgdhiepedeaaGreatDoorVVSls1
import Derived.Test.YtoepgdhiepedeaaGreatDoorVVSls3
set_option linter.unusedVariables false
set_option linter.unusedSimpArgs false
set_option maxHeartbeats 4000000
set_option maxRecDepth 100000
namespace Go.Proofs.YtoepgdhiepedeaaGreatDoor
namespace disk
open cell (Wr wr0 set_at list_ext)
def lenAt(c:List Int)(a:Nat):Int:=if a=c.length∨c.getD a 0=0 then 0 else if 64<c.getD a 0 then -1 else if (c.length:Int)≤a+c.getD a 0 then -1 else c.getD a 0
def recAt(c:List Int)(a:Nat):List Int:=(c.drop (a+1)).take (c.getD a 0).toNat
variable{c:List Int}{k:Nat}
theorem len_pos{a:Nat}(h:0<lenAt c a):lenAt c a=c.getD a 0∧0<c.getD a 0∧c.getD a 0≤64∧a+c.getD a 0<c.length:=by
 unfold lenAt at h ⊢;by_cases b:a=c.length∨c.getD a 0=0
 ·rw[if_pos b] at h;omega
 ·by_cases d:64<c.getD a 0
  ·rw[if_neg b,if_pos d] at h;omega
  ·by_cases e:(c.length:Int)≤a+c.getD a 0
   ·rw[if_neg b,if_neg d,if_pos e] at h;omega
   ·rw[if_neg b,if_neg d,if_neg e] at h ⊢;exact⟨rfl,h,by omega,by omega⟩
theorem len_of{a:Nat}(h0:0<c.getD a 0)(h1:c.getD a 0≤64)(h2:a+c.getD a 0<c.length):lenAt c a=c.getD a 0:=by
 unfold lenAt;rw[if_neg (by omega),if_neg (by omega),if_neg (by omega)]
def stepD(c:List Int)(s:List (List Int) × Nat):List (List Int) × Nat:=if 0<lenAt c s.2 then (s.1++[recAt c s.2],s.2+(lenAt c s.2).toNat+1) else s
def itD(c:List Int):Nat→List (List Int) × Nat
 |0=>([],0)
 |k+1=>stepD c (itD c k)
theorem it_live(h:0<lenAt c (itD c k).2):itD c (k+1)=((itD c k).1++[recAt c (itD c k).2],(itD c k).2+(lenAt c (itD c k).2).toNat+1):=by
 show stepD c (itD c k)=_;unfold stepD;rw[if_pos h]
theorem it_dead(h:¬ 0<lenAt c (itD c k).2):∀m,itD c (k+m)=itD c k
 |0=>rfl
 |m+1=>by
  show stepD c (itD c (k+m))=_;rw[it_dead h m];unfold stepD;rw[if_neg h]
theorem it_bound(c:List Int)(k:Nat):(itD c k).2≤c.length∧((∀i,i<k→0<lenAt c (itD c i).2)→k≤(itD c k).2):=by
 induction k with
 |zero=>exact⟨Nat.zero_le _,λ_=>zc⟩
 |succ k ih=>
  by_cases h:0<lenAt c (itD c k).2
  ·rw[it_live h];obtain⟨e,d,f,g⟩:=len_pos h;refine⟨by show (itD c k).2+_+1≤_;omega,λa=>?_⟩;have:=ih.2 λi b=>a i (by omega);show k+1≤(itD c k).2+_+1;omega
  ·rw[it_dead h 1];exact⟨ih.1,λa=>absurd (a k (by omega)) h⟩
def repD(c:List Int):List (List Int) × Nat:=itD c (c.length+1)
theorem rep_dead(c:List Int):¬ 0<lenAt c (repD c).2:=λh=>by
 have all:∀i,i<c.length+1→0<lenAt c (itD c i).2:=λi b=>by
  refine Classical.byContradiction λa=>?_;have e:=it_dead a (c.length+1-i);rw[show i+(c.length+1-i)=c.length+1 by omega] at e;unfold repD at h;rw[e] at h;exact a h
 have:=(it_bound c (c.length+1)).2 all;have:=(it_bound c (c.length+1)).1;omega
theorem rep_of(h:¬ 0<lenAt c (itD c k).2):repD c=itD c k:=by
 by_cases a:k≤c.length+1
 ·have e:=it_dead h (c.length+1-k);rw[show k+(c.length+1-k)=c.length+1 by omega] at e;exact e
 ·have e:=it_dead (rep_dead c) (k-(c.length+1));rw[show c.length+1+(k-(c.length+1))=k by omega] at e;exact e.symm
def May(c:List Int):Prop:=1≤c.length∧c.length≤2048
def RepIs(c:List Int)(out:List (List Int))(e:Int)(f:Int):Prop:=
 (¬ May c∧out=[]∧e=0∧f=1)∨(May c∧lenAt c (repD c).2<0∧out=[]∧e=0∧f=3)∨(May c∧lenAt c (repD c).2=0∧out=(repD c).1∧e=((repD c).2:Int)∧f=0)
theorem RepIs.one{o o':List (List Int)}{e e' f f':Int}(h:RepIs c o e f)(h':RepIs c o' e' f'):o=o'∧e=e'∧f=f':=by
 rcases h with⟨a,rfl,rfl,rfl⟩|⟨a,b,rfl,rfl,rfl⟩|⟨a,b,rfl,rfl,rfl⟩<;>rcases h' with⟨d,rfl,rfl,rfl⟩|⟨d,g,rfl,rfl,rfl⟩|⟨d,g,rfl,rfl,rfl⟩<;>first|exact⟨rfl,rfl,rfl⟩|contradiction|omega
def putW(at_:Nat)(rec:List Int):Nat→List Wr
 |0=>[]
 |k+1=>putW at_ rec k++[⟨((at_+k+1:Nat):Int),rec.getD k 0⟩]
def zeroW(c:List Int)(p:Nat):List Wr:=if p<c.length then [⟨(p:Int),0⟩] else []
def appW(c:List Int)(a:Nat)(rec:List Int):List Wr:=putW a rec rec.length++(zeroW c (a+rec.length+1)++[⟨(a:Int),(rec.length:Int)⟩])
def RMay(r:List Int):Prop:=1≤r.length∧r.length≤64
def AppIs(c rec:List Int)(ls:List Wr)(f:Int):Prop:=
 (¬ RMay rec∧ls=[]∧f=1)∨(RMay rec∧¬ May c∧ls=[]∧f=1)∨(RMay rec∧May c∧lenAt c (repD c).2<0∧ls=[]∧f=3) ∨
 (RMay rec∧May c∧lenAt c (repD c).2=0∧c.length≤(repD c).2+rec.length∧ls=[]∧f=16)∨(RMay rec∧May c∧lenAt c (repD c).2=0∧(repD c).2+rec.length<c.length∧ls=appW c (repD c).2 rec∧f=0)
theorem AppIs.one{c rec:List Int}{l l':List Wr}{f f':Int}(h:AppIs c rec l f)(h':AppIs c rec l' f'):l=l'∧f=f':=by
 rcases h with⟨a,rfl,rfl⟩|⟨a,b,rfl,rfl⟩|⟨a,b,d,rfl,rfl⟩|⟨a,b,d,g,rfl,rfl⟩|⟨a,b,d,g,rfl,rfl⟩<;>rcases h' with⟨e,rfl,rfl⟩|⟨e,i,rfl,rfl⟩|⟨e,i,j,rfl,rfl⟩|⟨e,i,j,k,rfl,rfl⟩|⟨e,i,j,k,rfl,rfl⟩<;>first|exact⟨rfl,rfl⟩|contradiction|omega
theorem rep_bound(c:List Int):(repD c).2≤c.length:=(it_bound c _).1
theorem put_len(a:Nat)(rec:List Int)(k:Nat):(putW a rec k).length=k:=by
 induction k with
 |zero=>rfl
 |succ k ih=>rw[putW,List.length_append,ih];rfl
theorem app_len(c:List Int)(a:Nat)(r:List Int):(appW c a r).length=r.length+(if a+r.length+1<c.length then 2 else 1):=by
 unfold appW zeroW;rw[List.length_append,put_len];split<;>rfl
end disk
namespace book
open Go.RowKit
structure Ev where
 kd:Int
 me:Int
 mo:Int
 id:Int
 te:Int
 de:Int
 fe:Int
 pr:Int
 ch:Int
 un:Int
 tg:Int
 ow:Int
 bp:Int
def ev0:Ev:=⟨0,0,0,0,0,0,0,0,0,0,0,0,0⟩
def EMay(v:Ev):Prop:=(0≤v.me∧v.me≤49)∧((v.kd=1∧v.mo=0∧v.id=0∧v.te=0∧v.de=0∧v.fe=0∧v.pr=0∧v.ch=0∧v.un=0∧v.tg=0∧v.ow=0∧v.bp=0)∨(v.kd=5∧v.mo=0∧v.id=0∧v.te=0∧v.de=0∧v.fe=0∧v.pr=0∧v.ch=0∧v.un=0∧v.tg=0∧(1≤v.ow∧v.ow≤1000000000)∧0≤v.bp∧v.bp≤10000) ∨
 ((2≤v.kd∧v.kd≤4)∧(1≤v.id∧v.id≤1048575)∧(0≤v.tg∧v.tg≤65535)∧(v.ow=0∧v.bp=0)∧((v.kd=4∧v.mo=0∧v.te=0∧v.de=0∧v.fe=0∧v.pr=0∧v.ch=0∧v.un=0)∨(v.kd≠4∧(0≤v.mo∧v.mo≤2399)∧(1≤v.un∧v.un≤2097151) ∧
   ((v.kd=3∧v.te=0∧v.de=0∧v.fe=0∧v.pr=0∧v.ch=0)∨(v.kd≠3∧(1≤v.te∧v.te≤100000000)∧(0≤v.de∧v.de≤v.te)∧(0≤v.fe∧v.fe≤v.te)∧(0≤v.pr∧v.pr≤v.te)∧(0≤v.ch∧v.ch≤v.te)∧v.de+v.fe+v.pr+v.ch=v.te))))))
def evL(v:Ev):List Int:=[v.kd,v.me,v.mo,v.id,v.te,v.de,v.fe,v.pr,v.ch,v.un,v.tg,v.ow,v.bp]
theorem evL_len(v:Ev):(evL v).length=13:=rfl
theorem may_word{v:Ev}(h:EMay v):∀x∈evL v,0≤x∧x<4294967296:=by
 intro x a;unfold EMay at h;simp only[evL,List.mem_cons,List.not_mem_nil,or_false] at a;rcases a with rfl|rfl|rfl|rfl|rfl|rfl|rfl|rfl|rfl|rfl|rfl|rfl|rfl<;>omega
def evOf(l:List Int):Ev:=⟨l.getD 0 0,l.getD 1 0,l.getD 2 0,l.getD 3 0,l.getD 4 0,l.getD 5 0,l.getD 6 0,l.getD 7 0,l.getD 8 0,l.getD 9 0,l.getD 10 0,l.getD 11 0,l.getD 12 0⟩
theorem evL_Of{l:List Int}(h:l.length=13):evL (evOf l)=l:=by
 match l,h with
 |[a0,a1,a2,a3,a4,a5,a6,a7,a8,a9,a10,a11,a12],_=>rfl
def EncIs(v:Ev)(ws:List Int)(e:Int):Prop:=(EMay v∧ws=evL v∧e=0)∨(¬ EMay v∧ws=[]∧e=5)
theorem EncIs.one{v:Ev}{a b:List Int}{e f:Int}(h:EncIs v a e)(h':EncIs v b f):a=b∧e=f:=by
 rcases h with⟨q,rfl,rfl⟩|⟨q,rfl,rfl⟩<;>rcases h' with⟨c,rfl,rfl⟩|⟨c,rfl,rfl⟩<;>first|exact⟨rfl,rfl⟩|contradiction
def DecIs(l:List Int)(v:Ev)(e:Int):Prop:=(l.length≠13∧v=ev0∧e=1)∨(l.length=13∧¬ EMay (evOf l)∧v=ev0∧e=5)∨(l.length=13∧EMay (evOf l)∧v=evOf l∧e=0)
theorem DecIs.one{l:List Int}{a b:Ev}{e f:Int}(h:DecIs l a e)(h':DecIs l b f):a=b∧e=f:=by
 rcases h with⟨q,rfl,rfl⟩|⟨q,r,rfl,rfl⟩|⟨q,r,rfl,rfl⟩<;>rcases h' with⟨c,rfl,rfl⟩|⟨c,d,rfl,rfl⟩|⟨c,d,rfl,rfl⟩<;>first|exact⟨rfl,rfl⟩|contradiction
end book
namespace tar
open Go.RowKit
def RowD(w:World)(a:Option Addr)(len:Nat)(ls:List Du):Prop:=
 ls.length=len∧(len=0∨∃b off,a=some ⟨b,off,none⟩∧∀i,i<len→w.cell? ⟨b,off+i*2,none⟩=some (zI (ls.getD i du0).a)∧w.cell? ⟨b,off+i*2+1,none⟩=some (zI (ls.getD i du0).b))
variable{w:World}{v:Value}{l:List Du}{T:TypeId}{zs:List Du}{P:Program}{base:Nat}
theorem RowD.below{w w':World}{a:Option Addr}{n:Nat}(h:RowD w a n zs)(hb:zB w w'):RowD w' a n zs:=by
 refine⟨h.1,?_⟩;rcases h.2 with e|⟨b,c,rfl,f⟩
 ·exact .inl e
 ·refine .inr ⟨b,c,rfl,λi g=>?_⟩;have d:=f i g;rw[hb.cell (p:=⟨b,c+i*2,none⟩) (World.block_lt_of_cell? w _ d.1),hb.cell (p:=⟨b,c+i*2+1,none⟩) (World.block_lt_of_cell? w _ d.2)];exact d
theorem RowD.nil(w:World)(a:Option Addr):RowD w a 0 []:=⟨rfl,.inl rfl⟩
theorem RowD.at{a:Option Addr}{n:Nat}(h:RowD w a n zs)(h0:0<n):∃b off,a=some ⟨b,off,none⟩∧b<w.heap.size∧∀i,i<n→w.cell? ⟨b,off+i*2,none⟩=some (zI (zs.getD i du0).a)∧w.cell? ⟨b,off+i*2+1,none⟩=some (zI (zs.getD i du0).b):=by
 rcases h.2 with d|⟨b,off,rfl,c⟩
 ·omega
 ·exact⟨b,off,rfl,World.block_lt_of_cell? w _ (c 0 h0).1,c⟩
theorem rowD_of{a:Addr}{m len:Nat}(hl:len≤m)
  (h:∀j,j<m→∃z0 z1,w.cell? (a.add (j*2))=some (zI z0)∧w.cell? (a.add (j*2+1))=some (zI z1)∧(Lit.int .i64 z0).wf=true∧(Lit.int .i64 z1).wf=true):
  ∃zs:List Du,RowD w (some a) len zs∧∀x∈zs,(Lit.int .i64 x.a).wf=true∧(Lit.int .i64 x.b).wf=true:=by
 have g:∀j,∃e:Du,j<m→w.cell? (a.add (j*2))=some (zI e.a)∧w.cell? (a.add (j*2+1))=some (zI e.b)∧(Lit.int .i64 e.a).wf=true∧(Lit.int .i64 e.b).wf=true:=λj=>by
  by_cases c:j<m
  ·obtain⟨z0,z1,s⟩:=h j c;exact⟨⟨z0,z1⟩,λ_=>s⟩
  ·exact⟨du0,λo=>absurd o c⟩
 obtain⟨f,hf⟩:∃f:Nat→Du,∀j,j<m→w.cell? (a.add (j*2))=some (zI (f j).a)∧w.cell? (a.add (j*2+1))=some (zI (f j).b)∧(Lit.int .i64 (f j).a).wf=true∧(Lit.int .i64 (f j).b).wf=true:=⟨λj=>Classical.choose (g j),λj c=>Classical.choose_spec (g j) c⟩
 clear g h;refine⟨(List.range len).map f,⟨by simp,?_⟩,λx r=>?_⟩
 ·by_cases n:len=0
  ·exact .inl n
  ·obtain⟨b,l,d⟩:=a;have q:d=none:=by simpa [Addr.add] using World.cell?_spot (hf 0 (by omega)).1
   subst q;refine .inr ⟨b,l,rfl,λi p=>?_⟩;have k:=hf i (by omega);rw[Addr.add_lit,Addr.add_lit,← Nat.add_assoc] at k;have e:((List.range len).map f).getD i du0=f i:=by simp[List.getD,p]
   rw[e];exact⟨k.1,k.2.1⟩
 ·obtain⟨j,c,rfl⟩:=List.mem_map.1 r;exact(hf j (by have:=List.mem_range.1 c;omega)).2.2
def cellsD:List Du→List Value
 |[]=>[]
 |e::l=>zI e.a::zI e.b::cellsD l
theorem cellsD_len(l:List Du):(cellsD l).length=l.length*2:=by
 induction l with
 |nil=>rfl
 |cons e l ih=>simp[cellsD,ih];omega
theorem cellsD_app(l m:List Du):cellsD (l++m)=cellsD l++cellsD m:=by
 induction l with
 |nil=>rfl
 |cons e l ih=>simp[cellsD,ih]
theorem oneD(l:List Du):∀u∈cellsD l,u.oneCell'=true:=by
 induction l with
 |nil=>intro u a;cases a
 |cons e l ih=>
  intro u a;simp only[cellsD,List.mem_cons] at a;rcases a with rfl|rfl|a
  ·rfl
  ·rfl
  ·exact ih u a
theorem cellsD_at(l:List Du)(k:Nat)(hk:k<l.length):(cellsD l)[k*2]?=some (zI (l.getD k du0).a)∧(cellsD l)[k*2+1]?=some (zI (l.getD k du0).b):=by
 induction l generalizing k with
 |nil=>simp at hk
 |cons x l ih=>
  cases k with
  |zero=>exact⟨rfl,rfl⟩
  |succ k=>
   rw[show (k+1)*2=k*2+1+1 by omega];have:=ih k (by simpa using hk);simpa [cellsD] using this
theorem cellsD_get{b off len:Nat}(hz:zs.length=len)(hc:∀i,i<len→w.cell? ⟨b,off+i*2,none⟩=some (zI (zs.getD i du0).a)∧w.cell? ⟨b,off+i*2+1,none⟩=some (zI (zs.getD i du0).b))(j:Nat)(u:Value)(hu:(cellsD zs)[j]?=some u):w.cell? ⟨b,off+j,none⟩=some u:=by
 have g:j<(cellsD zs).length:=by
  by_cases h:j<(cellsD zs).length
  ·exact h
  ·rw[List.getElem?_eq_none (by omega)] at hu;cases hu
 rw[cellsD_len] at g;have d:=cellsD_at zs (j/2) (by omega);have f:=hc (j/2) (by omega);rcases Nat.mod_two_eq_zero_or_one j with e|e
 ·have c:j/2*2=j:=by omega
  rw[c] at d f;rw[d.1] at hu;rw[f.1];exact hu
 ·have c:j/2*2+1=j:=by omega
  rw[Nat.add_assoc,c] at f;rw[c] at d;rw[d.2] at hu;rw[f.2];exact hu
def Ld(T:TypeId)(w:World)(base:Nat)(v:Value)(l:List Du):Prop:=w.ownsRow base T 2 v l.length (cellsD l)
theorem Ld.zero(T:TypeId)(w:World)(base:Nat):Ld T w base (zS) []:=World.ownsRow_nil _ _ _ _
theorem Ld.alloc(h:Ld T w base v l)(o:Obj):Ld T (w.alloc o) base v l:=World.ownsRow.alloc h o
theorem Ld.next{w w':World}(h:Ld T w base v l)(hb:zB w w'):Ld T w' base v l:=by
 refine⟨h.1,?_⟩;rcases h.2 with e|⟨g,a,b,f,d,c,rest⟩
 ·exact .inl e
 ·exact .inr ⟨g,a,b,f,d,Blk.next c hb,rest⟩
theorem Ld.low{base base':Nat}(h:Ld T w base v l)(hb:base'≤base):Ld T w base' v l:=by
 refine⟨h.1,?_⟩;rcases h.2 with c|⟨g,a,b,d,e,rest⟩
 ·exact .inl c
 ·exact .inr ⟨g,a,b,d,by omega,rest⟩
theorem Ld.row(h:Ld T w base v l):∃a cap,v=.slice a l.length cap∧RowD w a l.length l∧(a=none→cap=0)∧l.length≤cap∧(∀x,a=some x→x.off=0∧x.spot=none):=by
 rcases h.2 with⟨b,c⟩|⟨g,cap,d,b,_,_,j,_⟩
 ·exact⟨none,0,by rw[c];exact b,⟨rfl,.inl c⟩,λ_=>rfl,by omega,λx h=>by cases h⟩
 ·subst b;refine⟨_,cap,rfl,⟨rfl,.inr ⟨g,0,rfl,λi k=>?_⟩⟩,(λh=>by cases h),j,λx h=>by cases h;exact⟨rfl,rfl⟩⟩;have e:=World.ownsRow.cellAt h (i*2) (by omega);have f:=World.ownsRow.cellAt h (i*2+1) (by omega);rw[Nat.zero_add,e,f];exact cellsD_at l i k
theorem own_far{base n k:Nat}{t:TypeId}{l:List Value}(h:w.ownsRow base t n v k l){G:Nat}(hG:G<base):some G≠v.ownBlock:=by
 intro e;have:=(World.ownsRow.lt h G e.symm).1;omega
theorem own_bel{w0 w w':World}{base B n k:Nat}{t:TypeId}{l:List Value}(h:w.ownsRow base t n v k l)(hg:w.grownBy w' v.ownBlock)(hb:Below B w0 w)(hB:B≤base)(hw:B≤w.heap.size):Below B w0 w':=by
 refine⟨hg.os.trans hb.os,hg.tape.trans hb.tape,hg.output.trans hb.output,Nat.le_trans hb.size hg.size,λk a=>?_⟩;rw[← hb.block k a];exact hg.block k (by omega) (own_far h (by omega))
theorem bel_drewN{B:Nat}{w w':World}(h:Below B w w')(n:Nat):Below B w (w'.drewN n):=⟨h.os,h.tape,h.output,h.size,h.block⟩
structure PairT (P:Program) (T S:TypeId):Prop where
 info:(P.info? T).map (λi=>(i.zero,i.size,i.bytes))=some (some (.agg #[zI 0,zI 0]),2,16)
 under:P.underlying S=some (.slice T)
theorem wp_pair{T S:TypeId}(hP:PairT P T S){w:World}{ops:Array Oper}{rest:List Oper}{o:Oper}{a:Act}{Q:Exit→Act→World→Prop}(hgd:o.guard=none)(s x:Operand)
  (ho:o.op=.call { callee:=.builtin .append,args:=#[s,x],argTypes:=#[S,S] })
  (base G:Nat) (v:Value) (l:List Du) (r:Du) (hs:a.eval s=v) (hx:a.eval x=.slice (some ⟨G,0,none⟩) 1 1) (hv:Ld T w base v l) (hu:w.cell? ⟨G,0,none⟩=some (zI r.a)∧w.cell? ⟨G,1,none⟩=some (zI r.b)) (hn:l.length≤1000000) (hbase:base≤w.heap.size)
  (h:∀v' w',Ld T w' base v' (l++[r])→w.grownBy w' v.ownBlock→wpList P ops Q rest (a.put o.dst v') w'):wpList P ops Q (o::rest) a w:=by
 obtain⟨m,k,d,e,f⟩:=info_parts hP.info;refine wpList_append_own w hgd s x S ho base T m (.agg #[zI 0,zI 0]) 2 16 hP.under k d e f rfl (by decide) v l.length (cellsD l) hs hv ⟨G,0,none⟩ 1 1 (cellsD [r]) hx rfl ?_ (oneD [r]) (by unfold maxLen;omega) (by omega) hbase ?_
 ·intro j u c
  match j,c with
  |0,c=>simp[cellsD] at c;subst c;simpa [Addr.add] using hu.1
  |1,c=>simp[cellsD] at c;subst c;simpa [Addr.add] using hu.2
  |j+2,c=>simp[cellsD] at c
 intro v' w' g i _;refine h v' w' ?_ i;unfold Ld;rw[List.length_append,cellsD_app];exact g
theorem step_pair{T S:TypeId}(hP:PairT P T S){w:World}{ops:Array Oper}{o:Oper}{a:Act}{K:Act→World→Prop}{Q:Exit→Act→World→Prop}{E:Prop}(hgd:o.guard=none)(s x:Operand)
  (ho:o.op=.call { callee:=.builtin .append,args:=#[s,x],argTypes:=#[S,S] })
  (base G:Nat) (v:Value) (l:List Du) (r:Du) (hs:a.eval s=v) (hx:a.eval x=.slice (some ⟨G,0,none⟩) 1 1) (hv:Ld T w base v l) (hu:w.cell? ⟨G,0,none⟩=some (zI r.a)∧w.cell? ⟨G,1,none⟩=some (zI r.b)) (hn:l.length≤1000000) (hbase:base≤w.heap.size)
  (h:∀v' w',Ld T w' base v' (l++[r])→w.grownBy w' v.ownBlock→K (a.put o.dst v') w'):if Region.wanted o (yielded ops a.tmps)=true then Oper.wp P o a w K Q else E:=by
 have n:Region.wanted o (yielded ops a.tmps)=true:=by simp[Region.wanted,hgd]
 rw[if_pos n];obtain⟨p,k,d,e,f⟩:=info_parts hP.info
 obtain ⟨v',w',m,g,i,_⟩:=run_append_own (P:=P) w base S o.type T p (.agg #[zI 0,zI 0]) 2 16 hP.under k d e f rfl (by decide) v l.length (cellsD l) hv ⟨G,0,none⟩ 1 1 (cellsD [r]) rfl (by
  intro j u c
  match j,c with
  |0,c=>simp[cellsD] at c;subst c;simpa [Addr.add] using hu.1
  |1,c=>simp[cellsD] at c;subst c;simpa [Addr.add] using hu.2
  | j+2,c=>simp [cellsD] at c) (oneD [r]) (by unfold maxLen;omega) (by omega) hbase
 unfold Oper.wp execOp;simp only[ho,resolve,invoke,builtin,Sem.run_bind,Sem.run_pure,Result.andThen_ok,List.map_toArray,List.map_cons,List.map_nil,hs,hx,m];refine h v' w' ?_ i;unfold Ld;rw[List.length_append,cellsD_app];exact g
theorem wp_pairs{T S:TypeId}(hP:PairT P T S){w:World}{ops:Array Oper}{rest:List Oper}{o:Oper}{a:Act}{Q:Exit→Act→World→Prop}(hgd:o.guard=none)(s x:Operand)
  (ho:o.op=.call { callee:=.builtin .append,args:=#[s,x],argTypes:=#[S,S] })
  (base:Nat) (A:Addr) (len cap:Nat) (zs:List Du) (hs:a.eval s=zS) (hx:a.eval x=.slice (some A) len cap) (hr:RowD w (some A) len zs) (hl:len*16≤140737488351232) (hbase:base≤w.heap.size)
  (h:∀v' w',Ld T w' base v' zs→w.grownBy w' none→wpList P ops Q rest (a.put o.dst v') w'):wpList P ops Q (o::rest) a w:=by
 obtain⟨n,m,e,f,g⟩:=info_parts hP.info;obtain⟨d,hr⟩:=hr;refine wpList_append_own w hgd s x S ho base T n (.agg #[zI 0,zI 0]) 2 16 hP.under m e f g rfl (by decide) _ _ _ hs (World.ownsRow_nil _ _ _ _) A len cap (cellsD zs) hx ?_ ?_ (oneD zs) (by unfold maxLen;omega) (by omega) hbase ?_
 ·rw[cellsD_len,d]
 ·intro j u c;rcases hr with h|⟨b,p,h,l⟩
  ·rw[List.getElem?_eq_none (by rw[cellsD_len];omega)] at c;cases c
  ·obtain rfl:=Option.some.inj h;rw[Addr.add_lit];exact cellsD_get d l j u c
 ·intro v' w' i k _;refine h v' w' ?_ (by simpa [Value.ownBlock] using k);show w'.ownsRow _ _ _ _ _ _;rw[d];simpa using i
def RowL(w:World)(a:Option Addr)(len:Nat)(ls:List Tr):Prop:=
 ls.length=len∧(len=0∨∃b off,a=some ⟨b,off,none⟩∧∀i,i<len→w.cell? ⟨b,off+i*3,none⟩=some (zI (ls.getD i tr0).a)∧w.cell? ⟨b,off+i*3+1,none⟩=some (zI (ls.getD i tr0).b)∧w.cell? ⟨b,off+i*3+2,none⟩=some (zI (ls.getD i tr0).c))
theorem RowL.at{w:World}{a:Option Addr}{n:Nat}{zs:List Tr}(h:RowL w a n zs)(h0:0<n):∃b off,a=some ⟨b,off,none⟩∧b<w.heap.size∧∀i,i<n→w.cell? ⟨b,off+i*3,none⟩=some (zI (zs.getD i tr0).a)∧w.cell? ⟨b,off+i*3+1,none⟩=some (zI (zs.getD i tr0).b)∧w.cell? ⟨b,off+i*3+2,none⟩=some (zI (zs.getD i tr0).c):=by
 rcases h.2 with e|⟨b,off,rfl,d⟩
 ·omega
 ·exact⟨b,off,rfl,World.block_lt_of_cell? w _ (d 0 h0).1,d⟩
def ErrPost(w:World)(R:Int→Prop)(e:Ending)(w':World):Prop:=∃f,e=.returned (zI f)∧R f∧zB w w'
def ValPost(w:World)(z:Int)(e:Ending)(w':World):Prop:=e=.returned (zI z)∧zB w w'
def TwoPost(w:World)(R:Int→Int→Prop)(e:Ending)(w':World):Prop:=∃p f,e=.returned (.tuple #[zI p,zI f])∧R p f∧zB w w'
def ThreePost(w:World)(R:Int→Int→Int→Prop)(e:Ending)(w':World):Prop:=∃u p f,e=.returned (.tuple #[zI u,zI p,zI f])∧R u p f∧zB w w'
structure Came (w:World) (a:Option Addr) (len cap:Nat) (ls:List Du):Prop where
 row:RowD w a len ls
 nil:a=none→cap=0
 room:len≤cap
 bytes:len*16≤140737488351232
 wf:∀x∈ls,(Lit.int .i64 x.a).wf=true∧(Lit.int .i64 x.b).wf=true
theorem Came.below{w w':World}{a:Option Addr}{len cap:Nat}{ls:List Du}(h:Came w a len cap ls)(hb:zB w w'):Came w' a len cap ls:=⟨h.row.below hb,h.nil,h.room,h.bytes,h.wf⟩
theorem Came.most{w:World}{a:Option Addr}{len cap:Nat}{ls:List Du}(h:Came w a len cap ls):len≤maxLen:=by have:=h.bytes;unfold maxLen;omega
theorem Ld.came{T:TypeId}{w:World}{base:Nat}{v:Value}{l:List Du}(h:Ld T w base v l)(hl:l.length*16≤140737488351232)(hw:∀x∈l,(Lit.int .i64 x.a).wf=true∧(Lit.int .i64 x.b).wf=true):∃a cap,v=.slice a l.length cap∧Came w a l.length cap l:=by
 obtain⟨a,cap,f,e,d,c,_⟩:=h.row;exact⟨a,cap,f,e,d,c,hl,hw⟩
def GaveD(T:TypeId)(w:World)(zs:List Du)(e:Ending)(w':World):Prop:=∃v,e=.returned v∧Ld T w' w.heap.size v zs∧zB w w'
theorem GaveD.mk{T:TypeId}{w w':World}{zs:List Du}{v:Value}(h1:Ld T w' w.heap.size v zs)(h2:zB w w'):GaveD T w zs (.returned v) w':=⟨v,rfl,h1,h2⟩
end tar
namespace words
def sh(v:Nat)(k:Int):Nat:=if k<0 then v/2^(-k).toNat else v*2^k.toNat%2^64
def onesN(n:Nat):Nat:=2^n-1
theorem sh_bit(v:Nat)(k:Int)(j:Nat)(hj:j<64):(sh v k).testBit j=(decide (k≤j)&&v.testBit ((j:Int)-k).toNat):=by
 unfold sh;by_cases h:k<0
 ·rw[if_pos h,Nat.testBit_div_two_pow];have a:k≤(j:Int):=by omega
  rw[decide_eq_true a,Bool.true_and]
  congr 1;omega
 ·rw[if_neg h,Nat.testBit_mod_two_pow,Nat.testBit_mul_two_pow];rw[decide_eq_true hj,Bool.true_and];by_cases a:k≤(j:Int)
  ·rw[decide_eq_true a,decide_eq_true (show k.toNat≤j by omega)]
   congr 2;omega
  ·rw[decide_eq_false a,decide_eq_false (show ¬ k.toNat≤j by omega)];simp
theorem ones_bit(n j:Nat):(onesN n).testBit j=decide (j<n):=Nat.testBit_two_pow_sub_one ..
theorem bit_hi{x j k:Nat}(h:x<2^k)(hj:k≤j):x.testBit j=false:=Nat.testBit_lt_two_pow (Nat.lt_of_lt_of_le h (Nat.pow_le_pow_right (by decide) hj))
def bit3(a b c:Nat)(m:Nat):Bool:=if m<32 then a.testBit m else if m<64 then b.testBit (m-32) else c.testBit (m-64)
def bitsN(a b c lo n:Nat):Nat:=(sh a (0-lo) ||| sh b (32-lo) ||| sh c (64-lo)) &&& onesN n
theorem bits_bit{a b c lo n:Nat}(ha:a<2^32)(hb:b<2^32)(_hc:c<2^32)(hn:n≤64)(j:Nat):(bitsN a b c lo n).testBit j=(decide (j<n)&&bit3 a b c (j+lo)):=by
 unfold bitsN;rw[Nat.testBit_and,ones_bit];by_cases f:j<n
 ·rw[decide_eq_true f,Bool.and_true,Bool.true_and,Nat.testBit_or,Nat.testBit_or,sh_bit _ _ _ (by omega),sh_bit _ _ _ (by omega),sh_bit _ _ _ (by omega)];unfold bit3;rw[decide_eq_true (show (0:Int)-(lo:Int)≤(j:Int) by omega),Bool.true_and];have g:((j:Int)-(0-(lo:Int))).toNat=j+lo:=by omega
  have h:((j:Int)-(32-(lo:Int))).toNat=j+lo-32:=by omega
  have i:((j:Int)-(64-(lo:Int))).toNat=j+lo-64:=by omega
  rw[g,h,i];by_cases d:j+lo<32
  ·rw[if_pos d,decide_eq_false (show ¬ (32:Int)-(lo:Int)≤(j:Int) by omega),decide_eq_false (show ¬ (64:Int)-(lo:Int)≤(j:Int) by omega)];simp
  ·rw[if_neg d,decide_eq_true (show (32:Int)-(lo:Int)≤(j:Int) by omega),bit_hi ha (by omega)];by_cases e:j+lo<64
   ·rw[if_pos e,decide_eq_false (show ¬ (64:Int)-(lo:Int)≤(j:Int) by omega)];simp
   ·rw[if_neg e,decide_eq_true (show (64:Int)-(lo:Int)≤(j:Int) by omega),bit_hi hb (by omega)];simp
 ·rw[decide_eq_false f];simp
def putN(x v n:Nat)(k:Int):Nat:=(x &&& (2^32-1-sh (onesN n) k%2^32)) ||| (sh v k%2^32)
theorem put_bit(x v n:Nat)(k:Int)(j:Nat)(hj:j<32):(putN x v n k).testBit j=(x.testBit j && !(decide (k≤j)&&decide ((j:Int)-k<n))||(decide (k≤j)&&v.testBit ((j:Int)-k).toNat)):=by
 unfold putN;have e:2^32-1-sh (onesN n) k%2^32=2^32-(sh (onesN n) k%2^32+1):=by omega
 rw[Nat.testBit_or,Nat.testBit_and,e,Nat.testBit_two_pow_sub_succ (Nat.mod_lt _ (by decide)),Nat.testBit_mod_two_pow,Nat.testBit_mod_two_pow,decide_eq_true hj,Bool.true_and,Bool.true_and,Bool.true_and,sh_bit _ _ _ (by omega),sh_bit _ _ _ (by omega),ones_bit];by_cases b:k≤(j:Int)
 ·have a:decide (((j:Int)-k).toNat<n)=decide ((j:Int)-k<n):=by
   rw[decide_eq_decide];omega
  rw[a]
 ·rw[decide_eq_false b];simp
theorem put_lt(x v n:Nat)(k:Int)(hx:x<2^32):putN x v n k<2^32:=by
 unfold putN;have a:sh v k%2^32<2^32:=Nat.mod_lt _ (by decide);exact Nat.or_lt_two_pow (Nat.lt_of_le_of_lt Nat.and_le_left hx) a
theorem put_bits{a b c v lo n:Nat}(hv:v<2^n)(m:Nat)(hm:m<96):
  bit3 (putN a v n lo) (putN b v n ((lo:Int)-32)) (putN c v n ((lo:Int)-64)) m=if lo≤m∧m<lo+n then v.testBit (m-lo) else bit3 a b c m:=by
 have key:∀(x:Nat)(j:Nat)(k:Int),j<32→k+(m:Int)=lo+j→(putN x v n k).testBit j=if lo≤m∧m<lo+n then v.testBit (m-lo) else x.testBit j:=by
  intro x j k g h;rw[put_bit _ _ _ _ _ g];by_cases d:k≤(j:Int)
  ·have f:((j:Int)-k).toNat=m-lo:=by omega
   rw[decide_eq_true d,f];by_cases e:(j:Int)-k<n
   ·rw[decide_eq_true e,if_pos (by omega)];simp
   ·rw[decide_eq_false e,if_neg (by omega),bit_hi hv (by omega)];simp
  ·rw[decide_eq_false d,if_neg (by omega)];simp
 unfold bit3;by_cases d:m<32
 ·rw[if_pos d,if_pos d];exact key a m lo d (by omega)
 ·rw[if_neg d,if_neg d];by_cases e:m<64
  ·rw[if_pos e,if_pos e];exact key b (m-32) _ (by omega) (by omega)
  ·rw[if_neg e,if_neg e];exact key c (m-64) _ (by omega) (by omega)
theorem bits_put{a b c v lo n:Nat}(ha:a<2^32)(hb:b<2^32)(hc:c<2^32)(hv:v<2^n)(hn:n≤64)(hl:lo+n≤96):
  bitsN (putN a v n lo) (putN b v n ((lo:Int)-32)) (putN c v n ((lo:Int)-64)) lo n=v:=by
 apply Nat.eq_of_testBit_eq;intro j;rw[bits_bit (put_lt _ _ _ _ ha) (put_lt _ _ _ _ hb) (put_lt _ _ _ _ hc) hn];by_cases d:j<n
 ·rw[decide_eq_true d,Bool.true_and,put_bits hv _ (by omega),if_pos (by omega)]
  congr 1;omega
 ·rw[decide_eq_false d,Bool.false_and,bit_hi hv (by omega)]
end words
namespace cell
open Go.RowKit
def RowU(w:World)(a:Option Addr)(len:Nat)(zs:List Int):Prop:=
 zs.length=len∧(len=0∨∃b off,a=some ⟨b,off,none⟩∧∀i,i<len→w.cell? ⟨b,off+i,none⟩=some (.int .u32 (zs.getD i 0)))
variable{w:World}{a:Option Addr}{v:Value}{zs:List Int}{l:List Int}{base:Nat}
theorem RowU.below{w w':World}{n:Nat}(h:RowU w a n zs)(hb:zB w w'):RowU w' a n zs:=by
 refine⟨h.1,?_⟩;rcases h.2 with e|⟨b,c,rfl,f⟩
 ·exact .inl e
 ·refine .inr ⟨b,c,rfl,λi g=>?_⟩;have d:=f i g;rw[hb.cell (p:=⟨b,c+i,none⟩) (World.block_lt_of_cell? w _ d)];exact d
theorem RowU.nil(w:World)(a:Option Addr):RowU w a 0 []:=⟨rfl,.inl rfl⟩
theorem RowU.at{n:Nat}(h:RowU w a n zs)(h0:0<n):∃b off,a=some ⟨b,off,none⟩∧b<w.heap.size∧∀i,i<n→w.cell? ⟨b,off+i,none⟩=some (.int .u32 (zs.getD i 0)):=by
 rcases h.2 with d|⟨b,off,rfl,c⟩
 ·omega
 ·exact⟨b,off,rfl,World.block_lt_of_cell? w _ (c 0 h0),c⟩
theorem rowU_of{len cap M:Nat}
  (h:(a=none∧len=0∧cap=0∧zs=[])∨∃x,a=some x∧len≤cap∧cap*4≤M∧zs.length=cap∧(∀i,i<zs.length→w.cell? (x.add i)=some (.int .u32 (zs.getD i 0)))∧∀n∈zs,(Lit.int .u32 n).wf=true):
  RowU w a len (zs.take len)∧(a=none→cap=0)∧len*4≤M:=by
 rcases h with⟨rfl,rfl,rfl,rfl⟩|⟨x,rfl,k,l,m,e,o⟩
 ·exact⟨⟨rfl,.inl rfl⟩,λ_=>rfl,by omega⟩
 ·refine⟨⟨by rw[List.length_take];omega,?_⟩,(λh=>by cases h),by omega⟩;by_cases f:len=0
  ·exact .inl f
  ·refine .inr ?_;obtain⟨b,d,c⟩:=x;have j:c=none:=by simpa [Addr.add] using World.cell?_spot (e 0 (by omega))
   subst j;refine⟨b,d,rfl,λi g=>?_⟩;have:=e i (by omega);rw[Addr.add_lit] at this;rw[this]
   congr 2
   simp[g]
def Ws(w:World)(base:Nat)(v:Value)(zs:List Int):Prop:=w.ownsRow base 83 1 v zs.length (zs.map (.int .u32))
theorem Ws.zero(w:World)(base:Nat):Ws w base (zS) []:=World.ownsRow_nil _ _ _ _
theorem Ws.alloc(h:Ws w base v l)(o:Obj):Ws (w.alloc o) base v l:=World.ownsRow.alloc h o
theorem Ws.next{w w':World}(h:Ws w base v l)(hb:zB w w'):Ws w' base v l:=by
 refine⟨h.1,?_⟩;rcases h.2 with e|⟨g,a,b,f,d,c,rest⟩
 ·exact .inl e
 ·exact .inr ⟨g,a,b,f,d,Blk.next c hb,rest⟩
theorem Ws.row(h:Ws w base v l):∃a cap,v=.slice a l.length cap∧RowU w a l.length l∧(a=none→cap=0)∧l.length≤cap:=by
 rcases h.2 with⟨b,c⟩|⟨g,cap,d,b,_,_,e,_⟩
 ·exact⟨none,0,by rw[c];exact b,⟨rfl,.inl c⟩,λ_=>rfl,by omega⟩
 ·subst b;refine⟨_,cap,rfl,⟨rfl,.inr ⟨g,0,rfl,λi f=>?_⟩⟩,(λh=>by cases h),e⟩;have:=World.ownsRow.cellAt h i (by omega);rw[Nat.zero_add,this];simp[List.getD,f]
theorem own_far{base n k:Nat}{t:TypeId}{l:List Value}(h:w.ownsRow base t n v k l){G:Nat}(hG:G<base):some G≠v.ownBlock:=by
 intro e;have:=(World.ownsRow.lt h G e.symm).1;omega
theorem own_bel{w0 w w':World}{base B n k:Nat}{t:TypeId}{l:List Value}(h:w.ownsRow base t n v k l)(hg:w.grownBy w' v.ownBlock)(hb:Below B w0 w)(hB:B≤base)(hw:B≤w.heap.size):Below B w0 w':=by
 refine⟨hg.os.trans hb.os,hg.tape.trans hb.tape,hg.output.trans hb.output,Nat.le_trans hb.size hg.size,λk a=>?_⟩;rw[← hb.block k a];exact hg.block k (by omega) (own_far h (by omega))
theorem alloc_le{B:Nat}(h:B≤w.heap.size)(o:Obj):B≤(w.alloc o).heap.size:=by simp;omega
theorem info_u32:(Tryz.prog.info? 83).map (λi=>(i.zero,i.size,i.bytes))=some (some (.int .u32 0),1,4):=by kernel_rfl
theorem wp_word{ops:Array Oper}{rest:List Oper}{o:Oper}{a:Act}{Q:Exit→Act→World→Prop}(hgd:o.guard=none)(s x:Operand)
  (ho:o.op=.call { callee:=.builtin .append,args:=#[s,x],argTypes:=#[25,25] })
  (base G:Nat) (v:Value) (l:List Int) (r:Int) (hs:a.eval s=v) (hx:a.eval x=.slice (some ⟨G,0,none⟩) 1 1) (hv:Ws w base v l) (hu:w.cell? ⟨G,0,none⟩=some (.int .u32 r)) (hn:l.length≤1000000) (hbase:base≤w.heap.size)
  (h:∀v' w',Ws w' base v' (l++[r])→w.grownBy w' v.ownBlock→wpList Tryz.prog ops Q rest (a.put o.dst v') w'):wpList Tryz.prog ops Q (o::rest) a w:=by
 obtain⟨k,i,c,d,e⟩:=info_parts info_u32;refine wpList_append_own w hgd s x 25 ho base 83 k (.int .u32 0) 1 4 Tryz.underlying25 i c d e rfl (by decide) v l.length (l.map (.int .u32)) hs hv ⟨G,0,none⟩ 1 1 [.int .u32 r] hx rfl ?_ ?_ (by unfold maxLen;omega) (by omega) hbase ?_
 ·intro j u b
  match j,b with
  |0,b=>simp at b;subst b;simpa [Addr.add] using hu
 ·intro u hu;simp at hu;subst hu;rfl
 intro v' w' f g _;refine h v' w' ?_ g;unfold Ws;rw[List.length_append,List.map_append];exact f
end cell
namespace book
open Go.RowKit
structure Cu where
 me:Int
 rv:Int
 nx:Int
 mo:Int
 bo:Int
 fr:Int
 dp:Option Addr
 dn:Nat
 dc:Nat
 sp:Option Addr
 sn:Nat
 sc:Nat
def cu0:Cu:=⟨0,0,0,0,0,0,none,0,0,none,0,0⟩
def Cu.cs(x:Cu):List Value:=[zI x.me,zI x.rv,zI x.nx,zI x.mo,zI x.bo,zI x.fr,.slice x.dp x.dn x.dc,.slice x.sp x.sn x.sc]
def cellsC:List Cu→List Value
 |[]=>[]
 |x::l=>x.cs++cellsC l
theorem cellsC_len(l:List Cu):(cellsC l).length=l.length*8:=by
 induction l with
 |nil=>rfl
 |cons e l ih=>rw[cellsC,List.length_append,ih,List.length_cons];show 8+_=_;omega
theorem cellsC_app(l m:List Cu):cellsC (l++m)=cellsC l++cellsC m:=by
 induction l with
 |nil=>rfl
 |cons e l ih=>rw[List.cons_append,cellsC,cellsC,ih,List.append_assoc]
theorem oneC(l:List Cu):∀u∈cellsC l,u.oneCell'=true:=by
 induction l with
 |nil=>intro u a;cases a
 |cons e l ih=>
  intro u a;rw[cellsC] at a;rcases List.mem_append.1 a with a|a
  ·simp only[Cu.cs,List.mem_cons,List.not_mem_nil,or_false] at a;rcases a with rfl|rfl|rfl|rfl|rfl|rfl|rfl|rfl<;>rfl
  ·exact ih u a
theorem cellsC_at(l:List Cu)(k j:Nat)(hk:k<l.length)(hj:j<8):(cellsC l)[k*8+j]?=(l.getD k cu0).cs[j]?:=by
 induction l generalizing k with
 |nil=>simp at hk
 |cons x l ih=>
  have a:x.cs.length=8:=rfl;cases k with
  |zero=>rw[Nat.zero_mul,Nat.zero_add,cellsC,List.getElem?_append_left (by omega)];rfl
  |succ k=>
   rw[show (k+1)*8+j=x.cs.length+(k*8+j) by omega,cellsC,List.getElem?_append_right (by omega),Nat.add_sub_cancel_left];exact ih k (by simpa using hk)
def RowC(w:World)(a:Option Addr)(n:Nat)(l:List Cu):Prop:=l.length=n∧(n=0∨∃b off,a=some ⟨b,off,none⟩∧b<w.heap.size∧∀i j,i<n→j<8→w.cell? ⟨b,off+i*8+j,none⟩=(l.getD i cu0).cs[j]?)
variable{l:List Cu}
theorem RowC.below{w w':World}{a:Option Addr}{n:Nat}(h:RowC w a n l)(hb:zB w w'):RowC w' a n l:=by
 refine⟨h.1,?_⟩;rcases h.2 with e|⟨b,c,rfl,d,f⟩
 ·exact .inl e
 ·exact .inr ⟨b,c,rfl,Nat.lt_of_lt_of_le d hb.size,λi j g k=>(hb.cell (p:=⟨b,c+i*8+j,none⟩) d).trans (f i j g k)⟩
def Lc(w:World)(base:Nat)(v:Value)(l:List Cu):Prop:=w.ownsRow base 71 8 v l.length (cellsC l)
theorem Lc.zero(w:World)(base:Nat):Lc w base (zS) []:=World.ownsRow_nil _ _ _ _
theorem Lc.next{w w':World}{base:Nat}{v:Value}(h:Lc w base v l)(hb:zB w w'):Lc w' base v l:=by
 refine⟨h.1,?_⟩;rcases h.2 with e|⟨g,a,b,f,d,c,rest⟩
 ·exact .inl e
 ·exact .inr ⟨g,a,b,f,d,Blk.next c hb,rest⟩
theorem Lc.row{w:World}{base:Nat}{v:Value}(h:Lc w base v l):∃a cap,v=.slice a l.length cap∧RowC w a l.length l∧(a=none→cap=0)∧l.length≤cap:=by
 rcases h.2 with⟨b,c⟩|⟨g,cap,d,b,_,k,f,_⟩
 ·exact⟨none,0,by rw[c];exact b,⟨rfl,.inl c⟩,λ_=>rfl,by omega⟩
 ·subst b;refine⟨_,cap,rfl,⟨rfl,.inr ⟨g,0,rfl,Blk.lt k,λi j m n=>?_⟩⟩,(λh=>by cases h),f⟩;have e:=World.ownsRow.cellAt h (i*8+j) (by omega);rw[Nat.zero_add,e];exact cellsC_at l i j m n
theorem custI:(Tryz.prog.info? 71).map (λi=>(i.zero,i.size,i.bytes))=some (some (.agg cu0.cs.toArray),8,96):=by kernel_rfl
theorem step_cust{w:World}{o:Oper}{a:Act}{K:Act→World→Prop}{Q:Exit→Act→World→Prop}(s x:Operand)
  (ho:o.op=.call { callee:=.builtin .append,args:=#[s,x],argTypes:=#[63,63] })
  (base G:Nat) (v:Value) (l:List Cu) (r:Cu) (hs:a.eval s=v) (hx:a.eval x=.slice (some ⟨G,0,none⟩) 1 1) (hv:Lc w base v l) (hu:Blk w G r.cs.toArray 71) (hn:l.length≤2000000) (hbase:base≤w.heap.size)
  (h:∀v' w',Lc w' base v' (l++[r])→w.grownBy w' v.ownBlock→(v'.ownBlock=v.ownBlock∨v'.ownBlock=some w.heap.size)→K (a.put o.dst v') w'):Oper.wp Tryz.prog o a w K Q:=by
 obtain⟨n,k,b,c,d⟩:=info_parts custI
 obtain ⟨v',w',m,f,g,_,i⟩:=run_append_own_at (P:=Tryz.prog) w base 63 o.type 71 n (.agg cu0.cs.toArray) 8 96 Tryz.underlying63 k b c d rfl (by decide) v l.length (cellsC l) hv ⟨G,0,none⟩ 1 1 (cellsC [r]) (by rw [cellsC_len];rfl) (by
  intro j u e;rw[Addr.add_lit,Nat.zero_add,hu.cell j];rw[cellsC,cellsC,List.append_nil] at e
  simpa using e) (oneC [r]) (by unfold maxLen;omega) (by omega) hbase
 unfold Oper.wp execOp;simp only[ho,resolve,invoke,builtin,Sem.run_bind,Sem.run_pure,Result.andThen_ok,List.map_toArray,List.map_cons,List.map_nil,hs,hx,m];refine h v' w' ?_ g i;unfold Lc;rw[List.length_append,cellsC_app];exact f
def FindIs(l:List Cu)(me at_ f:Int):Prop:=(∃k,k<l.length∧(l.getD k cu0).me=me∧(∀j,j<k→(l.getD j cu0).me≠me)∧at_=(k:Int)∧f=0)∨((∀j,j<l.length→(l.getD j cu0).me≠me)∧at_=0∧f=18)
def FoundIs(l:List Cu)(me at_:Int):Prop:=(∃k,k<l.length∧(l.getD k cu0).me=me∧(∀j,j<k→(l.getD j cu0).me≠me)∧at_=(k:Int))∨((∀j,j<l.length→(l.getD j cu0).me≠me)∧at_=-1)
end book
namespace cell
open Go.RowKit
def RowW(w:World)(a:Option Addr)(len:Nat)(ls:List Wr):Prop:=
 ls.length=len∧(len=0∨∃b off,a=some ⟨b,off,none⟩∧∀i,i<len→w.cell? ⟨b,off+i*2,none⟩=some (zI (ls.getD i wr0).p)∧w.cell? ⟨b,off+i*2+1,none⟩=some (.int .u32 (ls.getD i wr0).d))
theorem RowW.below{w w':World}{a:Option Addr}{n:Nat}{zs:List Wr}(h:RowW w a n zs)(hb:zB w w'):RowW w' a n zs:=by
 refine⟨h.1,?_⟩;rcases h.2 with e|⟨b,c,rfl,f⟩
 ·exact .inl e
 ·refine .inr ⟨b,c,rfl,λi g=>?_⟩;have d:=f i g;rw[hb.cell (p:=⟨b,c+i*2,none⟩) (World.block_lt_of_cell? w _ d.1),hb.cell (p:=⟨b,c+i*2+1,none⟩) (World.block_lt_of_cell? w _ d.2)];exact d
theorem RowW.nil(w:World)(a:Option Addr):RowW w a 0 []:=⟨rfl,.inl rfl⟩
variable{w:World}
theorem RowW.at{a:Option Addr}{n:Nat}{zs:List Wr}(h:RowW w a n zs)(h0:0<n):∃b off,a=some ⟨b,off,none⟩∧b<w.heap.size∧∀i,i<n→w.cell? ⟨b,off+i*2,none⟩=some (zI (zs.getD i wr0).p)∧w.cell? ⟨b,off+i*2+1,none⟩=some (.int .u32 (zs.getD i wr0).d):=by
 rcases h.2 with e|⟨b,off,rfl,c⟩
 ·omega
 ·exact⟨b,off,rfl,World.block_lt_of_cell? w _ (c 0 h0).1,c⟩
def cellsW:List Wr→List Value
 |[]=>[]
 |e::l=>zI e.p :: .int .u32 e.d::cellsW l
theorem cellsW_app(l m:List Wr):cellsW (l++m)=cellsW l++cellsW m:=by
 induction l with
 |nil=>rfl
 |cons e l ih=>simp[cellsW,ih]
theorem oneW(l:List Wr):∀u∈cellsW l,u.oneCell'=true:=by
 induction l with
 |nil=>intro u a;cases a
 |cons e l ih=>
  intro u a;simp only[cellsW,List.mem_cons] at a;rcases a with rfl|rfl|a
  ·rfl
  ·rfl
  ·exact ih u a
theorem cellsW_at(l:List Wr)(k:Nat)(hk:k<l.length):(cellsW l)[k*2]?=some (zI (l.getD k wr0).p)∧(cellsW l)[k*2+1]?=some (.int .u32 (l.getD k wr0).d):=by
 induction l generalizing k with
 |nil=>simp at hk
 |cons x l ih=>
  cases k with
  |zero=>exact⟨rfl,rfl⟩
  |succ k=>
   rw[show (k+1)*2=k*2+1+1 by omega];have:=ih k (by simpa using hk);simpa [cellsW] using this
def Lw(w:World)(base:Nat)(v:Value)(l:List Wr):Prop:=w.ownsRow base 85 2 v l.length (cellsW l)
theorem Lw.zero(w:World)(base:Nat):Lw w base (zS) []:=World.ownsRow_nil _ _ _ _
theorem Lw.alloc{base:Nat}{v:Value}{l:List Wr}(h:Lw w base v l)(o:Obj):Lw (w.alloc o) base v l:=World.ownsRow.alloc h o
theorem Lw.row{base:Nat}{v:Value}{l:List Wr}(h:Lw w base v l):∃a cap,v=.slice a l.length cap∧RowW w a l.length l∧(a=none→cap=0)∧l.length≤cap∧(∀x,a=some x→x.off=0∧x.spot=none):=by
 rcases h.2 with⟨b,c⟩|⟨g,cap,d,b,_,_,j,_⟩
 ·exact⟨none,0,by rw[c];exact b,⟨rfl,.inl c⟩,λ_=>rfl,by omega,λx h=>by cases h⟩
 ·subst b;refine⟨_,cap,rfl,⟨rfl,.inr ⟨g,0,rfl,λi k=>?_⟩⟩,(λh=>by cases h),j,λx h=>by cases h;exact⟨rfl,rfl⟩⟩;have e:=World.ownsRow.cellAt h (i*2) (by omega);have f:=World.ownsRow.cellAt h (i*2+1) (by omega);rw[Nat.zero_add,e,f];exact cellsW_at l i k
theorem info_wr:(Tryz.prog.info? 85).map (λi=>(i.zero,i.size,i.bytes))=some (some (.agg #[zI 0,.int .u32 0]),2,16):=by kernel_rfl
theorem wp_write{ops:Array Oper}{rest:List Oper}{o:Oper}{a:Act}{Q:Exit→Act→World→Prop}(hgd:o.guard=none)(s x:Operand)
  (ho:o.op=.call { callee:=.builtin .append,args:=#[s,x],argTypes:=#[31,31] })
  (base G:Nat) (v:Value) (l:List Wr) (r:Wr) (hs:a.eval s=v) (hx:a.eval x=.slice (some ⟨G,0,none⟩) 1 1) (hv:Lw w base v l) (hu:w.cell? ⟨G,0,none⟩=some (zI r.p)∧w.cell? ⟨G,1,none⟩=some (.int .u32 r.d)) (hn:l.length≤1000000) (hbase:base≤w.heap.size)
  (h:∀v' w',Lw w' base v' (l++[r])→w.grownBy w' v.ownBlock→wpList Tryz.prog ops Q rest (a.put o.dst v') w'):wpList Tryz.prog ops Q (o::rest) a w:=by
 obtain⟨m,k,c,e,f⟩:=info_parts info_wr;refine wpList_append_own w hgd s x 31 ho base 85 m (.agg #[zI 0,.int .u32 0]) 2 16 Tryz.underlying31 k c e f rfl (by decide) v l.length (cellsW l) hs hv ⟨G,0,none⟩ 1 1 (cellsW [r]) hx rfl ?_ (oneW [r]) (by unfold maxLen;omega) (by omega) hbase ?_
 ·intro j u b
  match j,b with
  |0,b=>simp[cellsW] at b;subst b;simpa [Addr.add] using hu.1
  |1,b=>simp[cellsW] at b;subst b;simpa [Addr.add] using hu.2
  |j+2,b=>simp[cellsW] at b
 intro v' w' g i _;refine h v' w' ?_ i;unfold Lw;rw[List.length_append,cellsW_app];exact g
end cell
namespace tar
open Go.RowKit
abbrev Ln:={ t:Tr // LineOk t }
def encL(t:Ln):Array Value:=#[.agg #[zI t.1.a,zI t.1.b,zI t.1.c]]
def lns(l:List Ln):List Tr:=l.map (λt=>t.1)
theorem lns_app(l m:List Ln):lns (l++m)=lns l++lns m:=by unfold lns;rw[List.map_append]
theorem lns_len(l:List Ln):(lns l).length=l.length:=by unfold lns;rw[List.length_map]
theorem lns_ok(l:List Ln):∀t∈lns l,LineOk t:=λt a=>by
 unfold lns at a;obtain⟨s,_,rfl⟩:=List.mem_map.1 a;exact s.2
def Kq(n lo hi:Nat)(W W':World):Prop:=Below n W W'∧∀j,lo≤j→j<hi→W'.heap[j]?=W.heap[j]?
theorem Kq.trans{n lo hi:Nat}{A B C:World}(h:Kq n lo hi A B)(k:Kq n lo hi B C):Kq n lo hi A C:=⟨h.1.trans k.1,λj a b=>(k.2 j a b).trans (h.2 j a b)⟩
variable{l:List Du}
theorem nxt_yes(h:Right l)(x y:Int)(hx:0≤x)(hxy:x≤y)(k:Nat)(hk:k<l.length)(hp:0<min (l.getD k du0).a y-(x+manyK l x y k)):min (l.getD k du0).a y-(x+manyK l x y k)=ov (low l k) (l.getD k du0).a x y:=by
 have b:=many_eq h x y hx hxy k (by omega);have c:=h.rise k hk;have d:=h.low_pos k (by omega);rw[b] at hp ⊢;unfold ov;omega
theorem nxt_no(h:Right l)(x y:Int)(hx:0≤x)(hxy:x≤y)(k:Nat)(hk:k<l.length)(hp:¬ 0<min (l.getD k du0).a y-(x+manyK l x y k)):ov (low l k) (l.getD k du0).a x y=0:=by
 have b:=many_eq h x y hx hxy k (by omega);have c:=h.rise k hk;have d:=h.low_pos k (by omega);rw[b] at hp;unfold ov;omega
theorem many_next(l:List Du)(x y:Int)(k:Nat):manyK l x y (k+1)=manyK l x y k+ov (low l k) (l.getD k du0).a x y:=rfl
theorem many_bd(h:Right l)(x y:Int)(hx:0≤x)(hxy:x≤y)(k:Nat)(hk:k≤l.length):0≤manyK l x y k∧manyK l x y k≤y-x:=by
 rw[many_eq h x y hx hxy k hk];omega
theorem line_ok(h:Right l)(x y:Int)(k:Nat)(hk:k<l.length)(hp:0<ov (low l k) (l.getD k du0).a x y):LineOk ⟨ov (low l k) (l.getD k du0).a x y,(l.getD k du0).b,ov (low l k) (l.getD k du0).a x y*(l.getD k du0).b⟩:=by
 have c:=h.price k hk;have d:=h.upto k hk;have e:=h.low_pos k (by omega);exact⟨by show 1≤ov _ _ _ _;omega,ov_le _ _ _ _ e d.2,c.1,c.2,rfl⟩
theorem bill_prefix(l:List Du)(x y:Int)(k m:Nat)(hkm:k≤m):billK l x y k <+: billK l x y m:=by
 induction m with
 |zero=>
  have:k=0:=by omega
  subst this;exact List.prefix_refl _
 |succ m ih=>
  by_cases e:k=m+1
  ·subst e;exact List.prefix_refl _
  ·exact(ih (by omega)).trans (List.prefix_append (billK l x y m) (if 0<ov (low l m) (l.getD m du0).a x y then [⟨ov (low l m) (l.getD m du0).a x y,(l.getD m du0).b,ov (low l m) (l.getD m du0).a x y*(l.getD m du0).b⟩] else []))
end tar
end Go.Proofs.YtoepgdhiepedeaaGreatDoor
