import Derived.Test.YtoepgdhiepedeaaGreatDoorVVGts1
import Derived.Test.YtoepgdhiepedeaaGreatDoorVVGts3
set_option linter.unusedVariables false
set_option linter.unusedSimpArgs false
set_option maxHeartbeats 4000000
set_option maxRecDepth 100000
namespace Go.Proofs.YtoepgdhiepedeaaGreatDoor
namespace tar
open Go.RowKit
def RowD(w:World)(a:Option Addr)(len:Nat)(ls:List Du):Prop:=
 ls.length=len∧(len=0∨∃b off,a=some ⟨b,off,none⟩∧∀i,i<len→w.cell? ⟨b,off+i*2,none⟩=some (zI (ls.getD i du0).a)∧w.cell? ⟨b,off+i*2+1,none⟩=some (zI (ls.getD i du0).b))
variable{w:World}{v:Value}{l:List Du}{T:TypeId}{zs:List Du}{P:Program}{base:Nat}
theorem RowD.below{w w':World}{a:Option Addr}{n:Nat}(h:RowD w a n zs)(hb:zB w w'):RowD w' a n zs:=by
 refine⟨h.1,?_⟩;rcases h.2 with e|⟨b,c,rfl,f⟩
 ·exact .inl e
 ·refine .inr ⟨b,c,rfl,λi g=>?_⟩;have d:=f i g;rw[hb.cell (p:=⟨b,c+i*2,none⟩) (World.block_lt_of_cell? w _ d.1),hb.cell (p:=⟨b,c+i*2+1,none⟩) (World.block_lt_of_cell? w _ d.2)];exact d
theorem RowD.nil(w:World)(a:Option Addr):RowD w a 0 []:=⟨rfl,.inl rfl⟩
theorem RowD.at{a:Option Addr}{n:Nat}(h:RowD w a n zs)(h0:0<n):∃b off,a=some ⟨b,off,none⟩∧b<w.heap.size∧∀i,i<n→w.cell? ⟨b,off+i*2,none⟩=some (zI (zs.getD i du0).a)∧w.cell? ⟨b,off+i*2+1,none⟩=some (zI (zs.getD i du0).b):=by
 rcases h.2 with d|⟨b,off,rfl,c⟩
 ·omega
 ·exact⟨b,off,rfl,World.block_lt_of_cell? w _ (c 0 h0).1,c⟩
theorem rowD_of{a:Addr}{m len:Nat}(hl:len≤m)
  (h:∀j,j<m→∃z0 z1,w.cell? (a.add (j*2))=some (zI z0)∧w.cell? (a.add (j*2+1))=some (zI z1)∧(Lit.int .i64 z0).wf=true∧(Lit.int .i64 z1).wf=true):
  ∃zs:List Du,RowD w (some a) len zs∧∀x∈zs,(Lit.int .i64 x.a).wf=true∧(Lit.int .i64 x.b).wf=true:=by
 have g:∀j,∃e:Du,j<m→w.cell? (a.add (j*2))=some (zI e.a)∧w.cell? (a.add (j*2+1))=some (zI e.b)∧(Lit.int .i64 e.a).wf=true∧(Lit.int .i64 e.b).wf=true:=λj=>by
  by_cases c:j<m
  ·obtain⟨z0,z1,s⟩:=h j c;exact⟨⟨z0,z1⟩,λ_=>s⟩
  ·exact⟨du0,λo=>absurd o c⟩
 obtain⟨f,hf⟩:∃f:Nat→Du,∀j,j<m→w.cell? (a.add (j*2))=some (zI (f j).a)∧w.cell? (a.add (j*2+1))=some (zI (f j).b)∧(Lit.int .i64 (f j).a).wf=true∧(Lit.int .i64 (f j).b).wf=true:=⟨λj=>Classical.choose (g j),λj c=>Classical.choose_spec (g j) c⟩
 clear g h;refine⟨(List.range len).map f,⟨by simp,?_⟩,λx r=>?_⟩
 ·by_cases n:len=0
  ·exact .inl n
  ·obtain⟨b,l,d⟩:=a;have q:d=none:=by simpa [Addr.add] using World.cell?_spot (hf 0 (by omega)).1
   subst q;refine .inr ⟨b,l,rfl,λi p=>?_⟩;have k:=hf i (by omega);rw[Addr.add_lit,Addr.add_lit,← Nat.add_assoc] at k;have e:((List.range len).map f).getD i du0=f i:=by simp[List.getD,p]
   rw[e];exact⟨k.1,k.2.1⟩
 ·obtain⟨j,c,rfl⟩:=List.mem_map.1 r;exact(hf j (by have:=List.mem_range.1 c;omega)).2.2
def cellsD:List Du→List Value
 |[]=>[]
 |e::l=>zI e.a::zI e.b::cellsD l
theorem cellsD_len(l:List Du):(cellsD l).length=l.length*2:=by
 induction l with
 |nil=>rfl
 |cons e l ih=>simp[cellsD,ih];omega
theorem cellsD_app(l m:List Du):cellsD (l++m)=cellsD l++cellsD m:=by
 induction l with
 |nil=>rfl
 |cons e l ih=>simp[cellsD,ih]
theorem oneD(l:List Du):∀u∈cellsD l,u.oneCell'=true:=by
 induction l with
 |nil=>intro u a;cases a
 |cons e l ih=>
  intro u a;simp only[cellsD,List.mem_cons] at a;rcases a with rfl|rfl|a
  ·rfl
  ·rfl
  ·exact ih u a
theorem cellsD_at(l:List Du)(k:Nat)(hk:k<l.length):(cellsD l)[k*2]?=some (zI (l.getD k du0).a)∧(cellsD l)[k*2+1]?=some (zI (l.getD k du0).b):=by
 induction l generalizing k with
 |nil=>simp at hk
 |cons x l ih=>
  cases k with
  |zero=>exact⟨rfl,rfl⟩
  |succ k=>
   rw[show (k+1)*2=k*2+1+1 by omega];have:=ih k (by simpa using hk);simpa [cellsD] using this
theorem cellsD_get{b off len:Nat}(hz:zs.length=len)(hc:∀i,i<len→w.cell? ⟨b,off+i*2,none⟩=some (zI (zs.getD i du0).a)∧w.cell? ⟨b,off+i*2+1,none⟩=some (zI (zs.getD i du0).b))(j:Nat)(u:Value)(hu:(cellsD zs)[j]?=some u):w.cell? ⟨b,off+j,none⟩=some u:=by
 have g:j<(cellsD zs).length:=by
  by_cases h:j<(cellsD zs).length
  ·exact h
  ·rw[List.getElem?_eq_none (by omega)] at hu;cases hu
 rw[cellsD_len] at g;have d:=cellsD_at zs (j/2) (by omega);have f:=hc (j/2) (by omega);rcases Nat.mod_two_eq_zero_or_one j with e|e
 ·have c:j/2*2=j:=by omega
  rw[c] at d f;rw[d.1] at hu;rw[f.1];exact hu
 ·have c:j/2*2+1=j:=by omega
  rw[Nat.add_assoc,c] at f;rw[c] at d;rw[d.2] at hu;rw[f.2];exact hu
def Ld(T:TypeId)(w:World)(base:Nat)(v:Value)(l:List Du):Prop:=w.ownsRow base T 2 v l.length (cellsD l)
theorem Ld.zero(T:TypeId)(w:World)(base:Nat):Ld T w base (zS) []:=World.ownsRow_nil _ _ _ _
theorem Ld.alloc(h:Ld T w base v l)(o:Obj):Ld T (w.alloc o) base v l:=World.ownsRow.alloc h o
theorem Ld.next{w w':World}(h:Ld T w base v l)(hb:zB w w'):Ld T w' base v l:=by
 refine⟨h.1,?_⟩;rcases h.2 with e|⟨g,a,b,f,d,c,rest⟩
 ·exact .inl e
 ·exact .inr ⟨g,a,b,f,d,Blk.next c hb,rest⟩
theorem Ld.low{base base':Nat}(h:Ld T w base v l)(hb:base'≤base):Ld T w base' v l:=by
 refine⟨h.1,?_⟩;rcases h.2 with c|⟨g,a,b,d,e,rest⟩
 ·exact .inl c
 ·exact .inr ⟨g,a,b,d,by omega,rest⟩
theorem Ld.row(h:Ld T w base v l):∃a cap,v=.slice a l.length cap∧RowD w a l.length l∧(a=none→cap=0)∧l.length≤cap∧(∀x,a=some x→x.off=0∧x.spot=none):=by
 rcases h.2 with⟨b,c⟩|⟨g,cap,d,b,_,_,j,_⟩
 ·exact⟨none,0,by rw[c];exact b,⟨rfl,.inl c⟩,λ_=>rfl,by omega,λx h=>by cases h⟩
 ·subst b;refine⟨_,cap,rfl,⟨rfl,.inr ⟨g,0,rfl,λi k=>?_⟩⟩,(λh=>by cases h),j,λx h=>by cases h;exact⟨rfl,rfl⟩⟩;have e:=World.ownsRow.cellAt h (i*2) (by omega);have f:=World.ownsRow.cellAt h (i*2+1) (by omega);rw[Nat.zero_add,e,f];exact cellsD_at l i k
theorem own_far{base n k:Nat}{t:TypeId}{l:List Value}(h:w.ownsRow base t n v k l){G:Nat}(hG:G<base):some G≠v.ownBlock:=by
 intro e;have:=(World.ownsRow.lt h G e.symm).1;omega
theorem own_bel{w0 w w':World}{base B n k:Nat}{t:TypeId}{l:List Value}(h:w.ownsRow base t n v k l)(hg:w.grownBy w' v.ownBlock)(hb:Below B w0 w)(hB:B≤base)(hw:B≤w.heap.size):Below B w0 w':=by
 refine⟨hg.os.trans hb.os,hg.tape.trans hb.tape,hg.output.trans hb.output,Nat.le_trans hb.size hg.size,λk a=>?_⟩;rw[← hb.block k a];exact hg.block k (by omega) (own_far h (by omega))
theorem bel_drewN{B:Nat}{w w':World}(h:Below B w w')(n:Nat):Below B w (w'.drewN n):=⟨h.os,h.tape,h.output,h.size,h.block⟩
structure PairT (P:Program) (T S:TypeId):Prop where
 info:(P.info? T).map (λi=>(i.zero,i.size,i.bytes))=some (some (.agg #[zI 0,zI 0]),2,16)
 under:P.underlying S=some (.slice T)
theorem wp_pair{T S:TypeId}(hP:PairT P T S){w:World}{ops:Array Oper}{rest:List Oper}{o:Oper}{a:Act}{Q:Exit→Act→World→Prop}(hgd:o.guard=none)(s x:Operand)
  (ho:o.op=.call { callee:=.builtin .append,args:=#[s,x],argTypes:=#[S,S] })
  (base G:Nat) (v:Value) (l:List Du) (r:Du) (hs:a.eval s=v) (hx:a.eval x=.slice (some ⟨G,0,none⟩) 1 1) (hv:Ld T w base v l) (hu:w.cell? ⟨G,0,none⟩=some (zI r.a)∧w.cell? ⟨G,1,none⟩=some (zI r.b)) (hn:l.length≤1000000) (hbase:base≤w.heap.size)
  (h:∀v' w',Ld T w' base v' (l++[r])→w.grownBy w' v.ownBlock→wpList P ops Q rest (a.put o.dst v') w'):wpList P ops Q (o::rest) a w:=by
 obtain⟨m,k,d,e,f⟩:=info_parts hP.info;refine wpList_append_own w hgd s x S ho base T m (.agg #[zI 0,zI 0]) 2 16 hP.under k d e f rfl (by decide) v l.length (cellsD l) hs hv ⟨G,0,none⟩ 1 1 (cellsD [r]) hx rfl ?_ (oneD [r]) (by unfold maxLen;omega) (by omega) hbase ?_
 ·intro j u c
  match j,c with
  |0,c=>simp[cellsD] at c;subst c;simpa [Addr.add] using hu.1
  |1,c=>simp[cellsD] at c;subst c;simpa [Addr.add] using hu.2
  |j+2,c=>simp[cellsD] at c
 intro v' w' g i _;refine h v' w' ?_ i;unfold Ld;rw[List.length_append,cellsD_app];exact g
theorem step_pair{T S:TypeId}(hP:PairT P T S){w:World}{ops:Array Oper}{o:Oper}{a:Act}{K:Act→World→Prop}{Q:Exit→Act→World→Prop}{E:Prop}(hgd:o.guard=none)(s x:Operand)
  (ho:o.op=.call { callee:=.builtin .append,args:=#[s,x],argTypes:=#[S,S] })
  (base G:Nat) (v:Value) (l:List Du) (r:Du) (hs:a.eval s=v) (hx:a.eval x=.slice (some ⟨G,0,none⟩) 1 1) (hv:Ld T w base v l) (hu:w.cell? ⟨G,0,none⟩=some (zI r.a)∧w.cell? ⟨G,1,none⟩=some (zI r.b)) (hn:l.length≤1000000) (hbase:base≤w.heap.size)
  (h:∀v' w',Ld T w' base v' (l++[r])→w.grownBy w' v.ownBlock→K (a.put o.dst v') w'):if Region.wanted o (yielded ops a.tmps)=true then Oper.wp P o a w K Q else E:=by
 have n:Region.wanted o (yielded ops a.tmps)=true:=by simp[Region.wanted,hgd]
 rw[if_pos n];obtain⟨p,k,d,e,f⟩:=info_parts hP.info
 obtain ⟨v',w',m,g,i,_⟩:=run_append_own (P:=P) w base S o.type T p (.agg #[zI 0,zI 0]) 2 16 hP.under k d e f rfl (by decide) v l.length (cellsD l) hv ⟨G,0,none⟩ 1 1 (cellsD [r]) rfl (by
  intro j u c
  match j,c with
  |0,c=>simp[cellsD] at c;subst c;simpa [Addr.add] using hu.1
  |1,c=>simp[cellsD] at c;subst c;simpa [Addr.add] using hu.2
  | j+2,c=>simp [cellsD] at c) (oneD [r]) (by unfold maxLen;omega) (by omega) hbase
 unfold Oper.wp execOp;simp only[ho,resolve,invoke,builtin,Sem.run_bind,Sem.run_pure,Result.andThen_ok,List.map_toArray,List.map_cons,List.map_nil,hs,hx,m];refine h v' w' ?_ i;unfold Ld;rw[List.length_append,cellsD_app];exact g
theorem wp_pairs{T S:TypeId}(hP:PairT P T S){w:World}{ops:Array Oper}{rest:List Oper}{o:Oper}{a:Act}{Q:Exit→Act→World→Prop}(hgd:o.guard=none)(s x:Operand)
  (ho:o.op=.call { callee:=.builtin .append,args:=#[s,x],argTypes:=#[S,S] })
  (base:Nat) (A:Addr) (len cap:Nat) (zs:List Du) (hs:a.eval s=zS) (hx:a.eval x=.slice (some A) len cap) (hr:RowD w (some A) len zs) (hl:len*16≤140737488351232) (hbase:base≤w.heap.size)
  (h:∀v' w',Ld T w' base v' zs→w.grownBy w' none→wpList P ops Q rest (a.put o.dst v') w'):wpList P ops Q (o::rest) a w:=by
 obtain⟨n,m,e,f,g⟩:=info_parts hP.info;obtain⟨d,hr⟩:=hr;refine wpList_append_own w hgd s x S ho base T n (.agg #[zI 0,zI 0]) 2 16 hP.under m e f g rfl (by decide) _ _ _ hs (World.ownsRow_nil _ _ _ _) A len cap (cellsD zs) hx ?_ ?_ (oneD zs) (by unfold maxLen;omega) (by omega) hbase ?_
 ·rw[cellsD_len,d]
 ·intro j u c;rcases hr with h|⟨b,p,h,l⟩
  ·rw[List.getElem?_eq_none (by rw[cellsD_len];omega)] at c;cases c
  ·obtain rfl:=Option.some.inj h;rw[Addr.add_lit];exact cellsD_get d l j u c
 ·intro v' w' i k _;refine h v' w' ?_ (by simpa [Value.ownBlock] using k);show w'.ownsRow _ _ _ _ _ _;rw[d];simpa using i
end tar
namespace ora
structure Pr where
 m:Int
 r:Int
 b:Int
 t:Int
def pr0:Pr:=⟨0,0,0,0⟩
def Pr.key(p:Pr)(m r b:Int):Prop:=p.m=m∧p.r=r∧p.b=b
structure At (l:List Pr) (m r b:Int) (i:Nat):Prop where
 lt:i<l.length
 is:(l.getD i pr0).key m r b
 first:∀j,j<i→¬ (l.getD j pr0).key m r b
def No(l:List Pr)(m r b:Int):Prop:=∀j,j<l.length→¬ (l.getD j pr0).key m r b
variable{l:List Pr}
theorem At.one{m r b:Int}{i j:Nat}(h:At l m r b i)(h':At l m r b j):i=j:=by
 rcases Nat.lt_trichotomy i j with a|a|a
 ·exact absurd h.is (h'.first i a)
 ·exact a
 ·exact absurd h'.is (h.first j a)
theorem At.not{m r b:Int}{i:Nat}(h:At l m r b i):¬ No l m r b:=λa=>a i h.lt h.is
def Pr.may(p:Pr):Prop:=(0≤p.m∧p.m≤49)∧(0≤p.r∧p.r≤15)∧(0≤p.b∧p.b≤8796093022207)∧(0≤p.t∧p.t≤65535)
structure May (l:List Pr):Prop where
 few:l.length≤500
 each:∀i,i<l.length→(l.getD i pr0).may∧At l (l.getD i pr0).m (l.getD i pr0).r (l.getD i pr0).b i
theorem find_or(l:List Pr)(m r b:Int):(∃i,At l m r b i)∨No l m r b:=by
 have key:∀k,k≤l.length→(∃i,At l m r b i)∨∀j,j<k→¬ (l.getD j pr0).key m r b:=by
  intro k
  induction k with
  |zero=>intro _;exact .inr λj a=>absurd a (Nat.not_lt_zero _)
  |succ k ih=>
   intro d;rcases ih (by omega) with h|h
   ·exact .inl h
   ·by_cases c:(l.getD k pr0).key m r b
    ·exact .inl ⟨k,d,c,h⟩
    ·refine .inr λj a=>?_;by_cases e:j=k
     ·subst e;exact c
     ·exact h j (by omega)
 rcases key l.length zc with h|h
 ·exact .inl h
 ·exact .inr h
def IssueIs(l:List Pr)(m r b d:Int)(ls:List Pr)(x c:Int):Prop:=
 (¬ May l∧ls=[]∧x=0∧c=5)∨(May l∧¬ (Pr.mk m r b d).may∧ls=[]∧x=0∧c=2) ∨
  (May l∧(Pr.mk m r b d).may∧(∃i,At l m r b i∧x=(l.getD i pr0).t)∧ls=l∧c=0) ∨
  (May l∧(Pr.mk m r b d).may∧No l m r b∧l.length=500∧ls=[]∧x=0∧c=16) ∨
  (May l∧(Pr.mk m r b d).may∧No l m r b∧l.length<500∧ls=l++[⟨m,r,b,d⟩]∧x=d∧c=0)
theorem IssueIs.one{m r b d:Int}{ls ls':List Pr}{x x' c c':Int}(h:IssueIs l m r b d ls x c)(h':IssueIs l m r b d ls' x' c'):ls=ls'∧x=x'∧c=c':=by
 rcases h with⟨a,rfl,rfl,rfl⟩|⟨a,f,rfl,rfl,rfl⟩|⟨a,f,⟨i,n,rfl⟩,rfl,rfl⟩|⟨a,f,k,q,rfl,rfl,rfl⟩|⟨a,f,k,q,rfl,rfl,rfl⟩<;>
  rcases h' with⟨e,rfl,rfl,rfl⟩|⟨e,g,rfl,rfl,rfl⟩|⟨e,g,⟨j,p,rfl⟩,rfl,rfl⟩|⟨e,g,o,s,rfl,rfl,rfl⟩|⟨e,g,o,s,rfl,rfl,rfl⟩<;>
  first|exact⟨rfl,rfl,rfl⟩|exact absurd e a|exact absurd a e|exact absurd g f|exact absurd f g|(exfalso;omega)|exact absurd o n.not|exact absurd k p.not|skip
 have:=n.one p;subst this;exact⟨rfl,rfl,rfl⟩
open Go.RowKit
def PrAt(w:World)(b o:Nat)(p:Pr):Prop:=w.cell? ⟨b,o,none⟩=some (zI p.m)∧w.cell? ⟨b,o+1,none⟩=some (zI p.r)∧w.cell? ⟨b,o+2,none⟩=some (zI p.b)∧w.cell? ⟨b,o+3,none⟩=some (zI p.t)
theorem PrAt.below{w w':World}{b o:Nat}{p:Pr}(h:PrAt w b o p)(hb:zB w w'):PrAt w' b o p:=by
 have a:b<w.heap.size:=World.block_lt_of_cell? w _ h.1;exact⟨(hb.cell (p:=⟨b,o,none⟩) a).trans h.1,(hb.cell (p:=⟨b,o+1,none⟩) a).trans h.2.1,(hb.cell (p:=⟨b,o+2,none⟩) a).trans h.2.2.1,(hb.cell (p:=⟨b,o+3,none⟩) a).trans h.2.2.2⟩
def RowP(w:World)(a:Option Addr)(len:Nat)(ps:List Pr):Prop:=
 ps.length=len∧(len=0∨∃b off,a=some ⟨b,off,none⟩∧∀i,i<len→PrAt w b (off+i*4) (ps.getD i pr0))
variable{w:World}{v:Value}{l:List Pr}{base:Nat}{ps:List Pr}{t:TypeId}
theorem RowP.below{w w':World}{a:Option Addr}{n:Nat}(h:RowP w a n ps)(hb:zB w w'):RowP w' a n ps:=by
 refine⟨h.1,?_⟩;rcases h.2 with d|⟨b,c,rfl,e⟩
 ·exact .inl d
 ·exact .inr ⟨b,c,rfl,λi f=>(e i f).below hb⟩
theorem RowP.nil(w:World)(a:Option Addr):RowP w a 0 []:=⟨rfl,.inl rfl⟩
theorem RowP.at{a:Option Addr}{n:Nat}(h:RowP w a n ps)(h0:0<n):∃b off,a=some ⟨b,off,none⟩∧b<w.heap.size∧∀i,i<n→PrAt w b (off+i*4) (ps.getD i pr0):=by
 rcases h.2 with d|⟨b,off,rfl,c⟩
 ·omega
 ·exact⟨b,off,rfl,World.block_lt_of_cell? w _ (c 0 h0).1,c⟩
def cellsP:List Pr→List Value
 |[]=>[]
 |p::l=>zI p.m::zI p.r::zI p.b::zI p.t::cellsP l
theorem cellsP_len(l:List Pr):(cellsP l).length=l.length*4:=by
 induction l with
 |nil=>rfl
 |cons e l ih=>simp[cellsP,ih];omega
theorem cellsP_app(l m:List Pr):cellsP (l++m)=cellsP l++cellsP m:=by
 induction l with
 |nil=>rfl
 |cons e l ih=>simp[cellsP,ih]
theorem oneP(l:List Pr):∀u∈cellsP l,u.oneCell'=true:=by
 induction l with
 |nil=>intro u a;cases a
 |cons e l ih=>
  intro u a;simp only[cellsP,List.mem_cons] at a;rcases a with rfl|rfl|rfl|rfl|a
  ·rfl
  ·rfl
  ·rfl
  ·rfl
  ·exact ih u a
theorem cellsP_at(l:List Pr)(k:Nat)(hk:k<l.length):(cellsP l)[k*4]?=some (zI (l.getD k pr0).m)∧(cellsP l)[k*4+1]?=some (zI (l.getD k pr0).r)∧(cellsP l)[k*4+2]?=some (zI (l.getD k pr0).b)∧(cellsP l)[k*4+3]?=some (zI (l.getD k pr0).t):=by
 induction l generalizing k with
 |nil=>simp at hk
 |cons x l ih=>
  cases k with
  |zero=>exact⟨rfl,rfl,rfl,rfl⟩
  |succ k=>
   rw[show (k+1)*4=k*4+1+1+1+1 by omega];have:=ih k (by simpa using hk);simpa [cellsP] using this
theorem cellsP_get{b off len:Nat}(hz:ps.length=len)(hc:∀i,i<len→PrAt w b (off+i*4) (ps.getD i pr0))(j:Nat)(u:Value)(hu:(cellsP ps)[j]?=some u):w.cell? ⟨b,off+j,none⟩=some u:=by
 have f:j<(cellsP ps).length:=by
  by_cases h:j<(cellsP ps).length
  ·exact h
  ·rw[List.getElem?_eq_none (by omega)] at hu;cases hu
 rw[cellsP_len] at f;have d:=cellsP_at ps (j/4) (by omega);have c:=hc (j/4) (by omega);have e:j%4=0∨j%4=1∨j%4=2∨j%4=3:=by omega
 unfold PrAt at c;rcases e with e|e|e|e
 ·have a:j/4*4=j:=by omega
  rw[a] at d c;rw[d.1] at hu;rw[c.1];exact hu
 ·have a:j/4*4+1=j:=by omega
  rw[Nat.add_assoc off,a] at c;rw[a] at d;rw[d.2.1] at hu;rw[c.2.1];exact hu
 ·have a:j/4*4+2=j:=by omega
  rw[Nat.add_assoc off (j/4*4) 2,a] at c;rw[a] at d;rw[d.2.2.1] at hu;rw[c.2.2.1];exact hu
 ·have a:j/4*4+3=j:=by omega
  rw[Nat.add_assoc off (j/4*4) 3,a] at c;rw[a] at d;rw[d.2.2.2] at hu;rw[c.2.2.2];exact hu
def Pw(w:World)(base:Nat)(v:Value)(l:List Pr):Prop:=w.ownsRow base 87 4 v l.length (cellsP l)
theorem Pw.zero(w:World)(base:Nat):Pw w base (zS) []:=World.ownsRow_nil _ _ _ _
theorem Pw.alloc(h:Pw w base v l)(o:Obj):Pw (w.alloc o) base v l:=World.ownsRow.alloc h o
theorem Pw.next{w w':World}(h:Pw w base v l)(hb:zB w w'):Pw w' base v l:=by
 refine⟨h.1,?_⟩;rcases h.2 with e|⟨g,a,b,f,d,c,rest⟩
 ·exact .inl e
 ·exact .inr ⟨g,a,b,f,d,Blk.next c hb,rest⟩
theorem Pw.low{base base':Nat}(h:Pw w base v l)(hb:base'≤base):Pw w base' v l:=by
 refine⟨h.1,?_⟩;rcases h.2 with c|⟨g,a,b,d,e,rest⟩
 ·exact .inl c
 ·exact .inr ⟨g,a,b,d,by omega,rest⟩
theorem Pw.put(h:Pw w base v l)(G i:Nat)(u:Value)(hG:G<base):Pw (w.setCell ⟨G,i,none⟩ u) base v l:=by
 refine⟨h.1,?_⟩;rcases h.2 with e|⟨g,a,b,f,d,c,rest⟩
 ·exact .inl e
 ·exact .inr ⟨g,a,b,f,d,Blk.other c i u (by omega),rest⟩
theorem Pw.row(h:Pw w base v l):∃a cap,v=.slice a l.length cap∧RowP w a l.length l∧(a=none→cap=0)∧l.length≤cap:=by
 rcases h.2 with⟨b,c⟩|⟨g,cap,d,b,_,_,m,_⟩
 ·exact⟨none,0,by rw[c];exact b,⟨rfl,.inl c⟩,λ_=>rfl,by omega⟩
 ·subst b;refine⟨_,cap,rfl,⟨rfl,.inr ⟨g,0,rfl,λi n=>?_⟩⟩,(λh=>by cases h),m⟩;have e:=World.ownsRow.cellAt h (i*4) (by omega);have f:=World.ownsRow.cellAt h (i*4+1) (by omega);have j:=World.ownsRow.cellAt h (i*4+2) (by omega);have k:=World.ownsRow.cellAt h (i*4+3) (by omega);unfold PrAt;rw[Nat.zero_add,e,f,j,k];exact cellsP_at l i n
theorem pown_far{base n k:Nat}{l:List Value}(h:w.ownsRow base t n v k l){G:Nat}(hG:G<base):some G≠v.ownBlock:=by
 intro e;have:=(World.ownsRow.lt h G e.symm).1;omega
theorem pown_bel{w0 w w':World}{base B n k:Nat}{l:List Value}(h:w.ownsRow base t n v k l)(hg:w.grownBy w' v.ownBlock)(hb:Below B w0 w)(hB:B≤base)(hw:B≤w.heap.size):Below B w0 w':=by
 refine⟨hg.os.trans hb.os,hg.tape.trans hb.tape,hg.output.trans hb.output,Nat.le_trans hb.size hg.size,λk a=>?_⟩;rw[← hb.block k a];exact hg.block k (by omega) (pown_far h (by omega))
theorem palloc_le{B:Nat}(h:B≤w.heap.size)(o:Obj):B≤(w.alloc o).heap.size:=by simp;omega
theorem Blk.pgrown{w w':World}{G:Nat}{cs:Array Value}{row:Option Nat}(h:Blk w G cs t)(hg:w.grownBy w' row)(hne:some G≠row):Blk w' G cs t:=by
 have:=hg.block G h.lt hne;unfold Blk at *;rw[this];exact h
theorem pr_cell(w:World)(m r b t:Int):PrAt (w.alloc (.cells #[zI m,zI r,zI b,zI t] 87)) w.heap.size 0 ⟨m,r,b,t⟩:=
 ⟨(Blk.new w _ _).cell 0,(Blk.new w _ _).cell 1,(Blk.new w _ _).cell 2,(Blk.new w _ _).cell 3⟩
theorem info_pr:(Tryz.prog.info? 87).map (λi=>(i.zero,i.size,i.bytes))=some (some (.agg #[zI 0,zI 0,zI 0,zI 0]),4,32):=by kernel_rfl
theorem wp_pr{ops:Array Oper}{rest:List Oper}{o:Oper}{a:Act}{Q:Exit→Act→World→Prop}(hgd:o.guard=none)(s x:Operand)
  (ho:o.op=.call { callee:=.builtin .append,args:=#[s,x],argTypes:=#[26,26] })
  (base G:Nat) (v:Value) (l:List Pr) (r:Pr) (hs:a.eval s=v) (hx:a.eval x=.slice (some ⟨G,0,none⟩) 1 1) (hv:Pw w base v l) (hu:PrAt w G 0 r) (hn:l.length≤1000000) (hbase:base≤w.heap.size)
  (h:∀v' w',Pw w' base v' (l++[r])→w.grownBy w' v.ownBlock→wpList Tryz.prog ops Q rest (a.put o.dst v') w'):wpList Tryz.prog ops Q (o::rest) a w:=by
 obtain⟨k,i,c,d,e⟩:=info_parts info_pr;refine wpList_append_own w hgd s x 26 ho base 87 k (.agg #[zI 0,zI 0,zI 0,zI 0]) 4 32 Tryz.underlying26 i c d e rfl (by decide) v l.length (cellsP l) hs hv ⟨G,0,none⟩ 1 1 (cellsP [r]) hx rfl ?_ (oneP [r]) (by unfold maxLen;omega) (by omega) hbase ?_
 ·intro j u b
  match j,b with
  |0,b=>simp[cellsP] at b;subst b;simpa [Addr.add] using hu.1
  |1,b=>simp[cellsP] at b;subst b;simpa [Addr.add] using hu.2.1
  |2,b=>simp[cellsP] at b;subst b;simpa [Addr.add] using hu.2.2.1
  |3,b=>simp[cellsP] at b;subst b;simpa [Addr.add] using hu.2.2.2
  |j+4,b=>simp[cellsP] at b
 intro v' w' f g _;refine h v' w' ?_ g;unfold Pw;rw[List.length_append,cellsP_app];exact f
end ora
namespace rcp
open Go.RowKit
theorem reI(d:Nat)(a a':Int)(w:World):(Op.equalIn (d+1) 3 (zI a) (zI a')).run Tryz.prog w=.ok (a==a') w:=run_equalIn_int w d _ _ _ a a' Tryz.underlying3
theorem rp0(a b c d e f g h:Int)(t:ByteArray)(w:World):(part 3 #[zI a,zI b,zI c,zI d,zI e,zI f,zI g,zI h,.string t] 0).run Tryz.prog w=.ok (zI a) w:=by kernel_rfl
theorem rp1(a b c d e f g h:Int)(t:ByteArray)(w:World):(part 33 #[zI a,zI b,zI c,zI d,zI e,zI f,zI g,zI h,.string t] 1).run Tryz.prog w=.ok (.agg #[zI b,zI c,zI d,zI e,zI f,zI g,zI h]) w:=by kernel_rfl
theorem rp8(a b c d e f g h:Int)(t:ByteArray)(w:World):(part 9 #[zI a,zI b,zI c,zI d,zI e,zI f,zI g,zI h,.string t] 8).run Tryz.prog w=.ok (.string t) w:=by kernel_rfl
theorem rb0(b c d e f g h:Int)(w:World):(part 3 #[zI b,zI c,zI d,zI e,zI f,zI g,zI h] 0).run Tryz.prog w=.ok (zI b) w:=by kernel_rfl
theorem rb1(b c d e f g h:Int)(w:World):(part 3 #[zI b,zI c,zI d,zI e,zI f,zI g,zI h] 1).run Tryz.prog w=.ok (zI c) w:=by kernel_rfl
theorem rb2(b c d e f g h:Int)(w:World):(part 3 #[zI b,zI c,zI d,zI e,zI f,zI g,zI h] 2).run Tryz.prog w=.ok (zI d) w:=by kernel_rfl
theorem rb3(b c d e f g h:Int)(w:World):(part 3 #[zI b,zI c,zI d,zI e,zI f,zI g,zI h] 3).run Tryz.prog w=.ok (zI e) w:=by kernel_rfl
theorem rb4(b c d e f g h:Int)(w:World):(part 3 #[zI b,zI c,zI d,zI e,zI f,zI g,zI h] 4).run Tryz.prog w=.ok (zI f) w:=by kernel_rfl
theorem rb5(b c d e f g h:Int)(w:World):(part 3 #[zI b,zI c,zI d,zI e,zI f,zI g,zI h] 5).run Tryz.prog w=.ok (zI g) w:=by kernel_rfl
theorem rb6(b c d e f g h:Int)(w:World):(part 3 #[zI b,zI c,zI d,zI e,zI f,zI g,zI h] 6).run Tryz.prog w=.ok (zI h) w:=by kernel_rfl
theorem eqB(k:Nat)(b c d e f g h:Int)(w:World):(Op.equalIn (k+2) 33 (.agg #[zI b,zI c,zI d,zI e,zI f,zI g,zI h]) (.agg #[zI b,zI c,zI d,zI e,zI f,zI g,zI h])).run Tryz.prog w=.ok true w:=by
 rw[show k+2=(k+1)+1 from rfl,run_equalIn_agg w (k+1) 33 _ _ (by kernel_rfl) (by kernel_rfl)];simp only[Program.fieldsOf,Tryz.underlying33,Op.eqFields,Sem.run_bind,Sem.run_ite];simp[rb0,rb1,rb2,rb3,rb4,rb5,rb6,reI]
theorem reS(d:Nat)(t:ByteArray)(w:World):(Op.equalIn (d+1) 9 (.string t) (.string t)).run Tryz.prog w=.ok true w:=by
 have h:(t==t)=true:=by
  first
   |exact beq_self_eq_true t
   |exact BEq.rfl
   |(cases t with|mk d=>exact beq_self_eq_true d)
   |(cases t with|mk d=>simp[BEq.beq])
 simp[Op.equalIn,Tryz.underlying9,go_sem,h]
theorem eqRc(a b c d e f g h:Int)(t:ByteArray)(w:World):(Op.equalIn 10000 35 (.agg #[zI a,zI b,zI c,zI d,zI e,zI f,zI g,zI h,.string t]) (.agg #[zI a,zI b,zI c,zI d,zI e,zI f,zI g,zI h,.string t])).run Tryz.prog w=.ok true w:=by
 rw[show (10000:Nat)=9999+1 from rfl,run_equalIn_agg w 9999 35 _ _ (by kernel_rfl) (by kernel_rfl)];simp only[Program.fieldsOf,Tryz.underlying35,Op.eqFields,Sem.run_bind,Sem.run_ite];simp[rp0,rp1,rp8,show (9999:Nat)=9998+1 from rfl,show (9999:Nat)=9997+2 from rfl,reI,reS,eqB]
end rcp
end Go.Proofs.YtoepgdhiepedeaaGreatDoor
