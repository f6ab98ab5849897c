import Derived.Test.YtoepgdhiepedeaaGreatDoorVVRys1
set_option linter.unusedVariables false
set_option linter.unusedSimpArgs false
set_option maxHeartbeats 4000000
set_option maxRecDepth 100000
namespace Go.Proofs.YtoepgdhiepedeaaGreatDoor
namespace deb
open tar
def Ok1(d:Du):Prop:=(0≤d.a∧d.a≤1000000000)∧0≤d.b∧d.b≤10000
def DFits(l:List Du):Prop:=∀i,i<l.length→Ok1 (l.getD i du0)
def Mays(l:List Du):Prop:=l.length≤8∧DFits l
def FaultIs(l:List Du)(e:Int):Prop:=(¬ l.length≤8∧e=1)∨(l.length≤8∧¬ DFits l∧e=2)∨(Mays l∧e=0)
variable{l:List Du}{b x:Int}
theorem FaultIs.ok{e:Int}(h:FaultIs l e):e=0↔Mays l:=by
 rcases h with⟨a,rfl⟩|⟨a,b,rfl⟩|⟨h,rfl⟩
 ·exact⟨λh=>absurd h (by decide),λh=>absurd h.1 a⟩
 ·exact⟨λh=>absurd h (by decide),λh=>absurd h.2 b⟩
 ·exact⟨λ_=>h,λ_=>rfl⟩
theorem fits_mem(h:∀d∈l,Ok1 d):DFits l:=λi a=>by
 have e:l.getD i du0=l[i]:=by simp[List.getD,List.getElem?_eq_getElem a]
 rw[e];exact h _ (List.getElem_mem a)
theorem mem_fits(h:DFits l):∀d∈l,Ok1 d:=λd b=>by
 obtain⟨i,a,rfl⟩:=List.getElem_of_mem b;have e:l.getD i du0=l[i]:=by simp[List.getD,List.getElem?_eq_getElem a]
 rw[← e];exact h i a
def sumK(l:List Du):Nat→Int
 |0=>0
 |k+1=>sumK l k+(l.getD k du0).a
theorem sumK_next(l:List Du)(k:Nat):sumK l (k+1)=sumK l k+(l.getD k du0).a:=rfl
def sumD:List Du→Int
 |[]=>0
 |d::l=>d.a+sumD l
theorem sumD_app(l m:List Du):sumD (l++m)=sumD l+sumD m:=by
 induction l with
 |nil=>simp[sumD]
 |cons t l ih=>simp only[List.cons_append,sumD,ih];omega
theorem sumK_take(l:List Du)(k:Nat)(hk:k≤l.length):sumK l k=sumD (l.take k):=by
 induction k with
 |zero=>simp[sumK,sumD]
 |succ k ih=>rw[sumK_next,take_one l k (by omega),sumD_app,ih (by omega)];simp[sumD]
theorem sumK_all(l:List Du):sumK l l.length=sumD l:=by rw[sumK_take l _ zc,List.take_length]
theorem sumD_pos(h:∀d∈l,Ok1 d):0≤sumD l∧sumD l≤(l.length:Int)*1000000000:=by
 induction l with
 |nil=>exact⟨Int.le_refl _,Int.le_refl _⟩
 |cons t l ih=>
  have g:=ih λx c=>h x (List.mem_cons_of_mem _ c);have b:=h t List.mem_cons_self;obtain⟨⟨e,f⟩,_⟩:=b;refine⟨by show 0≤t.a+sumD l;omega,?_⟩;show t.a+sumD l≤((l.length+1:Nat):Int)*1000000000;omega
theorem sumK_bd(h:Mays l)(k:Nat)(hk:k≤l.length):0≤sumK l k∧sumK l k≤8000000000:=by
 rw[sumK_take l k hk];have a:=sumD_pos (l:=l.take k) λd b=>mem_fits h.2 d (List.mem_of_mem_take b);have c:(l.take k).length≤8:=by rw[List.length_take];have:=h.1;omega
 exact⟨a.1,by omega⟩
def OwedIs(l:List Du)(x e:Int):Prop:=FaultIs l e∧((e=0∧x=sumD l)∨(e≠0∧x=0))
def TMay(t bp:Int):Prop:=(0≤t∧t≤100000000)∧0≤bp∧bp≤10000
def ShareIs(t bp s e:Int):Prop:=(TMay t bp∧s=t*bp/10000∧e=0)∨(¬ TMay t bp∧s=0∧e=2)
theorem share_bd{t bp:Int}(h:TMay t bp):0≤t*bp/10000∧t*bp/10000≤100000000:=by
 obtain⟨⟨a,d⟩,b,c⟩:=h;have e:=Int.mul_nonneg a b;have f:t*bp≤t*10000:=Int.mul_le_mul_of_nonneg_left c a;generalize t*bp=p at *;omega
def left(a end_ s:Int):Int:=min a (end_-s)
def recK(l:List Du)(s:Int):Nat→List Du
 |0=>[]
 |k+1=>recK l s k++(if 0<left (l.getD k du0).a (sumK l (k+1)) s then [⟨left (l.getD k du0).a (sumK l (k+1)) s,(l.getD k du0).b⟩] else [])
theorem recK_yes(l:List Du)(s:Int)(k:Nat)(h:0<left (l.getD k du0).a (sumK l (k+1)) s):recK l s (k+1)=recK l s k++[⟨left (l.getD k du0).a (sumK l (k+1)) s,(l.getD k du0).b⟩]:=by
 show recK l s k++_=_;rw[if_pos h]
theorem recK_no(l:List Du)(s:Int)(k:Nat)(h:¬ 0<left (l.getD k du0).a (sumK l (k+1)) s):recK l s (k+1)=recK l s k:=by
 show recK l s k++_=_;rw[if_neg h,List.append_nil]
theorem recK_len(l:List Du)(s:Int)(k:Nat):(recK l s k).length≤k:=by
 induction k with
 |zero=>exact zc
 |succ k ih=>
  by_cases h:0<left (l.getD k du0).a (sumK l (k+1)) s
  ·rw[recK_yes l s k h,List.length_append];simp;omega
  ·rw[recK_no l s k h];omega
theorem recK_ok(h:Mays l)(s:Int)(k:Nat)(hk:k≤l.length):∀d∈recK l s k,Ok1 d∧1≤d.a:=by
 induction k with
 |zero=>intro d b;cases b
 |succ k ih=>
  intro d b;by_cases f:0<left (l.getD k du0).a (sumK l (k+1)) s
  ·rw[recK_yes l s k f] at b;rcases List.mem_append.1 b with b|b
   ·exact ih (by omega) d b
   ·have e:=List.mem_singleton.1 b;subst e;have c:=h.2 k (by omega);have g:left (l.getD k du0).a (sumK l (k+1)) s≤(l.getD k du0).a:=by unfold left;omega
    have i:=c.1.2;exact⟨⟨⟨by show 0≤left _ _ _;omega,by show left _ _ _≤_;omega⟩,c.2⟩,by show 1≤left _ _ _;omega⟩
  ·rw[recK_no l s k f] at b;exact ih (by omega) d b
def RecIs(l:List Du)(t bp:Int)(z:List Du)(p e:Int):Prop:=
 (¬ Mays l∧FaultIs l e∧z=[]∧p=0)∨(Mays l∧¬ TMay t bp∧e=2∧z=[]∧p=0)∨(Mays l∧TMay t bp∧e=0∧z=recK l (t*bp/10000) l.length∧p=min (t*bp/10000) (sumD l))
theorem RecIs.got{t bp p e:Int}{z:List Du}(h:RecIs l t bp z p e)(hm:Mays l)(ht:TMay t bp):e=0∧z=recK l (t*bp/10000) l.length∧p=min (t*bp/10000) (sumD l):=by
 rcases h with⟨a,_⟩|⟨_,b,_⟩|⟨_,_,c⟩
 ·exact absurd hm a
 ·exact absurd ht b
 ·exact c
def grow(b x:Int):Int:=min 1000000000 (x+x*b/10000)
def growN(b:Int):Nat→Int→Int
 |0,x=>x
 |k+1,x=>grow b (growN b k x)
theorem grow_bd(hb:0≤b)(hb2:b≤10000)(hx:0≤x)(hx2:x≤1000000000):x≤grow b x∧grow b x≤1000000000:=by
 have a:=Int.mul_nonneg hx hb;unfold grow;generalize x*b=p at *;omega
theorem growN_bd(hb:0≤b)(hb2:b≤10000)(hx:0≤x)(hx2:x≤1000000000)(k:Nat):x≤growN b k x∧growN b k x≤1000000000:=by
 induction k with
 |zero=>exact⟨Int.le_refl _,hx2⟩
 |succ k ih=>
  have:=grow_bd hb hb2 (show 0≤growN b k x by omega) ih.2;exact⟨by show x≤grow b _;omega,this.2⟩
theorem growN_add(b:Int)(j k:Nat)(x:Int):growN b k (growN b j x)=growN b (j+k) x:=by
 induction k with
 |zero=>rfl
 |succ k ih=>show grow b _=grow b _;rw[ih];rfl
theorem growN_still(h:grow b x=x)(k:Nat):growN b k x=x:=by
 induction k with
 |zero=>rfl
 |succ k ih=>show grow b (growN b k x)=x;rw[ih,h]
def ageAll(l:List Du)(m:Nat):List Du:=l.map λd=>⟨growN d.b m d.a,d.b⟩
theorem ageAll_len(l:List Du)(m:Nat):(ageAll l m).length=l.length:=List.length_map _
theorem ageAll_at(l:List Du)(m:Nat)(i:Nat)(hi:i<l.length):(ageAll l m).getD i du0=⟨growN (l.getD i du0).b m (l.getD i du0).a,(l.getD i du0).b⟩:=by
 unfold ageAll;simp[List.getD,List.getElem?_eq_getElem hi]
theorem ageAll_mays(h:Mays l)(m:Nat):Mays (ageAll l m):=by
 refine⟨by rw[ageAll_len];exact h.1,λi a=>?_⟩;rw[ageAll_len] at a;rw[ageAll_at l m i a];obtain⟨⟨d,e⟩,b,c⟩:=h.2 i a;have:=growN_bd b c d e m;exact⟨⟨by show 0≤growN _ _ _;omega,this.2⟩,b,c⟩
theorem ageAll_take(l:List Du)(m k:Nat)(hk:k<l.length):ageAll (l.take (k+1)) m=ageAll (l.take k) m++[⟨growN (l.getD k du0).b m (l.getD k du0).a,(l.getD k du0).b⟩]:=by
 rw[take_one l k hk];unfold ageAll;rw[List.map_append];rfl
def AgeIs(l:List Du)(m:Int)(z:List Du)(e:Int):Prop:=(¬ Mays l∧FaultIs l e∧z=[])∨(Mays l∧¬ (0≤m∧m≤2400)∧e=2∧z=[])∨(Mays l∧(0≤m∧m≤2400)∧e=0∧z=ageAll l m.toNat)
theorem AgeIs.got{m e:Int}{z:List Du}(h:AgeIs l m z e)(hm:Mays l)(ht:0≤m∧m≤2400):e=0∧z=ageAll l m.toNat:=by
 rcases h with⟨a,_⟩|⟨_,b,_⟩|⟨_,_,c⟩
 ·exact absurd hm a
 ·exact absurd ht b
 ·exact c
end deb
namespace tar
open Go.RowKit
def RowD(w:World)(a:Option Addr)(len:Nat)(ls:List Du):Prop:=
 ls.length=len∧(len=0∨∃b off,a=some ⟨b,off,none⟩∧∀i,i<len→w.cell? ⟨b,off+i*2,none⟩=some (zI (ls.getD i du0).a)∧w.cell? ⟨b,off+i*2+1,none⟩=some (zI (ls.getD i du0).b))
variable{w:World}{v:Value}{l:List Du}{T:TypeId}{zs:List Du}{P:Program}{base:Nat}
theorem RowD.below{w w':World}{a:Option Addr}{n:Nat}(h:RowD w a n zs)(hb:zB w w'):RowD w' a n zs:=by
 refine⟨h.1,?_⟩;rcases h.2 with e|⟨b,c,rfl,f⟩
 ·exact .inl e
 ·refine .inr ⟨b,c,rfl,λi g=>?_⟩;have d:=f i g;rw[hb.cell (p:=⟨b,c+i*2,none⟩) (World.block_lt_of_cell? w _ d.1),hb.cell (p:=⟨b,c+i*2+1,none⟩) (World.block_lt_of_cell? w _ d.2)];exact d
theorem RowD.nil(w:World)(a:Option Addr):RowD w a 0 []:=⟨rfl,.inl rfl⟩
theorem RowD.at{a:Option Addr}{n:Nat}(h:RowD w a n zs)(h0:0<n):∃b off,a=some ⟨b,off,none⟩∧b<w.heap.size∧∀i,i<n→w.cell? ⟨b,off+i*2,none⟩=some (zI (zs.getD i du0).a)∧w.cell? ⟨b,off+i*2+1,none⟩=some (zI (zs.getD i du0).b):=by
 rcases h.2 with d|⟨b,off,rfl,c⟩
 ·omega
 ·exact⟨b,off,rfl,World.block_lt_of_cell? w _ (c 0 h0).1,c⟩
theorem rowD_of{a:Addr}{m len:Nat}(hl:len≤m)
  (h:∀j,j<m→∃z0 z1,w.cell? (a.add (j*2))=some (zI z0)∧w.cell? (a.add (j*2+1))=some (zI z1)∧(Lit.int .i64 z0).wf=true∧(Lit.int .i64 z1).wf=true):
  ∃zs:List Du,RowD w (some a) len zs∧∀x∈zs,(Lit.int .i64 x.a).wf=true∧(Lit.int .i64 x.b).wf=true:=by
 have g:∀j,∃e:Du,j<m→w.cell? (a.add (j*2))=some (zI e.a)∧w.cell? (a.add (j*2+1))=some (zI e.b)∧(Lit.int .i64 e.a).wf=true∧(Lit.int .i64 e.b).wf=true:=λj=>by
  by_cases c:j<m
  ·obtain⟨z0,z1,s⟩:=h j c;exact⟨⟨z0,z1⟩,λ_=>s⟩
  ·exact⟨du0,λo=>absurd o c⟩
 obtain⟨f,hf⟩:∃f:Nat→Du,∀j,j<m→w.cell? (a.add (j*2))=some (zI (f j).a)∧w.cell? (a.add (j*2+1))=some (zI (f j).b)∧(Lit.int .i64 (f j).a).wf=true∧(Lit.int .i64 (f j).b).wf=true:=⟨λj=>Classical.choose (g j),λj c=>Classical.choose_spec (g j) c⟩
 clear g h;refine⟨(List.range len).map f,⟨by simp,?_⟩,λx r=>?_⟩
 ·by_cases n:len=0
  ·exact .inl n
  ·obtain⟨b,l,d⟩:=a;have q:d=none:=by simpa [Addr.add] using World.cell?_spot (hf 0 (by omega)).1
   subst q;refine .inr ⟨b,l,rfl,λi p=>?_⟩;have k:=hf i (by omega);rw[Addr.add_lit,Addr.add_lit,← Nat.add_assoc] at k;have e:((List.range len).map f).getD i du0=f i:=by simp[List.getD,p]
   rw[e];exact⟨k.1,k.2.1⟩
 ·obtain⟨j,c,rfl⟩:=List.mem_map.1 r;exact(hf j (by have:=List.mem_range.1 c;omega)).2.2
def cellsD:List Du→List Value
 |[]=>[]
 |e::l=>zI e.a::zI e.b::cellsD l
theorem cellsD_len(l:List Du):(cellsD l).length=l.length*2:=by
 induction l with
 |nil=>rfl
 |cons e l ih=>simp[cellsD,ih];omega
theorem cellsD_app(l m:List Du):cellsD (l++m)=cellsD l++cellsD m:=by
 induction l with
 |nil=>rfl
 |cons e l ih=>simp[cellsD,ih]
theorem oneD(l:List Du):∀u∈cellsD l,u.oneCell'=true:=by
 induction l with
 |nil=>intro u a;cases a
 |cons e l ih=>
  intro u a;simp only[cellsD,List.mem_cons] at a;rcases a with rfl|rfl|a
  ·rfl
  ·rfl
  ·exact ih u a
theorem cellsD_at(l:List Du)(k:Nat)(hk:k<l.length):(cellsD l)[k*2]?=some (zI (l.getD k du0).a)∧(cellsD l)[k*2+1]?=some (zI (l.getD k du0).b):=by
 induction l generalizing k with
 |nil=>simp at hk
 |cons x l ih=>
  cases k with
  |zero=>exact⟨rfl,rfl⟩
  |succ k=>
   rw[show (k+1)*2=k*2+1+1 by omega];have:=ih k (by simpa using hk);simpa [cellsD] using this
theorem cellsD_get{b off len:Nat}(hz:zs.length=len)(hc:∀i,i<len→w.cell? ⟨b,off+i*2,none⟩=some (zI (zs.getD i du0).a)∧w.cell? ⟨b,off+i*2+1,none⟩=some (zI (zs.getD i du0).b))(j:Nat)(u:Value)(hu:(cellsD zs)[j]?=some u):w.cell? ⟨b,off+j,none⟩=some u:=by
 have g:j<(cellsD zs).length:=by
  by_cases h:j<(cellsD zs).length
  ·exact h
  ·rw[List.getElem?_eq_none (by omega)] at hu;cases hu
 rw[cellsD_len] at g;have d:=cellsD_at zs (j/2) (by omega);have f:=hc (j/2) (by omega);rcases Nat.mod_two_eq_zero_or_one j with e|e
 ·have c:j/2*2=j:=by omega
  rw[c] at d f;rw[d.1] at hu;rw[f.1];exact hu
 ·have c:j/2*2+1=j:=by omega
  rw[Nat.add_assoc,c] at f;rw[c] at d;rw[d.2] at hu;rw[f.2];exact hu
def Ld(T:TypeId)(w:World)(base:Nat)(v:Value)(l:List Du):Prop:=w.ownsRow base T 2 v l.length (cellsD l)
theorem Ld.zero(T:TypeId)(w:World)(base:Nat):Ld T w base (zS) []:=World.ownsRow_nil _ _ _ _
theorem Ld.alloc(h:Ld T w base v l)(o:Obj):Ld T (w.alloc o) base v l:=World.ownsRow.alloc h o
theorem Ld.next{w w':World}(h:Ld T w base v l)(hb:zB w w'):Ld T w' base v l:=by
 refine⟨h.1,?_⟩;rcases h.2 with e|⟨g,a,b,f,d,c,rest⟩
 ·exact .inl e
 ·exact .inr ⟨g,a,b,f,d,Blk.next c hb,rest⟩
theorem Ld.low{base base':Nat}(h:Ld T w base v l)(hb:base'≤base):Ld T w base' v l:=by
 refine⟨h.1,?_⟩;rcases h.2 with c|⟨g,a,b,d,e,rest⟩
 ·exact .inl c
 ·exact .inr ⟨g,a,b,d,by omega,rest⟩
theorem Ld.row(h:Ld T w base v l):∃a cap,v=.slice a l.length cap∧RowD w a l.length l∧(a=none→cap=0)∧l.length≤cap∧(∀x,a=some x→x.off=0∧x.spot=none):=by
 rcases h.2 with⟨b,c⟩|⟨g,cap,d,b,_,_,j,_⟩
 ·exact⟨none,0,by rw[c];exact b,⟨rfl,.inl c⟩,λ_=>rfl,by omega,λx h=>by cases h⟩
 ·subst b;refine⟨_,cap,rfl,⟨rfl,.inr ⟨g,0,rfl,λi k=>?_⟩⟩,(λh=>by cases h),j,λx h=>by cases h;exact⟨rfl,rfl⟩⟩;have e:=World.ownsRow.cellAt h (i*2) (by omega);have f:=World.ownsRow.cellAt h (i*2+1) (by omega);rw[Nat.zero_add,e,f];exact cellsD_at l i k
theorem own_far{base n k:Nat}{t:TypeId}{l:List Value}(h:w.ownsRow base t n v k l){G:Nat}(hG:G<base):some G≠v.ownBlock:=by
 intro e;have:=(World.ownsRow.lt h G e.symm).1;omega
theorem own_bel{w0 w w':World}{base B n k:Nat}{t:TypeId}{l:List Value}(h:w.ownsRow base t n v k l)(hg:w.grownBy w' v.ownBlock)(hb:Below B w0 w)(hB:B≤base)(hw:B≤w.heap.size):Below B w0 w':=by
 refine⟨hg.os.trans hb.os,hg.tape.trans hb.tape,hg.output.trans hb.output,Nat.le_trans hb.size hg.size,λk a=>?_⟩;rw[← hb.block k a];exact hg.block k (by omega) (own_far h (by omega))
theorem bel_drewN{B:Nat}{w w':World}(h:Below B w w')(n:Nat):Below B w (w'.drewN n):=⟨h.os,h.tape,h.output,h.size,h.block⟩
structure PairT (P:Program) (T S:TypeId):Prop where
 info:(P.info? T).map (λi=>(i.zero,i.size,i.bytes))=some (some (.agg #[zI 0,zI 0]),2,16)
 under:P.underlying S=some (.slice T)
theorem wp_pair{T S:TypeId}(hP:PairT P T S){w:World}{ops:Array Oper}{rest:List Oper}{o:Oper}{a:Act}{Q:Exit→Act→World→Prop}(hgd:o.guard=none)(s x:Operand)
  (ho:o.op=.call { callee:=.builtin .append,args:=#[s,x],argTypes:=#[S,S] })
  (base G:Nat) (v:Value) (l:List Du) (r:Du) (hs:a.eval s=v) (hx:a.eval x=.slice (some ⟨G,0,none⟩) 1 1) (hv:Ld T w base v l) (hu:w.cell? ⟨G,0,none⟩=some (zI r.a)∧w.cell? ⟨G,1,none⟩=some (zI r.b)) (hn:l.length≤1000000) (hbase:base≤w.heap.size)
  (h:∀v' w',Ld T w' base v' (l++[r])→w.grownBy w' v.ownBlock→wpList P ops Q rest (a.put o.dst v') w'):wpList P ops Q (o::rest) a w:=by
 obtain⟨m,k,d,e,f⟩:=info_parts hP.info;refine wpList_append_own w hgd s x S ho base T m (.agg #[zI 0,zI 0]) 2 16 hP.under k d e f rfl (by decide) v l.length (cellsD l) hs hv ⟨G,0,none⟩ 1 1 (cellsD [r]) hx rfl ?_ (oneD [r]) (by unfold maxLen;omega) (by omega) hbase ?_
 ·intro j u c
  match j,c with
  |0,c=>simp[cellsD] at c;subst c;simpa [Addr.add] using hu.1
  |1,c=>simp[cellsD] at c;subst c;simpa [Addr.add] using hu.2
  |j+2,c=>simp[cellsD] at c
 intro v' w' g i _;refine h v' w' ?_ i;unfold Ld;rw[List.length_append,cellsD_app];exact g
theorem step_pair{T S:TypeId}(hP:PairT P T S){w:World}{ops:Array Oper}{o:Oper}{a:Act}{K:Act→World→Prop}{Q:Exit→Act→World→Prop}{E:Prop}(hgd:o.guard=none)(s x:Operand)
  (ho:o.op=.call { callee:=.builtin .append,args:=#[s,x],argTypes:=#[S,S] })
  (base G:Nat) (v:Value) (l:List Du) (r:Du) (hs:a.eval s=v) (hx:a.eval x=.slice (some ⟨G,0,none⟩) 1 1) (hv:Ld T w base v l) (hu:w.cell? ⟨G,0,none⟩=some (zI r.a)∧w.cell? ⟨G,1,none⟩=some (zI r.b)) (hn:l.length≤1000000) (hbase:base≤w.heap.size)
  (h:∀v' w',Ld T w' base v' (l++[r])→w.grownBy w' v.ownBlock→K (a.put o.dst v') w'):if Region.wanted o (yielded ops a.tmps)=true then Oper.wp P o a w K Q else E:=by
 have n:Region.wanted o (yielded ops a.tmps)=true:=by simp[Region.wanted,hgd]
 rw[if_pos n];obtain⟨p,k,d,e,f⟩:=info_parts hP.info
 obtain ⟨v',w',m,g,i,_⟩:=run_append_own (P:=P) w base S o.type T p (.agg #[zI 0,zI 0]) 2 16 hP.under k d e f rfl (by decide) v l.length (cellsD l) hv ⟨G,0,none⟩ 1 1 (cellsD [r]) rfl (by
  intro j u c
  match j,c with
  |0,c=>simp[cellsD] at c;subst c;simpa [Addr.add] using hu.1
  |1,c=>simp[cellsD] at c;subst c;simpa [Addr.add] using hu.2
  | j+2,c=>simp [cellsD] at c) (oneD [r]) (by unfold maxLen;omega) (by omega) hbase
 unfold Oper.wp execOp;simp only[ho,resolve,invoke,builtin,Sem.run_bind,Sem.run_pure,Result.andThen_ok,List.map_toArray,List.map_cons,List.map_nil,hs,hx,m];refine h v' w' ?_ i;unfold Ld;rw[List.length_append,cellsD_app];exact g
theorem wp_pairs{T S:TypeId}(hP:PairT P T S){w:World}{ops:Array Oper}{rest:List Oper}{o:Oper}{a:Act}{Q:Exit→Act→World→Prop}(hgd:o.guard=none)(s x:Operand)
  (ho:o.op=.call { callee:=.builtin .append,args:=#[s,x],argTypes:=#[S,S] })
  (base:Nat) (A:Addr) (len cap:Nat) (zs:List Du) (hs:a.eval s=zS) (hx:a.eval x=.slice (some A) len cap) (hr:RowD w (some A) len zs) (hl:len*16≤140737488351232) (hbase:base≤w.heap.size)
  (h:∀v' w',Ld T w' base v' zs→w.grownBy w' none→wpList P ops Q rest (a.put o.dst v') w'):wpList P ops Q (o::rest) a w:=by
 obtain⟨n,m,e,f,g⟩:=info_parts hP.info;obtain⟨d,hr⟩:=hr;refine wpList_append_own w hgd s x S ho base T n (.agg #[zI 0,zI 0]) 2 16 hP.under m e f g rfl (by decide) _ _ _ hs (World.ownsRow_nil _ _ _ _) A len cap (cellsD zs) hx ?_ ?_ (oneD zs) (by unfold maxLen;omega) (by omega) hbase ?_
 ·rw[cellsD_len,d]
 ·intro j u c;rcases hr with h|⟨b,p,h,l⟩
  ·rw[List.getElem?_eq_none (by rw[cellsD_len];omega)] at c;cases c
  ·obtain rfl:=Option.some.inj h;rw[Addr.add_lit];exact cellsD_get d l j u c
 ·intro v' w' i k _;refine h v' w' ?_ (by simpa [Value.ownBlock] using k);show w'.ownsRow _ _ _ _ _ _;rw[d];simpa using i
end tar
namespace cell
open Go.RowKit
def RowU(w:World)(a:Option Addr)(len:Nat)(zs:List Int):Prop:=
 zs.length=len∧(len=0∨∃b off,a=some ⟨b,off,none⟩∧∀i,i<len→w.cell? ⟨b,off+i,none⟩=some (.int .u32 (zs.getD i 0)))
variable{w:World}{a:Option Addr}{v:Value}{zs:List Int}{l:List Int}{base:Nat}
theorem RowU.below{w w':World}{n:Nat}(h:RowU w a n zs)(hb:zB w w'):RowU w' a n zs:=by
 refine⟨h.1,?_⟩;rcases h.2 with e|⟨b,c,rfl,f⟩
 ·exact .inl e
 ·refine .inr ⟨b,c,rfl,λi g=>?_⟩;have d:=f i g;rw[hb.cell (p:=⟨b,c+i,none⟩) (World.block_lt_of_cell? w _ d)];exact d
theorem RowU.nil(w:World)(a:Option Addr):RowU w a 0 []:=⟨rfl,.inl rfl⟩
theorem RowU.at{n:Nat}(h:RowU w a n zs)(h0:0<n):∃b off,a=some ⟨b,off,none⟩∧b<w.heap.size∧∀i,i<n→w.cell? ⟨b,off+i,none⟩=some (.int .u32 (zs.getD i 0)):=by
 rcases h.2 with d|⟨b,off,rfl,c⟩
 ·omega
 ·exact⟨b,off,rfl,World.block_lt_of_cell? w _ (c 0 h0),c⟩
theorem rowU_of{len cap M:Nat}
  (h:(a=none∧len=0∧cap=0∧zs=[])∨∃x,a=some x∧len≤cap∧cap*4≤M∧zs.length=cap∧(∀i,i<zs.length→w.cell? (x.add i)=some (.int .u32 (zs.getD i 0)))∧∀n∈zs,(Lit.int .u32 n).wf=true):
  RowU w a len (zs.take len)∧(a=none→cap=0)∧len*4≤M:=by
 rcases h with⟨rfl,rfl,rfl,rfl⟩|⟨x,rfl,k,l,m,e,o⟩
 ·exact⟨⟨rfl,.inl rfl⟩,λ_=>rfl,by omega⟩
 ·refine⟨⟨by rw[List.length_take];omega,?_⟩,(λh=>by cases h),by omega⟩;by_cases f:len=0
  ·exact .inl f
  ·refine .inr ?_;obtain⟨b,d,c⟩:=x;have j:c=none:=by simpa [Addr.add] using World.cell?_spot (e 0 (by omega))
   subst j;refine⟨b,d,rfl,λi g=>?_⟩;have:=e i (by omega);rw[Addr.add_lit] at this;rw[this]
   congr 2
   simp[g]
def Ws(w:World)(base:Nat)(v:Value)(zs:List Int):Prop:=w.ownsRow base 83 1 v zs.length (zs.map (.int .u32))
theorem Ws.zero(w:World)(base:Nat):Ws w base (zS) []:=World.ownsRow_nil _ _ _ _
theorem Ws.alloc(h:Ws w base v l)(o:Obj):Ws (w.alloc o) base v l:=World.ownsRow.alloc h o
theorem Ws.next{w w':World}(h:Ws w base v l)(hb:zB w w'):Ws w' base v l:=by
 refine⟨h.1,?_⟩;rcases h.2 with e|⟨g,a,b,f,d,c,rest⟩
 ·exact .inl e
 ·exact .inr ⟨g,a,b,f,d,Blk.next c hb,rest⟩
theorem Ws.row(h:Ws w base v l):∃a cap,v=.slice a l.length cap∧RowU w a l.length l∧(a=none→cap=0)∧l.length≤cap:=by
 rcases h.2 with⟨b,c⟩|⟨g,cap,d,b,_,_,e,_⟩
 ·exact⟨none,0,by rw[c];exact b,⟨rfl,.inl c⟩,λ_=>rfl,by omega⟩
 ·subst b;refine⟨_,cap,rfl,⟨rfl,.inr ⟨g,0,rfl,λi f=>?_⟩⟩,(λh=>by cases h),e⟩;have:=World.ownsRow.cellAt h i (by omega);rw[Nat.zero_add,this];simp[List.getD,f]
theorem own_far{base n k:Nat}{t:TypeId}{l:List Value}(h:w.ownsRow base t n v k l){G:Nat}(hG:G<base):some G≠v.ownBlock:=by
 intro e;have:=(World.ownsRow.lt h G e.symm).1;omega
theorem own_bel{w0 w w':World}{base B n k:Nat}{t:TypeId}{l:List Value}(h:w.ownsRow base t n v k l)(hg:w.grownBy w' v.ownBlock)(hb:Below B w0 w)(hB:B≤base)(hw:B≤w.heap.size):Below B w0 w':=by
 refine⟨hg.os.trans hb.os,hg.tape.trans hb.tape,hg.output.trans hb.output,Nat.le_trans hb.size hg.size,λk a=>?_⟩;rw[← hb.block k a];exact hg.block k (by omega) (own_far h (by omega))
theorem alloc_le{B:Nat}(h:B≤w.heap.size)(o:Obj):B≤(w.alloc o).heap.size:=by simp;omega
theorem info_u32:(Tryz.prog.info? 83).map (λi=>(i.zero,i.size,i.bytes))=some (some (.int .u32 0),1,4):=by kernel_rfl
theorem wp_word{ops:Array Oper}{rest:List Oper}{o:Oper}{a:Act}{Q:Exit→Act→World→Prop}(hgd:o.guard=none)(s x:Operand)
  (ho:o.op=.call { callee:=.builtin .append,args:=#[s,x],argTypes:=#[25,25] })
  (base G:Nat) (v:Value) (l:List Int) (r:Int) (hs:a.eval s=v) (hx:a.eval x=.slice (some ⟨G,0,none⟩) 1 1) (hv:Ws w base v l) (hu:w.cell? ⟨G,0,none⟩=some (.int .u32 r)) (hn:l.length≤1000000) (hbase:base≤w.heap.size)
  (h:∀v' w',Ws w' base v' (l++[r])→w.grownBy w' v.ownBlock→wpList Tryz.prog ops Q rest (a.put o.dst v') w'):wpList Tryz.prog ops Q (o::rest) a w:=by
 obtain⟨k,i,c,d,e⟩:=info_parts info_u32;refine wpList_append_own w hgd s x 25 ho base 83 k (.int .u32 0) 1 4 Tryz.underlying25 i c d e rfl (by decide) v l.length (l.map (.int .u32)) hs hv ⟨G,0,none⟩ 1 1 [.int .u32 r] hx rfl ?_ ?_ (by unfold maxLen;omega) (by omega) hbase ?_
 ·intro j u b
  match j,b with
  |0,b=>simp at b;subst b;simpa [Addr.add] using hu
 ·intro u hu;simp at hu;subst hu;rfl
 intro v' w' f g _;refine h v' w' ?_ g;unfold Ws;rw[List.length_append,List.map_append];exact f
def RowW(w:World)(a:Option Addr)(len:Nat)(ls:List Wr):Prop:=
 ls.length=len∧(len=0∨∃b off,a=some ⟨b,off,none⟩∧∀i,i<len→w.cell? ⟨b,off+i*2,none⟩=some (zI (ls.getD i wr0).p)∧w.cell? ⟨b,off+i*2+1,none⟩=some (.int .u32 (ls.getD i wr0).d))
theorem RowW.below{w w':World}{a:Option Addr}{n:Nat}{zs:List Wr}(h:RowW w a n zs)(hb:zB w w'):RowW w' a n zs:=by
 refine⟨h.1,?_⟩;rcases h.2 with e|⟨b,c,rfl,f⟩
 ·exact .inl e
 ·refine .inr ⟨b,c,rfl,λi g=>?_⟩;have d:=f i g;rw[hb.cell (p:=⟨b,c+i*2,none⟩) (World.block_lt_of_cell? w _ d.1),hb.cell (p:=⟨b,c+i*2+1,none⟩) (World.block_lt_of_cell? w _ d.2)];exact d
theorem RowW.nil(w:World)(a:Option Addr):RowW w a 0 []:=⟨rfl,.inl rfl⟩
variable{w:World}
theorem RowW.at{a:Option Addr}{n:Nat}{zs:List Wr}(h:RowW w a n zs)(h0:0<n):∃b off,a=some ⟨b,off,none⟩∧b<w.heap.size∧∀i,i<n→w.cell? ⟨b,off+i*2,none⟩=some (zI (zs.getD i wr0).p)∧w.cell? ⟨b,off+i*2+1,none⟩=some (.int .u32 (zs.getD i wr0).d):=by
 rcases h.2 with e|⟨b,off,rfl,c⟩
 ·omega
 ·exact⟨b,off,rfl,World.block_lt_of_cell? w _ (c 0 h0).1,c⟩
def cellsW:List Wr→List Value
 |[]=>[]
 |e::l=>zI e.p :: .int .u32 e.d::cellsW l
theorem cellsW_app(l m:List Wr):cellsW (l++m)=cellsW l++cellsW m:=by
 induction l with
 |nil=>rfl
 |cons e l ih=>simp[cellsW,ih]
theorem oneW(l:List Wr):∀u∈cellsW l,u.oneCell'=true:=by
 induction l with
 |nil=>intro u a;cases a
 |cons e l ih=>
  intro u a;simp only[cellsW,List.mem_cons] at a;rcases a with rfl|rfl|a
  ·rfl
  ·rfl
  ·exact ih u a
theorem cellsW_at(l:List Wr)(k:Nat)(hk:k<l.length):(cellsW l)[k*2]?=some (zI (l.getD k wr0).p)∧(cellsW l)[k*2+1]?=some (.int .u32 (l.getD k wr0).d):=by
 induction l generalizing k with
 |nil=>simp at hk
 |cons x l ih=>
  cases k with
  |zero=>exact⟨rfl,rfl⟩
  |succ k=>
   rw[show (k+1)*2=k*2+1+1 by omega];have:=ih k (by simpa using hk);simpa [cellsW] using this
def Lw(w:World)(base:Nat)(v:Value)(l:List Wr):Prop:=w.ownsRow base 85 2 v l.length (cellsW l)
theorem Lw.zero(w:World)(base:Nat):Lw w base (zS) []:=World.ownsRow_nil _ _ _ _
theorem Lw.alloc{base:Nat}{v:Value}{l:List Wr}(h:Lw w base v l)(o:Obj):Lw (w.alloc o) base v l:=World.ownsRow.alloc h o
theorem Lw.row{base:Nat}{v:Value}{l:List Wr}(h:Lw w base v l):∃a cap,v=.slice a l.length cap∧RowW w a l.length l∧(a=none→cap=0)∧l.length≤cap∧(∀x,a=some x→x.off=0∧x.spot=none):=by
 rcases h.2 with⟨b,c⟩|⟨g,cap,d,b,_,_,j,_⟩
 ·exact⟨none,0,by rw[c];exact b,⟨rfl,.inl c⟩,λ_=>rfl,by omega,λx h=>by cases h⟩
 ·subst b;refine⟨_,cap,rfl,⟨rfl,.inr ⟨g,0,rfl,λi k=>?_⟩⟩,(λh=>by cases h),j,λx h=>by cases h;exact⟨rfl,rfl⟩⟩;have e:=World.ownsRow.cellAt h (i*2) (by omega);have f:=World.ownsRow.cellAt h (i*2+1) (by omega);rw[Nat.zero_add,e,f];exact cellsW_at l i k
theorem info_wr:(Tryz.prog.info? 85).map (λi=>(i.zero,i.size,i.bytes))=some (some (.agg #[zI 0,.int .u32 0]),2,16):=by kernel_rfl
theorem wp_write{ops:Array Oper}{rest:List Oper}{o:Oper}{a:Act}{Q:Exit→Act→World→Prop}(hgd:o.guard=none)(s x:Operand)
  (ho:o.op=.call { callee:=.builtin .append,args:=#[s,x],argTypes:=#[31,31] })
  (base G:Nat) (v:Value) (l:List Wr) (r:Wr) (hs:a.eval s=v) (hx:a.eval x=.slice (some ⟨G,0,none⟩) 1 1) (hv:Lw w base v l) (hu:w.cell? ⟨G,0,none⟩=some (zI r.p)∧w.cell? ⟨G,1,none⟩=some (.int .u32 r.d)) (hn:l.length≤1000000) (hbase:base≤w.heap.size)
  (h:∀v' w',Lw w' base v' (l++[r])→w.grownBy w' v.ownBlock→wpList Tryz.prog ops Q rest (a.put o.dst v') w'):wpList Tryz.prog ops Q (o::rest) a w:=by
 obtain⟨m,k,c,e,f⟩:=info_parts info_wr;refine wpList_append_own w hgd s x 31 ho base 85 m (.agg #[zI 0,.int .u32 0]) 2 16 Tryz.underlying31 k c e f rfl (by decide) v l.length (cellsW l) hs hv ⟨G,0,none⟩ 1 1 (cellsW [r]) hx rfl ?_ (oneW [r]) (by unfold maxLen;omega) (by omega) hbase ?_
 ·intro j u b
  match j,b with
  |0,b=>simp[cellsW] at b;subst b;simpa [Addr.add] using hu.1
  |1,b=>simp[cellsW] at b;subst b;simpa [Addr.add] using hu.2
  |j+2,b=>simp[cellsW] at b
 intro v' w' g i _;refine h v' w' ?_ i;unfold Lw;rw[List.length_append,cellsW_app];exact g
end cell
namespace ora
open Go.RowKit
def PrAt(w:World)(b o:Nat)(p:Pr):Prop:=w.cell? ⟨b,o,none⟩=some (zI p.m)∧w.cell? ⟨b,o+1,none⟩=some (zI p.r)∧w.cell? ⟨b,o+2,none⟩=some (zI p.b)∧w.cell? ⟨b,o+3,none⟩=some (zI p.t)
theorem PrAt.below{w w':World}{b o:Nat}{p:Pr}(h:PrAt w b o p)(hb:zB w w'):PrAt w' b o p:=by
 have a:b<w.heap.size:=World.block_lt_of_cell? w _ h.1;exact⟨(hb.cell (p:=⟨b,o,none⟩) a).trans h.1,(hb.cell (p:=⟨b,o+1,none⟩) a).trans h.2.1,(hb.cell (p:=⟨b,o+2,none⟩) a).trans h.2.2.1,(hb.cell (p:=⟨b,o+3,none⟩) a).trans h.2.2.2⟩
def RowP(w:World)(a:Option Addr)(len:Nat)(ps:List Pr):Prop:=
 ps.length=len∧(len=0∨∃b off,a=some ⟨b,off,none⟩∧∀i,i<len→PrAt w b (off+i*4) (ps.getD i pr0))
variable{w:World}{v:Value}{l:List Pr}{base:Nat}{ps:List Pr}{t:TypeId}
theorem RowP.below{w w':World}{a:Option Addr}{n:Nat}(h:RowP w a n ps)(hb:zB w w'):RowP w' a n ps:=by
 refine⟨h.1,?_⟩;rcases h.2 with d|⟨b,c,rfl,e⟩
 ·exact .inl d
 ·exact .inr ⟨b,c,rfl,λi f=>(e i f).below hb⟩
theorem RowP.nil(w:World)(a:Option Addr):RowP w a 0 []:=⟨rfl,.inl rfl⟩
theorem RowP.at{a:Option Addr}{n:Nat}(h:RowP w a n ps)(h0:0<n):∃b off,a=some ⟨b,off,none⟩∧b<w.heap.size∧∀i,i<n→PrAt w b (off+i*4) (ps.getD i pr0):=by
 rcases h.2 with d|⟨b,off,rfl,c⟩
 ·omega
 ·exact⟨b,off,rfl,World.block_lt_of_cell? w _ (c 0 h0).1,c⟩
def cellsP:List Pr→List Value
 |[]=>[]
 |p::l=>zI p.m::zI p.r::zI p.b::zI p.t::cellsP l
theorem cellsP_len(l:List Pr):(cellsP l).length=l.length*4:=by
 induction l with
 |nil=>rfl
 |cons e l ih=>simp[cellsP,ih];omega
theorem cellsP_app(l m:List Pr):cellsP (l++m)=cellsP l++cellsP m:=by
 induction l with
 |nil=>rfl
 |cons e l ih=>simp[cellsP,ih]
theorem oneP(l:List Pr):∀u∈cellsP l,u.oneCell'=true:=by
 induction l with
 |nil=>intro u a;cases a
 |cons e l ih=>
  intro u a;simp only[cellsP,List.mem_cons] at a;rcases a with rfl|rfl|rfl|rfl|a
  ·rfl
  ·rfl
  ·rfl
  ·rfl
  ·exact ih u a
theorem cellsP_at(l:List Pr)(k:Nat)(hk:k<l.length):(cellsP l)[k*4]?=some (zI (l.getD k pr0).m)∧(cellsP l)[k*4+1]?=some (zI (l.getD k pr0).r)∧(cellsP l)[k*4+2]?=some (zI (l.getD k pr0).b)∧(cellsP l)[k*4+3]?=some (zI (l.getD k pr0).t):=by
 induction l generalizing k with
 |nil=>simp at hk
 |cons x l ih=>
  cases k with
  |zero=>exact⟨rfl,rfl,rfl,rfl⟩
  |succ k=>
   rw[show (k+1)*4=k*4+1+1+1+1 by omega];have:=ih k (by simpa using hk);simpa [cellsP] using this
theorem cellsP_get{b off len:Nat}(hz:ps.length=len)(hc:∀i,i<len→PrAt w b (off+i*4) (ps.getD i pr0))(j:Nat)(u:Value)(hu:(cellsP ps)[j]?=some u):w.cell? ⟨b,off+j,none⟩=some u:=by
 have f:j<(cellsP ps).length:=by
  by_cases h:j<(cellsP ps).length
  ·exact h
  ·rw[List.getElem?_eq_none (by omega)] at hu;cases hu
 rw[cellsP_len] at f;have d:=cellsP_at ps (j/4) (by omega);have c:=hc (j/4) (by omega);have e:j%4=0∨j%4=1∨j%4=2∨j%4=3:=by omega
 unfold PrAt at c;rcases e with e|e|e|e
 ·have a:j/4*4=j:=by omega
  rw[a] at d c;rw[d.1] at hu;rw[c.1];exact hu
 ·have a:j/4*4+1=j:=by omega
  rw[Nat.add_assoc off,a] at c;rw[a] at d;rw[d.2.1] at hu;rw[c.2.1];exact hu
 ·have a:j/4*4+2=j:=by omega
  rw[Nat.add_assoc off (j/4*4) 2,a] at c;rw[a] at d;rw[d.2.2.1] at hu;rw[c.2.2.1];exact hu
 ·have a:j/4*4+3=j:=by omega
  rw[Nat.add_assoc off (j/4*4) 3,a] at c;rw[a] at d;rw[d.2.2.2] at hu;rw[c.2.2.2];exact hu
def Pw(w:World)(base:Nat)(v:Value)(l:List Pr):Prop:=w.ownsRow base 87 4 v l.length (cellsP l)
theorem Pw.zero(w:World)(base:Nat):Pw w base (zS) []:=World.ownsRow_nil _ _ _ _
theorem Pw.alloc(h:Pw w base v l)(o:Obj):Pw (w.alloc o) base v l:=World.ownsRow.alloc h o
theorem Pw.next{w w':World}(h:Pw w base v l)(hb:zB w w'):Pw w' base v l:=by
 refine⟨h.1,?_⟩;rcases h.2 with e|⟨g,a,b,f,d,c,rest⟩
 ·exact .inl e
 ·exact .inr ⟨g,a,b,f,d,Blk.next c hb,rest⟩
theorem Pw.low{base base':Nat}(h:Pw w base v l)(hb:base'≤base):Pw w base' v l:=by
 refine⟨h.1,?_⟩;rcases h.2 with c|⟨g,a,b,d,e,rest⟩
 ·exact .inl c
 ·exact .inr ⟨g,a,b,d,by omega,rest⟩
theorem Pw.put(h:Pw w base v l)(G i:Nat)(u:Value)(hG:G<base):Pw (w.setCell ⟨G,i,none⟩ u) base v l:=by
 refine⟨h.1,?_⟩;rcases h.2 with e|⟨g,a,b,f,d,c,rest⟩
 ·exact .inl e
 ·exact .inr ⟨g,a,b,f,d,Blk.other c i u (by omega),rest⟩
theorem Pw.row(h:Pw w base v l):∃a cap,v=.slice a l.length cap∧RowP w a l.length l∧(a=none→cap=0)∧l.length≤cap:=by
 rcases h.2 with⟨b,c⟩|⟨g,cap,d,b,_,_,m,_⟩
 ·exact⟨none,0,by rw[c];exact b,⟨rfl,.inl c⟩,λ_=>rfl,by omega⟩
 ·subst b;refine⟨_,cap,rfl,⟨rfl,.inr ⟨g,0,rfl,λi n=>?_⟩⟩,(λh=>by cases h),m⟩;have e:=World.ownsRow.cellAt h (i*4) (by omega);have f:=World.ownsRow.cellAt h (i*4+1) (by omega);have j:=World.ownsRow.cellAt h (i*4+2) (by omega);have k:=World.ownsRow.cellAt h (i*4+3) (by omega);unfold PrAt;rw[Nat.zero_add,e,f,j,k];exact cellsP_at l i n
theorem pown_far{base n k:Nat}{l:List Value}(h:w.ownsRow base t n v k l){G:Nat}(hG:G<base):some G≠v.ownBlock:=by
 intro e;have:=(World.ownsRow.lt h G e.symm).1;omega
theorem pown_bel{w0 w w':World}{base B n k:Nat}{l:List Value}(h:w.ownsRow base t n v k l)(hg:w.grownBy w' v.ownBlock)(hb:Below B w0 w)(hB:B≤base)(hw:B≤w.heap.size):Below B w0 w':=by
 refine⟨hg.os.trans hb.os,hg.tape.trans hb.tape,hg.output.trans hb.output,Nat.le_trans hb.size hg.size,λk a=>?_⟩;rw[← hb.block k a];exact hg.block k (by omega) (pown_far h (by omega))
theorem palloc_le{B:Nat}(h:B≤w.heap.size)(o:Obj):B≤(w.alloc o).heap.size:=by simp;omega
theorem Blk.pgrown{w w':World}{G:Nat}{cs:Array Value}{row:Option Nat}(h:Blk w G cs t)(hg:w.grownBy w' row)(hne:some G≠row):Blk w' G cs t:=by
 have:=hg.block G h.lt hne;unfold Blk at *;rw[this];exact h
theorem pr_cell(w:World)(m r b t:Int):PrAt (w.alloc (.cells #[zI m,zI r,zI b,zI t] 87)) w.heap.size 0 ⟨m,r,b,t⟩:=
 ⟨(Blk.new w _ _).cell 0,(Blk.new w _ _).cell 1,(Blk.new w _ _).cell 2,(Blk.new w _ _).cell 3⟩
theorem info_pr:(Tryz.prog.info? 87).map (λi=>(i.zero,i.size,i.bytes))=some (some (.agg #[zI 0,zI 0,zI 0,zI 0]),4,32):=by kernel_rfl
theorem wp_pr{ops:Array Oper}{rest:List Oper}{o:Oper}{a:Act}{Q:Exit→Act→World→Prop}(hgd:o.guard=none)(s x:Operand)
  (ho:o.op=.call { callee:=.builtin .append,args:=#[s,x],argTypes:=#[26,26] })
  (base G:Nat) (v:Value) (l:List Pr) (r:Pr) (hs:a.eval s=v) (hx:a.eval x=.slice (some ⟨G,0,none⟩) 1 1) (hv:Pw w base v l) (hu:PrAt w G 0 r) (hn:l.length≤1000000) (hbase:base≤w.heap.size)
  (h:∀v' w',Pw w' base v' (l++[r])→w.grownBy w' v.ownBlock→wpList Tryz.prog ops Q rest (a.put o.dst v') w'):wpList Tryz.prog ops Q (o::rest) a w:=by
 obtain⟨k,i,c,d,e⟩:=info_parts info_pr;refine wpList_append_own w hgd s x 26 ho base 87 k (.agg #[zI 0,zI 0,zI 0,zI 0]) 4 32 Tryz.underlying26 i c d e rfl (by decide) v l.length (cellsP l) hs hv ⟨G,0,none⟩ 1 1 (cellsP [r]) hx rfl ?_ (oneP [r]) (by unfold maxLen;omega) (by omega) hbase ?_
 ·intro j u b
  match j,b with
  |0,b=>simp[cellsP] at b;subst b;simpa [Addr.add] using hu.1
  |1,b=>simp[cellsP] at b;subst b;simpa [Addr.add] using hu.2.1
  |2,b=>simp[cellsP] at b;subst b;simpa [Addr.add] using hu.2.2.1
  |3,b=>simp[cellsP] at b;subst b;simpa [Addr.add] using hu.2.2.2
  |j+4,b=>simp[cellsP] at b
 intro v' w' f g _;refine h v' w' ?_ g;unfold Pw;rw[List.length_append,cellsP_app];exact f
end ora
end Go.Proofs.YtoepgdhiepedeaaGreatDoor
