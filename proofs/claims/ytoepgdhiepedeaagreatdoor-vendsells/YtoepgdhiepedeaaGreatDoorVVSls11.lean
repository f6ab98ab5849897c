import Derived.Test.YtoepgdhiepedeaaGreatDoorVVSls8
import Derived.Test.YtoepgdhiepedeaaGreatDoorVVSls9
import Derived.Test.YtoepgdhiepedeaaGreatDoorVVSls10
set_option linter.unusedVariables false
set_option linter.unusedSimpArgs false
set_option maxHeartbeats 4000000
set_option maxRecDepth 100000
namespace Go.Proofs.YtoepgdhiepedeaaGreatDoor
namespace book
open Go.RowKit
variable{w w':World}{base:Nat}{xs:List Cu}{bk:List Cm}{own:Option Nat}{V:Value}{x:Cu}{c:Cm}
theorem rowD_grown{a:Option Addr}{n:Nat}{zs:List tar.Du}(h:tar.RowD w a n zs)(hg:w.grownBy w' own)(hne:0<n→∀x,a=some x→some x.block≠own):tar.RowD w' a n zs:=by
 refine⟨h.1,?_⟩;rcases h.2 with f|⟨b,c,rfl,j⟩
 ·exact .inl f
 ·refine .inr ⟨b,c,rfl,λi k=>?_⟩;have d:=j i k;have g:=hg.block b (World.block_lt_of_cell? w ⟨b,c+i*2,none⟩ d.1) (hne (by omega) _ rfl);have e:∀o,w'.cell? ⟨b,o,none⟩=w.cell? ⟨b,o,none⟩:=λo=>by simp[World.cell?,g]
  rw[e,e];exact d
theorem came_grown{a:Option Addr}{n cap:Nat}{zs:List tar.Du}(h:tar.Came w a n cap zs)(hg:w.grownBy w' own)(hne:0<n→∀x,a=some x→some x.block≠own):tar.Came w' a n cap zs:=⟨rowD_grown h.row hg hne,h.nil,h.room,h.bytes,h.wf⟩
def Cu.sold(x:Cu):Value:=.slice x.sp x.sn x.sc
def Cu.v(x:Cu):Value:=.agg x.cs.toArray
def Nums(x:Cu)(a:acc.Ac):Prop:=x.me=a.me∧x.rv=a.rv∧x.nx=a.nx∧x.mo=a.mo∧x.bo=a.bo∧x.fr=a.fr
structure Has (w:World) (base:Nat) (x:Cu) (c:Cm):Prop where
 num:Nums x c.a
 ds:deb.Fresh w base x.dp x.dn x.dc c.a.ds
 so:Lo w base x.sold c.so
def Apart(x y:Cu):Prop:=(∀g,x.sold.ownBlock=some g→y.sold.ownBlock≠some g)∧(∀g,x.sold.ownBlock=some g→0<y.dn→∀p,y.dp=some p→p.block≠g)∧(∀g,y.sold.ownBlock=some g→0<x.dn→∀p,x.dp=some p→p.block≠g)
theorem Apart.symm{x y:Cu}(h:Apart x y):Apart y x:=⟨λg a b=>h.1 g b a,h.2.2,h.2.1⟩
def Off(x:Cu)(own:Option Nat):Prop:=(∀g,x.sold.ownBlock=some g→own≠some g)∧(0<x.dn→∀p,x.dp=some p→some p.block≠own)
theorem Has.next(h:Has w base x c)(hb:zB w w'):Has w' base x c:=⟨h.num,h.ds.below hb,h.so.next hb⟩
theorem Has.kept(h:Has w base x c)(hg:w.grownBy w' own)(ho:Off x own):Has w' base x c:=⟨h.num,⟨came_grown h.ds.came hg ho.2,h.ds.new⟩,h.so.kept hg ho.1⟩
structure Holds (w:World) (base:Nat) (V:Value) (xs:List Cu) (bk:List Cm):Prop where
 row:Lc w base V xs
 len:xs.length=bk.length
 has:∀i,i<xs.length→Has w base (xs.getD i cu0) (bk.getD i cm0)
 off:∀i,i<xs.length→Off (xs.getD i cu0) V.ownBlock
 self:∀i,i<xs.length→∀g,(xs.getD i cu0).sold.ownBlock=some g→0<(xs.getD i cu0).dn→∀p,(xs.getD i cu0).dp=some p→p.block≠g
 apart:∀i j,i<xs.length→j<xs.length→i≠j→Apart (xs.getD i cu0) (xs.getD j cu0)
theorem Holds.zero(w:World)(base:Nat):Holds w base (zS) [] []:=⟨Lc.zero _ _,rfl,(λi a=>by cases a),(λi a=>by cases a),(λi a=>by cases a),(λi j a=>by cases a)⟩
theorem Holds.next(h:Holds w base V xs bk)(hb:zB w w'):Holds w' base V xs bk:=⟨h.row.next hb,h.len,λi a=>(h.has i a).next hb,h.off,h.self,h.apart⟩
theorem getD_snoc{α:Type}(l:List α)(x d:α)(i:Nat)(hi:i<l.length+1):(l++[x]).getD i d=if i<l.length then l.getD i d else x:=by
 by_cases h:i<l.length
 ·rw[if_pos h];simp[List.getD,List.getElem?_append_left h]
 ·have:i=l.length:=by omega
  subst this;rw[if_neg h];simp[List.getD]
theorem Holds.snoc{V V':Value}(h:Holds w base V xs bk)(hx:Has w base x c)(hxs:x.sold.ownBlock=none)(hxd:x.dn=0)
  (hr:Lc w' base V' (xs++[x])) (hg:w.grownBy w' V.ownBlock) (ho:V'.ownBlock=V.ownBlock∨V'.ownBlock=some w.heap.size):Holds w' base V' (xs++[x]) (bk++[c]):=by
 have n:∀y:Cu,Off y V.ownBlock→(∀g,y.sold.ownBlock=some g→g<w.heap.size)→(0<y.dn→∀p,y.dp=some p→p.block<w.heap.size)→Off y V'.ownBlock:=λy k r D=>by
  rcases ho with e|e
  ·rw[e];exact k
  ·rw[e];exact⟨λg t q=>(by have:=r g t;have:=Option.some.inj q;omega),λl p z q=>(by have:=D l p z;have:=Option.some.inj q;omega)⟩
 have A:∀i,i<xs.length→∀g,(xs.getD i cu0).sold.ownBlock=some g→g<w.heap.size:=λi d g a=>(World.ownsRow.lt (h.has i d).so g a).2
 have B:∀i,i<xs.length→0<(xs.getD i cu0).dn→∀p,(xs.getD i cu0).dp=some p→p.block<w.heap.size:=λi d l p z=>by
  obtain⟨b,F,e,E,_⟩:=(h.has i d).ds.came.row.at l;rw[z] at e;rw[Option.some.inj e];exact E
 have o:Off x V.ownBlock:=⟨λg a=>(by rw[hxs] at a;cases a),λl=>by omega⟩
 have m:∀y:Cu,Apart y x:=λy=>⟨λg k r=>(by rw[hxs] at r;cases r),λg k l=>(by omega),λg k=>(by rw[hxs] at k;cases k)⟩;have f:Off x V'.ownBlock:=⟨λg a=>(by rw[hxs] at a;cases a),λl=>by omega⟩
 refine⟨hr,by rw[List.length_append,List.length_append,h.len];rfl,λi d=>?_,λi d=>?_,λi d=>?_,λi j d C u=>?_⟩
 all_goals simp only[List.length_append,List.length_cons,List.length_nil] at d
 ·rw[getD_snoc xs x cu0 i d,getD_snoc bk c cm0 i (by rw[← h.len];exact d)];by_cases q:i<xs.length
  ·rw[if_pos q,if_pos (by rw[← h.len];exact q)];exact(h.has i q).kept hg (h.off i q)
  ·rw[if_neg q,if_neg (by rw[← h.len];exact q)];exact hx.kept hg o
 ·rw[getD_snoc xs x cu0 i d];by_cases q:i<xs.length
  ·rw[if_pos q];exact n _ (h.off i q) (A i q) (B i q)
  ·rw[if_neg q];exact f
 ·rw[getD_snoc xs x cu0 i d];by_cases q:i<xs.length
  ·rw[if_pos q];exact h.self i q
  ·rw[if_neg q];intro g a;rw[hxs] at a;cases a
 ·simp only[List.length_append,List.length_cons,List.length_nil] at C;rw[getD_snoc xs x cu0 i d,getD_snoc xs x cu0 j C];by_cases q:i<xs.length<;>by_cases s:j<xs.length
  ·rw[if_pos q,if_pos s];exact h.apart i j q s u
  ·rw[if_pos q,if_neg s];exact m _
  ·rw[if_neg q,if_pos s];exact(m _).symm
  ·omega
theorem getD_put{α:Type}(l:List α)(x d:α)(k i:Nat)(hk:k<l.length):(l.set k x).getD i d=if i=k then x else l.getD i d:=by
 by_cases h:i=k
 ·subst h;rw[if_pos rfl];simp[List.getD,hk]
 ·rw[if_neg h];simp[List.getD,List.getElem?_set_ne (Ne.symm h)]
structure Turned (w w':World) (base:Nat) (x x':Cu) (c':Cm):Prop where
 grown:w.grownBy w' x.sold.ownBlock
 has:Has w' base x' c'
 own:∀g,x'.sold.ownBlock=some g→x.sold.ownBlock=some g∨w.heap.size≤g
 new:0<x'.dn→∀p,x'.dp=some p→w.heap.size≤p.block
 self:∀g,x'.sold.ownBlock=some g→0<x'.dn→∀p,x'.dp=some p→p.block≠g
theorem Holds.put{w w' w4:World}{k:Nat}{x':Cu}{c':Cm}(h:Holds w base V xs bk)(hk:k<xs.length)(ht:Turned w w' base (xs.getD k cu0) x' c')
  (hr:Lc w4 base V (xs.set k x')) (hg:w'.grownBy w4 V.ownBlock):Holds w4 base V (xs.set k x') (bk.set k c'):=by
 have A:k<bk.length:=by rw[← h.len];exact hk
 have r:∀i,i<xs.length→∀g,(xs.getD i cu0).sold.ownBlock=some g→g<w.heap.size:=λi a g c=>(World.ownsRow.lt (h.has i a).so g c).2
 have B:∀i,i<xs.length→0<(xs.getD i cu0).dn→∀p,(xs.getD i cu0).dp=some p→p.block<w.heap.size:=λi a d p f=>by
  obtain⟨b,E,e,D,_⟩:=(h.has i a).ds.came.row.at d;rw[f] at e;rw[Option.some.inj e];exact D
 have s:∀g,V.ownBlock=some g→g<w.heap.size:=λg c=>(World.ownsRow.lt h.row g c).2
 have m:Off x' V.ownBlock:=⟨fun g c q=>by
  rcases ht.own g c with e|e
  ·exact(h.off k hk).1 g e q
  ·have:=s g q;omega,λd p f q=>by
  have l:=ht.new d p f;have u:=s p.block q.symm
  omega⟩
 have n:∀i,i<xs.length→i≠k→Apart (xs.getD i cu0) x':=λi a o=>by
  refine⟨λg l u=>?_,λg l d p f q=>?_,λg l d p f q=>?_⟩
  ·rcases ht.own g u with e|e
   ·exact(h.apart i k a hk o).1 g l e
   ·have:=r i a g l;omega
  ·have F:=ht.new d p f;have G:=r i a g l;omega
  ·rcases ht.own g l with e|e
   ·exact(h.apart i k a hk o).2.2 g e d p f q
   ·have:=B i a d p f;omega
 refine⟨hr,by rw[List.length_set,List.length_set,h.len],λi a=>?_,λi a=>?_,λi a=>?_,λi j a z y=>?_⟩
 all_goals rw[List.length_set] at a
 ·rw[getD_put xs x' cu0 k i hk,getD_put bk c' cm0 k i A];by_cases q:i=k
  ·rw[if_pos q,if_pos q];exact ht.has.kept hg m
  ·rw[if_neg q,if_neg q];have C:=h.apart i k a hk q
   have t:Off (xs.getD i cu0) (xs.getD k cu0).sold.ownBlock:=⟨fun g l u=>C.1 g l u,fun d p f e=>by
    exact C.2.2 p.block e.symm d p f rfl⟩
   exact((h.has i a).kept ht.grown t).kept hg (h.off i a)
 ·rw[getD_put xs x' cu0 k i hk];by_cases q:i=k
  ·rw[if_pos q];exact m
  ·rw[if_neg q];exact h.off i a
 ·rw[getD_put xs x' cu0 k i hk];by_cases q:i=k
  ·rw[if_pos q];exact ht.self
  ·rw[if_neg q];exact h.self i a
 ·rw[List.length_set] at z;rw[getD_put xs x' cu0 k i hk,getD_put xs x' cu0 k j hk];by_cases q:i=k<;>by_cases x:j=k
  ·omega
  ·rw[if_pos q,if_neg x];exact(n j z x).symm
  ·rw[if_neg q,if_pos x];exact n i a q
  ·rw[if_neg q,if_neg x];exact h.apart i j a z y
structure Sees (w:World) (p:Option Addr) (n:Nat) (xs:List Cu) (bk:List Cm):Prop where
 row:RowC w p n xs
 len:xs.length=bk.length
 num:∀i,i<xs.length→Nums (xs.getD i cu0) (bk.getD i cm0).a
 ds:∀i,i<xs.length→tar.Came w (xs.getD i cu0).dp (xs.getD i cu0).dn (xs.getD i cu0).dc (bk.getD i cm0).a.ds
 so:∀i,i<xs.length→RowS w (xs.getD i cu0).sp (xs.getD i cu0).sn (bk.getD i cm0).so
theorem Sees.below{p:Option Addr}{n:Nat}(h:Sees w p n xs bk)(hb:zB w w'):Sees w' p n xs bk:=⟨h.row.below hb,h.len,h.num,λi a=>(h.ds i a).below hb,λi a=>(h.so i a).below hb⟩
theorem Holds.sees{w:World}(h:Holds w base V xs bk):∃p cap,V=.slice p xs.length cap∧Sees w p xs.length xs bk:=by
 obtain⟨p,cap,f,d,_,_⟩:=h.row.row;refine⟨p,cap,f,d,h.len,λi b=>(h.has i b).num,λi b=>(h.has i b).ds.came,λi b=>?_⟩;obtain⟨a,c,e,r,_⟩:=(h.has i b).so.row;unfold Cu.sold at e;injection e with e1 e2 _
 rw[e1,e2];exact r
open acc (Ac Tm Bi APost BPost TFault TRight OpenIs)
def Ev.cl(x:Ev):List Value:=[zI x.kd,zI x.me,zI x.mo,zI x.id,zI x.te,zI x.de,zI x.fe,zI x.pr,zI x.ch,zI x.un,zI x.tg,zI x.ow,zI x.bp]
def RowE(w:World)(a:Option Addr)(n:Nat)(l:List Ev):Prop:=l.length=n∧(n=0∨∃b off,a=some ⟨b,off,none⟩∧b<w.heap.size∧∀i j,i<n→j<13→w.cell? ⟨b,off+i*13+j,none⟩=(l.getD i ev0).cl[j]?)
theorem putAll_get(vs:List Value):∀(o:Nat)(cs:Array Value)(j:Nat),o+vs.length≤cs.size→(putAll cs o vs)[j]?=if o≤j∧j<o+vs.length then vs[j-o]? else cs[j]?:=by
 induction vs with
 |nil=>intro o cs j _;rw[if_neg (by simp only[List.length_nil];omega)];rfl
 |cons v r ih=>
  intro o cs j h;simp only[List.length_cons] at h;rw[putAll,ih (o+1) _ j (by simp;omega)];by_cases a:o+1≤j∧j<o+1+r.length
  ·rw[if_pos a,if_pos (by simp;omega),show j-o=(j-(o+1))+1 by omega,List.getElem?_cons_succ]
  ·rw[if_neg a];by_cases b:j=o
   ·subst b;rw[if_pos (by simp only[List.length_cons];omega),Nat.sub_self];simp[show j<cs.size by omega]
   ·rw[if_neg (by simp;omega),Array.getElem?_setIfInBounds_ne (by omega)]
theorem putAll_size(vs:List Value):∀(o:Nat)(cs:Array Value),(putAll cs o vs).size=cs.size:=by
 induction vs with
 |nil=>intro o cs;rfl
 |cons v r ih=>intro o cs;rw[putAll,ih];simp
theorem cellsC_get(xs:List Cu)(j:Nat):(cellsC xs)[j]?=if j<xs.length*8 then (xs.getD (j/8) cu0).cs[j%8]? else none:=by
 by_cases h:j<xs.length*8
 ·rw[if_pos h];have:=cellsC_at xs (j/8) (j%8) (by omega) (by omega);rw[show j/8*8+j%8=j by omega] at this;exact this
 ·rw[if_neg h,List.getElem?_eq_none (by rw[cellsC_len];omega)]
variable{xs:List Cu}
theorem lc_put{w W:World}{base g n cap k:Nat}{x':Cu}{cur:Array Value}(h:Lc w base (.slice (some ⟨g,0,none⟩) n cap) xs)(hB:Blk w g cur 71)(hk:k<xs.length)(hU:Upd w W g (putAll cur (k*8) x'.cs) 71):Lc W base (.slice (some ⟨g,0,none⟩) n cap) (xs.set k x'):=by
 unfold Lc at *;rw[List.length_set];refine⟨by rw[cellsC_len,List.length_set],?_⟩;rcases h.2 with⟨p,_⟩|⟨u,f,a,m,q,b,s,r,o,t⟩
 ·cases p
 ·simp only[Value.slice.injEq,Option.some.injEq,Addr.mk.injEq,and_true] at m;obtain⟨rfl,rfl,rfl⟩:=m
  have e:a=cur:=by
   have d:=hB;rw[d] at b;injection b with b
   injection b with b
   exact b.symm
  subst e;refine .inr ⟨g,cap,_,rfl,q,hU.blk,s,r,by rw[putAll_size];exact o,?_⟩;apply List.ext_getElem?;intro j;have l:x'.cs.length=8:=rfl;rw[cellsC_get,List.length_set,getD_put xs x' cu0 k (j/8) hk];by_cases c:j<xs.length*8
  ·rw[if_pos c,List.getElem?_take_of_lt c,Array.getElem?_toList,putAll_get _ _ _ _ (by rw[o,l];omega),l];by_cases d:k*8≤j∧j<k*8+8
   ·rw[if_pos d,if_pos (by omega),show j-k*8=j%8 by omega]
   ·rw[if_neg d,if_neg (by omega)];have i:a.toList[j]?=(cellsC xs)[j]?:=by rw[← t,List.getElem?_take_of_lt c]
    rw[Array.getElem?_toList] at i;rw[i,cellsC_get,if_pos c]
  ·rw[if_neg c,List.getElem?_eq_none (by rw[List.length_take];omega)]
theorem wp_cust{w:World}{ops:Array Oper}{rest:List Oper}{o:Oper}{a:Act}{Q:Exit→Act→World→Prop}(hgd:o.guard=none)(s x:Operand)
  (ho:o.op=.call { callee:=.builtin .append,args:=#[s,x],argTypes:=#[63,63] })
  (base G:Nat) (v:Value) (l:List Cu) (r:Cu) (hs:a.eval s=v) (hx:a.eval x=.slice (some ⟨G,0,none⟩) 1 1) (hv:Lc w base v l) (hu:Blk w G r.cs.toArray 71) (hn:l.length≤2000000) (hbase:base≤w.heap.size)
  (h:∀v' w',Lc w' base v' (l++[r])→w.grownBy w' v.ownBlock→(v'.ownBlock=v.ownBlock∨v'.ownBlock=some w.heap.size)→wpList Tryz.prog ops Q rest (a.put o.dst v') w'):wpList Tryz.prog ops Q (o::rest) a w:=
 wpList_plain hgd λK e=>step_cust s x ho base G v l r hs hx hv hu hn hbase (λv' w' b c d=>e _ _ (h v' w' b c d))
theorem lc_lies{w:World}{base n cap:Nat}{a:Option Addr}(h:Lc w base (.slice a n cap) xs)(hn:0<n):∃g cur,a=some ⟨g,0,none⟩∧base≤g∧Blk w g cur 71∧n*8≤cur.size∧∀i j,i<xs.length→j<8→cur[i*8+j]?=(xs.getD i cu0).cs[j]?:=by
 rcases h.2 with⟨e,q⟩|⟨g,b,cur,d,k,f,o,r,s,p⟩
 ·simp only[Value.slice.injEq] at e;omega
 ·simp only[Value.slice.injEq] at d;obtain⟨rfl,rfl,rfl⟩:=d;refine⟨g,cur,rfl,k,f,by omega,λi j l m=>?_⟩;have c:cur.toList[i*8+j]?=(cellsC xs)[i*8+j]?:=by rw[← p,List.getElem?_take_of_lt (by omega)]
  rw[Array.getElem?_toList] at c;rw[c];exact cellsC_at xs i j l m
theorem cuA_of{x:Cu}{a:Ac}(h:Nums x a):∃dp dn dc sp sn sc,x=⟨a.me,a.rv,a.nx,a.mo,a.bo,a.fr,dp,dn,dc,sp,sn,sc⟩:=by
 cases x;obtain⟨b,c,d,e,f,g⟩:=h;simp only at b c d e f g;subst b c d e f g;exact⟨_,_,_,_,_,_,rfl⟩
theorem first_of{bk:List Cm}{me at_:Int}(hl:xs.length=bk.length)(hn:∀i,i<xs.length→Nums (xs.getD i cu0) (bk.getD i cm0).a)(h:FoundIs xs me at_):(∃k,FirstAt bk me k∧at_=(k:Int))∨(NoneAt bk me∧at_=-1):=by
 rcases h with⟨k,d,e,c,rfl⟩|⟨c,rfl⟩
 ·exact .inl ⟨k,⟨by rw[← hl];exact d,by rw[← (hn k d).1];exact e,λj b=>by rw[← (hn j (by omega)).1];exact c j b⟩,rfl⟩
 ·exact .inr ⟨λj b=>by rw[← (hn j (by rw[hl];exact b)).1];exact c j (by rw[hl];exact b),rfl⟩
theorem eqBi_f0(a0 a1 a2 a3 a4 a5 a6:Int)(w:World):(part 3 #[zI a0,zI a1,zI a2,zI a3,zI a4,zI a5,zI a6] 0).run Tryz.prog w=.ok (zI a0) w:=by kernel_rfl
theorem eqBi_f1(a0 a1 a2 a3 a4 a5 a6:Int)(w:World):(part 3 #[zI a0,zI a1,zI a2,zI a3,zI a4,zI a5,zI a6] 1).run Tryz.prog w=.ok (zI a1) w:=by kernel_rfl
theorem eqBi_f2(a0 a1 a2 a3 a4 a5 a6:Int)(w:World):(part 3 #[zI a0,zI a1,zI a2,zI a3,zI a4,zI a5,zI a6] 2).run Tryz.prog w=.ok (zI a2) w:=by kernel_rfl
theorem eqBi_f3(a0 a1 a2 a3 a4 a5 a6:Int)(w:World):(part 3 #[zI a0,zI a1,zI a2,zI a3,zI a4,zI a5,zI a6] 3).run Tryz.prog w=.ok (zI a3) w:=by kernel_rfl
theorem eqBi_f4(a0 a1 a2 a3 a4 a5 a6:Int)(w:World):(part 3 #[zI a0,zI a1,zI a2,zI a3,zI a4,zI a5,zI a6] 4).run Tryz.prog w=.ok (zI a4) w:=by kernel_rfl
theorem eqBi_f5(a0 a1 a2 a3 a4 a5 a6:Int)(w:World):(part 3 #[zI a0,zI a1,zI a2,zI a3,zI a4,zI a5,zI a6] 5).run Tryz.prog w=.ok (zI a5) w:=by kernel_rfl
theorem eqBi_f6(a0 a1 a2 a3 a4 a5 a6:Int)(w:World):(part 3 #[zI a0,zI a1,zI a2,zI a3,zI a4,zI a5,zI a6] 6).run Tryz.prog w=.ok (zI a6) w:=by kernel_rfl
theorem eqBi(d:Nat)(a0 a1 a2 a3 a4 a5 a6 b0 b1 b2 b3 b4 b5 b6:Int)(w:World):(Op.equalIn (d+2) 33 (.agg #[zI a0,zI a1,zI a2,zI a3,zI a4,zI a5,zI a6]) (.agg #[zI b0,zI b1,zI b2,zI b3,zI b4,zI b5,zI b6])).run Tryz.prog w=.ok (decide (a0=b0∧a1=b1∧a2=b2∧a3=b3∧a4=b4∧a5=b5∧a6=b6)) w:=by
 rw[run_equalIn_agg w (d+1) 33 _ _ (by kernel_rfl) (by kernel_rfl)];simp only[Program.fieldsOf,Tryz.underlying33,Op.eqFields,Sem.run_bind,Sem.run_ite,eqBi_f0,eqBi_f1,eqBi_f2,eqBi_f3,eqBi_f4,eqBi_f5,eqBi_f6,Result.andThen_ok,eqI];by_cases a:a0=b0
 case neg=>simp[a]
 subst a;by_cases b:a1=b1
 case neg=>simp[b]
 subst b;by_cases c:a2=b2
 case neg=>simp[c]
 subst c;by_cases e:a3=b3
 case neg=>simp[e]
 subst e;by_cases f:a4=b4
 case neg=>simp[f]
 subst f;by_cases g:a5=b5
 case neg=>simp[g]
 subst g;by_cases h:a6=b6
 case neg=>simp[h]
 subst h;simp
theorem eqDe_f0(a0 a1:Int)(w:World):(part 3 #[zI a0,zI a1] 0).run Tryz.prog w=.ok (zI a0) w:=by kernel_rfl
theorem eqDe_f1(a0 a1:Int)(w:World):(part 3 #[zI a0,zI a1] 1).run Tryz.prog w=.ok (zI a1) w:=by kernel_rfl
theorem eqDe(d:Nat)(a0 a1 b0 b1:Int)(w:World):(Op.equalIn (d+2) 42 (.agg #[zI a0,zI a1]) (.agg #[zI b0,zI b1])).run Tryz.prog w=.ok (decide (a0=b0∧a1=b1)) w:=by
 rw[run_equalIn_agg w (d+1) 42 _ _ (by kernel_rfl) (by kernel_rfl)];simp only[Program.fieldsOf,Tryz.underlying42,Op.eqFields,Sem.run_bind,Sem.run_ite,eqDe_f0,eqDe_f1,Result.andThen_ok,eqI];by_cases a:a0=b0
 case neg=>simp[a]
 subst a;by_cases b:a1=b1
 case neg=>simp[b]
 subst b;simp
theorem eqEv_f0(a0 a1 a2 a3 a4 a5 a6 a7 a8 a9 a10 a11 a12:Int)(w:World):(part 3 #[zI a0,zI a1,zI a2,zI a3,zI a4,zI a5,zI a6,zI a7,zI a8,zI a9,zI a10,zI a11,zI a12] 0).run Tryz.prog w=.ok (zI a0) w:=by kernel_rfl
theorem eqEv_f1(a0 a1 a2 a3 a4 a5 a6 a7 a8 a9 a10 a11 a12:Int)(w:World):(part 3 #[zI a0,zI a1,zI a2,zI a3,zI a4,zI a5,zI a6,zI a7,zI a8,zI a9,zI a10,zI a11,zI a12] 1).run Tryz.prog w=.ok (zI a1) w:=by kernel_rfl
theorem eqEv_f2(a0 a1 a2 a3 a4 a5 a6 a7 a8 a9 a10 a11 a12:Int)(w:World):(part 3 #[zI a0,zI a1,zI a2,zI a3,zI a4,zI a5,zI a6,zI a7,zI a8,zI a9,zI a10,zI a11,zI a12] 2).run Tryz.prog w=.ok (zI a2) w:=by kernel_rfl
theorem eqEv_f3(a0 a1 a2 a3 a4 a5 a6 a7 a8 a9 a10 a11 a12:Int)(w:World):(part 33 #[zI a0,zI a1,zI a2,zI a3,zI a4,zI a5,zI a6,zI a7,zI a8,zI a9,zI a10,zI a11,zI a12] 3).run Tryz.prog w=.ok (.agg #[zI a3,zI a4,zI a5,zI a6,zI a7,zI a8,zI a9]) w:=by kernel_rfl
theorem eqEv_f10(a0 a1 a2 a3 a4 a5 a6 a7 a8 a9 a10 a11 a12:Int)(w:World):(part 3 #[zI a0,zI a1,zI a2,zI a3,zI a4,zI a5,zI a6,zI a7,zI a8,zI a9,zI a10,zI a11,zI a12] 10).run Tryz.prog w=.ok (zI a10) w:=by kernel_rfl
theorem eqEv_f11(a0 a1 a2 a3 a4 a5 a6 a7 a8 a9 a10 a11 a12:Int)(w:World):(part 42 #[zI a0,zI a1,zI a2,zI a3,zI a4,zI a5,zI a6,zI a7,zI a8,zI a9,zI a10,zI a11,zI a12] 11).run Tryz.prog w=.ok (.agg #[zI a11,zI a12]) w:=by kernel_rfl
theorem eqEv(d:Nat)(a0 a1 a2 a3 a4 a5 a6 a7 a8 a9 a10 a11 a12 b0 b1 b2 b3 b4 b5 b6 b7 b8 b9 b10 b11 b12:Int)(w:World):(Op.equalIn (d+3) 44 (.agg #[zI a0,zI a1,zI a2,zI a3,zI a4,zI a5,zI a6,zI a7,zI a8,zI a9,zI a10,zI a11,zI a12]) (.agg #[zI b0,zI b1,zI b2,zI b3,zI b4,zI b5,zI b6,zI b7,zI b8,zI b9,zI b10,zI b11,zI b12])).run Tryz.prog w=.ok (decide (a0=b0∧a1=b1∧a2=b2∧a3=b3∧a4=b4∧a5=b5∧a6=b6∧a7=b7∧a8=b8∧a9=b9∧a10=b10∧a11=b11∧a12=b12)) w:=by
 rw[run_equalIn_agg w (d+2) 44 _ _ (by kernel_rfl) (by kernel_rfl)];simp only[Program.fieldsOf,Tryz.underlying44,Op.eqFields,Sem.run_bind,Sem.run_ite,eqEv_f0,eqEv_f1,eqEv_f2,eqEv_f3,eqEv_f10,eqEv_f11,Result.andThen_ok,eqI,eqBi,eqDe];by_cases g:a0=b0
 case neg=>simp[g]
 subst g;by_cases i:a1=b1
 case neg=>simp[i]
 subst i;by_cases j:a2=b2
 case neg=>simp[j]
 subst j;by_cases e:a3=b3∧a4=b4∧a5=b5∧a6=b6∧a7=b7∧a8=b8∧a9=b9
 case neg=>
  have f:=decide_eq_false e;have r:¬ (a0=a0∧a1=a1∧a2=a2∧a3=b3∧a4=b4∧a5=b5∧a6=b6∧a7=b7∧a8=b8∧a9=b9∧a10=b10∧a11=b11∧a12=b12):=λh=>e ⟨h.2.2.2.1,h.2.2.2.2.1,h.2.2.2.2.2.1,h.2.2.2.2.2.2.1,h.2.2.2.2.2.2.2.1,h.2.2.2.2.2.2.2.2.1,h.2.2.2.2.2.2.2.2.2.1⟩;simp only[f,decide_eq_false r];simp;intro k l m n o p q;exact absurd ⟨k,l,m,n,o,p,q⟩ e
 obtain⟨rfl,rfl,rfl,rfl,rfl,rfl,rfl⟩:=e;by_cases a:a10=b10
 case neg=>simp[a]
 subst a;by_cases b:a11=b11
 case neg=>simp[b]
 subst b;by_cases c:a12=b12
 case neg=>simp[c]
 subst c;simp
end book
namespace deb
open tar (Du du0 Came RowD Ld ErrPost TwoPost PairT GaveD)
open Go.RowKit
theorem grow_more{b x:Int}(hx:0≤x)(hx1:x≤1000000000)(hb:0≤b):grow b x=x+min (x*b/10000) (1000000000-x):=by
 unfold grow;have:=Int.mul_nonneg hx hb;generalize x*b=p at *;omega
theorem pgrowth(x b:Int)(w:World)(hx:0≤x∧x≤1000000000)(hb:0≤b∧b≤10000):Calls Tryz.prog 180 #[.agg #[zI x,zI b]] w λe w'=>e=.returned (zI (min (x*b/10000) (1000000000-x)))∧zB w w':=by
 have g:Hid (∀W,zC 68 #[zI x,zI b] W λe w'=>e=.returned (.tuple #[zI (x*b/10000),zI 0])∧zB W w'):=λW=>cents.part_yes x b W hx.1 (by omega) hb.1 hb.2;have c:Hid (Blk (w.alloc (.cells #[zI x,zI b] 42)) w.heap.size #[zI x,zI b] 42):=Blk.new w _ _;have f:Hid (zB w (w.alloc (.cells #[zI x,zI b] 42))):=zb.alloc zc _;obtain⟨j,k⟩:=hx;clear hb;have h:=tar.run_min (x*b/10000) (1000000000-x) _ rfl;generalize x*b/10000=q at *;generalize min q (1000000000-x)=m at *;go_enter Tryz.func180,Tryz.ntmps180;go_wp2_with fail;refine(g.o _).mono ?_;rintro e i ⟨rfl,a⟩;have d:=shB f a;have c0:i.cell? ⟨w.heap.size,0,none⟩=some (zI x):=(c.o.next a).cell 0;have c1:i.cell? ⟨w.heap.size,1,none⟩=some (zI b):=(c.o.next a).cell 1;clear a;go_wp2_with fail;go_ret;exact⟨rfl,d.o⟩
theorem kage:KdAge:=by
 intro w a len ae c mo n aN;have hr:=n.row;have aw:=zh n.bytes;have ab:=zh n.nil;have ay:=zh (pcheck a len ae c w hr n.most);have I:Hid (∀W,zC 145 #[zI 0,zI 2400,zI mo] W λe w'=>e=.returned (.bool (decide (0≤mo∧mo≤2400)))∧w'=W):=λW=>dwithin 0 2400 mo W;have X:=zh hr;clear n hr aN;go_enter Tryz.func144,Tryz.ntmps144;go_wp2_with fail;go_step3;go_wp2_with fail;refine ay.o.mono ?_;rintro e w1 ⟨f,rfl,hf,ah⟩;have t:=zh ah;have HF:=zh hf;clear ah;by_cases h0:f=0
 ·subst h0;have hm:=hf.ok.1 rfl;have HM:=zh hm;have E:=zh (X.o.below t.o);have l:=zh E.o.1;have aW:len≤8:=by have:=hm.1;have:=l.o;omega
  clear hf hm;by_cases B:0≤mo∧mo≤2400
  ·rw[decide_eq_true B] at I;have K:=zh B;obtain⟨m,rfl⟩:=Int.eq_ofNat_of_zero_le B.1;have aX:m≤2400:=by omega
   have aa:Hid ((m:Int).toNat=m):=by show _=_;omega
   clear B;go_wp2_with fail;refine(I.o _).mono ?_;rintro e s ⟨rfl,a2⟩;subst a2;cases a with
   |none=>
    have aH:=ab.o rfl;have aM:len=0:=by rcases E.o.2 with h|⟨b,i,h,_⟩;exact h;cases h
    subst aH aM;have aS:∀w:World,(Builtin.append_ #[53,53] 53 #[zS,zS]).run Tryz.prog w=.ok (zS) w:=λw=>by kernel_rfl
    have Q:Hid (AgeIs c (m:Int) (ageAll c m) 0):=.inr (.inr ⟨HM.o,K.o,rfl,by rw[aa.o]⟩)
    have HZ:Hid (ageAll c m=[]):=by
     obtain rfl:c=[]:=List.eq_nil_of_length_eq_zero l.o;rfl
    go_wp2_with fail;go_step3;go_wp2_with fail;go_loopg [22] 0 (λg z wr=>z=zI 0∧wr=s)
    case atStart=>exact⟨rfl,rfl⟩
    case round=>
     obtain⟨rfl,rfl⟩:=hrel;go_wp2_with fail
     try rw[Exit.noGoto_ret]
     go_ret2;exact⟨none,0,0,_,0,rfl,Q.o,by rw[HZ.o];exact fresh_nil _ _,t.o⟩
   |some A=>
    go_wp2_with (first
     |(at_builtin;refine tar.wp_pairs debtT rfl _ _ rfl s.heap.size A len ae c rfl rfl E.o aw.o zc ?_)
     | fail)
    intro v3 w3 G hg;obtain⟨Y,d,ao,M⟩:=ld_mays G HM.o;rw[l.o] at ao;subst ao;have aB:=zh G;have ar:Hid (zB s w3):=zb.grown hg zc (λk hk=>by cases hk);clear G hg M;go_wp2_with fail;go_step3;go_wp2_with fail;have a9:=zh aB.o;go_loopg [22] len (λg z wr=>∃k:Nat,k+g=len∧z=zI (k:Int)∧Ld 42 wr s.heap.size (.slice Y len d) (mixK c m k)∧zB s wr)
    case atStart=>exact⟨0,by omega,rfl,a9.o,ar.o⟩
    case round=>
     obtain⟨k,aV,rfl,hl,hb⟩:=hrel;have a8:=zh hl;have a5:=zh hb;clear hl hb;cases gk with
     |zero=>
      obtain rfl:k=len:=by omega
      have aK:decide ((k:Int)<(k:Int))=false:=by simp
      have Q:Hid (AgeIs c (m:Int) (ageAll c m) 0):=.inr (.inr ⟨HM.o,K.o,rfl,by rw[aa.o]⟩);have aD:Hid (Ld 42 wr s.heap.size (.slice Y k d) (ageAll c m)):=by have:=a8.o;rw[mix_all c m k l.o] at this;exact this
      have ax:Hid (Fresh wr w.heap.size Y k d (ageAll c m)):=by
       obtain⟨a4,aR,a1,M⟩:=ld_fresh aD.o (ageAll_mays HM.o m);have e:(ageAll c m).length=k:=by rw[ageAll_len];exact l.o
       rw[e] at a1 M;simp only[Value.slice.injEq,true_and] at a1;obtain⟨rfl,rfl⟩:=a1;exact M.low t.o.size
      have av:=zh (t.o.trans (a5.o.mono t.o.size));generalize ageAll c m=Z at *;go_wp2_with fail
      try rw[Exit.noGoto_ret]
      go_ret2;exact⟨Y,k,d,Z,0,rfl,Q.o,ax.o,av.o⟩
     |succ g=>
      have F:k<len:=by omega
      have aK:decide ((k:Int)<(len:Int))=true:=by simp;omega
      have N:k<c.length:=by rw[l.o];exact F
      have ho:=HM.o.2 k N;have J:Hid ((mixK c m k).length=len):=by show _=_;rw[mix_len c m k (by omega)];exact l.o
      have aE:=zh (mix_same c m k N);have ac:=zh (mix_next c m k N);have aP:=ho.1.1;have aQ:=ho.1.2;have O:=ho.2.1;have ap:=ho.2.2;clear ho N;generalize (c.getD k du0).a=x at *;generalize (c.getD k du0).b=y at *;go_wp2_with fail;go_loopg [26] m (λg2 z wy=>∃j:Nat,j+g2=m∧z=zI (j:Int)∧Ld 42 wy s.heap.size (.slice Y len d) ((mixK c m k).set k ⟨growN y j x,y⟩)∧zB s wy)
      case atStart=>exact⟨0,by omega,rfl,by rw[aE.o];exact a8.o,a5.o⟩
      case round=>
       rename_i wo
       obtain⟨j,aT,rfl,hl,hb⟩:=hrel;have C:=zh hl;have H:=zh hb;clear hl hb;cases gk with
       |zero=>
        obtain rfl:j=m:=by omega
        have aJ:decide ((j:Int)<(j:Int))=false:=by simp
        have V:Hid (Ld 42 wr s.heap.size (.slice Y len d) (mixK c j (k+1))):=by have:=C.o;rw[ac.o] at this;exact this
        go_wp2_with fail;go_roundg g
        case measure=>omega
        case rel=>exact⟨k+1,by omega,by first|rfl|go_num,V.o,H.o⟩
       |succ g2=>
        have aJ:decide ((j:Int)<(m:Int))=true:=by simp;omega
        have aU:j<m:=by omega
        obtain⟨L,af,aj,al,P,aI,ai⟩:=ld_lies C.o (by omega);have r:=ai k (by rw[List.length_set,J.o];exact F)
        have ag:((mixK c m k).set k ⟨growN y j x,y⟩).getD k du0=⟨growN y j x,y⟩:=by
         have:k<(mixK c m k).length:=by rw[J.o];exact F
         simp[List.getD,this]
        rw[ag] at r;obtain⟨i,hoff⟩:∃i:Nat,i=0:=⟨0,rfl⟩
        have ad:=zh hoff;have ak:Y=some ⟨L,i,none⟩:=by rw[aj,hoff]
        have c0:wr.cell? ⟨L,i+k*2,none⟩=some (zI (growN y j x)):=by rw[hoff,Nat.zero_add];exact r.1
        have c1:wr.cell? ⟨L,i+k*2+1,none⟩=some (zI y):=by rw[hoff,Nat.zero_add];exact r.2
        have S:=zh P;have aL:i+k*2<af.size:=by omega
        have az:=zh al;clear r ag ai P al aj aI hoff;subst ak;have am:=growN_bd O ap aP aQ j;have a0:0≤growN y j x:=by omega
        have an:=am.2;have a6:Hid (growN y (j+1) x=grow y (growN y j x)):=rfl;have T:Hid (∀W,zC 180 #[.agg #[zI (growN y j x),zI y]] W λe w'=>e=.returned (zI (min (growN y j x*y/10000) (1000000000-growN y j x)))∧zB W w'):=λW=>pgrowth _ _ W ⟨a0,an⟩ ⟨O,ap⟩;have D:=zh (grow_more a0 an O)
        have aZ:0≤min (growN y j x*y/10000) (1000000000-growN y j x):=by
         have:=Int.mul_nonneg a0 O;generalize growN y j x*y=pp at *;omega
        have b0:min (growN y j x*y/10000) (1000000000-growN y j x)≤1000000000-growN y j x:=Int.min_le_right _ _;generalize min (growN y j x*y/10000) (1000000000-growN y j x)=v at *;clear am;by_cases hz:v=0
        ·have aO:(v==0)=true:=by simpa using hz
         have aG:Hid (growN y m x=growN y j x):=by
          have h1:grow y (growN y j x)=growN y j x:=by rw[D.o,hz];omega
          have h2:=growN_still h1 (m-j);rw[growN_add,show j+(m-j)=m by omega] at h2;exact h2
         have V:Hid (Ld 42 wr s.heap.size (.slice (some ⟨L,i,none⟩) len d) (mixK c m (k+1))):=by have:=C.o;rw[← aG.o,ac.o] at this;exact this
         clear hz;generalize growN y j x=u at *;go_wp2_with fail;refine(T.o _).mono ?_;rintro e w5 ⟨rfl,q⟩;have U:=zh (V.o.next q);have R:=shB H q;clear q c0 c1;go_wp2_with fail;go_roundg g
         case measure=>omega
         case rel=>exact⟨k+1,by omega,by first|rfl|go_num,U.o,R.o⟩
        ·have aO:(v==0)=false:=by simpa using hz
         have aF:Hid (((mixK c m k).set k ⟨growN y j x,y⟩).set k ⟨growN y j x+v,y⟩=(mixK c m k).set k ⟨growN y (j+1) x,y⟩):=by show _=_;rw[List.set_set,a6.o,D.o]
         have aq:Hid ((((mixK c m k).set k ⟨growN y j x,y⟩).getD k du0).b=y):=by
          have:k<(mixK c m k).length:=by rw[J.o];exact F
          show _=_;simp[List.getD,this]
         have aA:Hid (k<((mixK c m k).set k ⟨growN y j x,y⟩).length):=by show _<_;rw[List.length_set,J.o];exact F
         clear hz a6 D;generalize (mixK c m k).set k ⟨growN y j x,y⟩=Z at *;generalize growN y j x=u at *;go_wp2_with fail;refine(T.o _).mono ?_;rintro e w5 ⟨rfl,q⟩;have U:Hid (Ld 42 w5 s.heap.size (.slice (some ⟨L,i,none⟩) len d) Z):=C.o.next q;have R:=shB H q;have a7:=shN S q;have e0:w5.cell? ⟨L,i+k*2,none⟩=some (zI u):=(q.cell (p:=⟨L,i+k*2,none⟩) S.o.lt).trans c0;clear q T C c0 c1 S H
         go_wp2_with (first
          |(refine wp_let1 rfl 3 _ _ rfl L (i+k*2) rfl .i64 (u+v) rfl (by kernel_rfl) af 42 a7.o aL ?_)
          | fail)
         intro W6 hU
         have aC:Hid (Ld 42 W6 s.heap.size (.slice (some ⟨L,i,none⟩) len d) ((mixK c m k).set k ⟨growN y (j+1) x,y⟩)):=by
          obtain rfl:=ad.o;rw[Nat.zero_add] at hU;show Ld _ _ _ _ _;rw[← aF.o];exact ld_put U.o a7.o k aA.o _ _ aq.o hU
         have au:Hid (zB s W6):=hU.bel _ _ az.o R.o;clear hU e0;go_wp2_with fail;go_roundg g2
         case measure=>omega
         case rel=>exact⟨j+1,by omega,by first|rfl|go_num,aC.o,au.o⟩
  ·rw[decide_eq_false B] at I;have K:=zh B;clear B;go_wp2_with fail;refine(I.o _).mono ?_;rintro e s ⟨rfl,a2⟩;subst a2;go_wp2_with fail
   try rw[Exit.noGoto_ret]
   go_ret2;exact⟨none,0,0,[],2,rfl,.inr (.inl ⟨HM.o,K.o,rfl,rfl⟩),fresh_nil _ _,t.o⟩
 ·have aY:(f != 0)=true:=by simpa using h0
  have HN:Hid (¬ Mays c):=λh=>h0 (hf.ok.2 h);clear hf h0;go_wp2_with fail
  try rw[Exit.noGoto_ret]
  go_ret2;exact⟨none,0,0,[],f,rfl,.inl ⟨HN.o,HF.o,rfl⟩,fresh_nil _ _,t.o⟩
end deb
end Go.Proofs.YtoepgdhiepedeaaGreatDoor
