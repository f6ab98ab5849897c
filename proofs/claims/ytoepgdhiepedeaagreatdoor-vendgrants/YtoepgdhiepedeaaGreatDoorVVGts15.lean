import Derived.Test.YtoepgdhiepedeaaGreatDoorVVGts11
import Derived.Test.YtoepgdhiepedeaaGreatDoorVVGts12
import Derived.Test.YtoepgdhiepedeaaGreatDoorVVGts14
set_option linter.unusedVariables false
set_option linter.unusedSimpArgs false
set_option maxHeartbeats 4000000
set_option maxRecDepth 100000
namespace Go.Proofs.YtoepgdhiepedeaaGreatDoor
namespace book
open Go.RowKit
open acc (Ac Tm Bi APost BPost TFault TRight OpenIs)
def Ev.cl(x:Ev):List Value:=[zI x.kd,zI x.me,zI x.mo,zI x.id,zI x.te,zI x.de,zI x.fe,zI x.pr,zI x.ch,zI x.un,zI x.tg,zI x.ow,zI x.bp]
def RowE(w:World)(a:Option Addr)(n:Nat)(l:List Ev):Prop:=l.length=n∧(n=0∨∃b off,a=some ⟨b,off,none⟩∧b<w.heap.size∧∀i j,i<n→j<13→w.cell? ⟨b,off+i*13+j,none⟩=(l.getD i ev0).cl[j]?)
theorem putAll_get(vs:List Value):∀(o:Nat)(cs:Array Value)(j:Nat),o+vs.length≤cs.size→(putAll cs o vs)[j]?=if o≤j∧j<o+vs.length then vs[j-o]? else cs[j]?:=by
 induction vs with
 |nil=>intro o cs j _;rw[if_neg (by simp only[List.length_nil];omega)];rfl
 |cons v r ih=>
  intro o cs j h;simp only[List.length_cons] at h;rw[putAll,ih (o+1) _ j (by simp;omega)];by_cases a:o+1≤j∧j<o+1+r.length
  ·rw[if_pos a,if_pos (by simp;omega),show j-o=(j-(o+1))+1 by omega,List.getElem?_cons_succ]
  ·rw[if_neg a];by_cases b:j=o
   ·subst b;rw[if_pos (by simp only[List.length_cons];omega),Nat.sub_self];simp[show j<cs.size by omega]
   ·rw[if_neg (by simp;omega),Array.getElem?_setIfInBounds_ne (by omega)]
theorem putAll_size(vs:List Value):∀(o:Nat)(cs:Array Value),(putAll cs o vs).size=cs.size:=by
 induction vs with
 |nil=>intro o cs;rfl
 |cons v r ih=>intro o cs;rw[putAll,ih];simp
theorem cellsC_get(xs:List Cu)(j:Nat):(cellsC xs)[j]?=if j<xs.length*8 then (xs.getD (j/8) cu0).cs[j%8]? else none:=by
 by_cases h:j<xs.length*8
 ·rw[if_pos h];have:=cellsC_at xs (j/8) (j%8) (by omega) (by omega);rw[show j/8*8+j%8=j by omega] at this;exact this
 ·rw[if_neg h,List.getElem?_eq_none (by rw[cellsC_len];omega)]
variable{xs:List Cu}
theorem lc_put{w W:World}{base g n cap k:Nat}{x':Cu}{cur:Array Value}(h:Lc w base (.slice (some ⟨g,0,none⟩) n cap) xs)(hB:Blk w g cur 71)(hk:k<xs.length)(hU:Upd w W g (putAll cur (k*8) x'.cs) 71):Lc W base (.slice (some ⟨g,0,none⟩) n cap) (xs.set k x'):=by
 unfold Lc at *;rw[List.length_set];refine⟨by rw[cellsC_len,List.length_set],?_⟩;rcases h.2 with⟨p,_⟩|⟨u,f,a,m,q,b,s,r,o,t⟩
 ·cases p
 ·simp only[Value.slice.injEq,Option.some.injEq,Addr.mk.injEq,and_true] at m;obtain⟨rfl,rfl,rfl⟩:=m
  have e:a=cur:=by
   have d:=hB;rw[d] at b;injection b with b
   injection b with b
   exact b.symm
  subst e;refine .inr ⟨g,cap,_,rfl,q,hU.blk,s,r,by rw[putAll_size];exact o,?_⟩;apply List.ext_getElem?;intro j;have l:x'.cs.length=8:=rfl;rw[cellsC_get,List.length_set,getD_put xs x' cu0 k (j/8) hk];by_cases c:j<xs.length*8
  ·rw[if_pos c,List.getElem?_take_of_lt c,Array.getElem?_toList,putAll_get _ _ _ _ (by rw[o,l];omega),l];by_cases d:k*8≤j∧j<k*8+8
   ·rw[if_pos d,if_pos (by omega),show j-k*8=j%8 by omega]
   ·rw[if_neg d,if_neg (by omega)];have i:a.toList[j]?=(cellsC xs)[j]?:=by rw[← t,List.getElem?_take_of_lt c]
    rw[Array.getElem?_toList] at i;rw[i,cellsC_get,if_pos c]
  ·rw[if_neg c,List.getElem?_eq_none (by rw[List.length_take];omega)]
theorem wp_cust{w:World}{ops:Array Oper}{rest:List Oper}{o:Oper}{a:Act}{Q:Exit→Act→World→Prop}(hgd:o.guard=none)(s x:Operand)
  (ho:o.op=.call { callee:=.builtin .append,args:=#[s,x],argTypes:=#[63,63] })
  (base G:Nat) (v:Value) (l:List Cu) (r:Cu) (hs:a.eval s=v) (hx:a.eval x=.slice (some ⟨G,0,none⟩) 1 1) (hv:Lc w base v l) (hu:Blk w G r.cs.toArray 71) (hn:l.length≤2000000) (hbase:base≤w.heap.size)
  (h:∀v' w',Lc w' base v' (l++[r])→w.grownBy w' v.ownBlock→(v'.ownBlock=v.ownBlock∨v'.ownBlock=some w.heap.size)→wpList Tryz.prog ops Q rest (a.put o.dst v') w'):wpList Tryz.prog ops Q (o::rest) a w:=
 wpList_plain hgd λK e=>step_cust s x ho base G v l r hs hx hv hu hn hbase (λv' w' b c d=>e _ _ (h v' w' b c d))
theorem lc_lies{w:World}{base n cap:Nat}{a:Option Addr}(h:Lc w base (.slice a n cap) xs)(hn:0<n):∃g cur,a=some ⟨g,0,none⟩∧base≤g∧Blk w g cur 71∧n*8≤cur.size∧∀i j,i<xs.length→j<8→cur[i*8+j]?=(xs.getD i cu0).cs[j]?:=by
 rcases h.2 with⟨e,q⟩|⟨g,b,cur,d,k,f,o,r,s,p⟩
 ·simp only[Value.slice.injEq] at e;omega
 ·simp only[Value.slice.injEq] at d;obtain⟨rfl,rfl,rfl⟩:=d;refine⟨g,cur,rfl,k,f,by omega,λi j l m=>?_⟩;have c:cur.toList[i*8+j]?=(cellsC xs)[i*8+j]?:=by rw[← p,List.getElem?_take_of_lt (by omega)]
  rw[Array.getElem?_toList] at c;rw[c];exact cellsC_at xs i j l m
theorem cuA_of{x:Cu}{a:Ac}(h:Nums x a):∃dp dn dc sp sn sc,x=⟨a.me,a.rv,a.nx,a.mo,a.bo,a.fr,dp,dn,dc,sp,sn,sc⟩:=by
 cases x;obtain⟨b,c,d,e,f,g⟩:=h;simp only at b c d e f g;subst b c d e f g;exact⟨_,_,_,_,_,_,rfl⟩
theorem first_of{bk:List Cm}{me at_:Int}(hl:xs.length=bk.length)(hn:∀i,i<xs.length→Nums (xs.getD i cu0) (bk.getD i cm0).a)(h:FoundIs xs me at_):(∃k,FirstAt bk me k∧at_=(k:Int))∨(NoneAt bk me∧at_=-1):=by
 rcases h with⟨k,d,e,c,rfl⟩|⟨c,rfl⟩
 ·exact .inl ⟨k,⟨by rw[← hl];exact d,by rw[← (hn k d).1];exact e,λj b=>by rw[← (hn j (by omega)).1];exact c j b⟩,rfl⟩
 ·exact .inr ⟨λj b=>by rw[← (hn j (by rw[hl];exact b)).1];exact c j (by rw[hl];exact b),rfl⟩
theorem rfound(p:Option Addr)(n cap:Nat)(l:List Cu)(me:Int)(w:World)(h:RowC w p n l)(hn:n≤9223372036854775807):Calls Tryz.prog 21 #[.agg #[.slice p n cap],zI me] w λe w'=>∃x,e=.returned (zI x)∧FoundIs l me x∧zB w w':=by
 obtain⟨W,r,C,f,-⟩:=sh1 w #[.slice p n cap] 65;have B:Hid (RowC W p n l):=h.below f.o;have A:Hid (l.length=n):=h.1;clear h;go_enter Tryz.func21,Tryz.ntmps21;go_upto_region 1 with fail
 rw[r.o];have G:W.cell? ⟨w.heap.size,0,none⟩=some (.slice p n cap):=C.o.cell 0;go_wp2_with fail;go_loopw [5] (λi wr=>∃k:Nat,k≤n∧i=zI (k:Int)∧(∀j,j<k→(l.getD j cu0).me≠me)∧wr=W) (λi _=>n-(intOf i).toNat)
 case atStart=>exact⟨0,Nat.zero_le _,rfl,λj c=>absurd c (Nat.not_lt_zero _),rfl⟩
 case round=>
  obtain⟨k,F,rfl,hf,u⟩:=hrel;subst u;have g:Hid (∀j,j<k→(l.getD j cu0).me≠me):=hf;clear hf;by_cases d:k<n
  ·obtain⟨b,y,rfl,H,s⟩:=B.o.2.resolve_left (by omega);have c0:wr.cell? ⟨b,y+k*8,none⟩=some (zI (l.getD k cu0).me):=s k 0 d (by decide);have E:Hid ((l.getD k cu0).me=(l.getD k cu0).me):=rfl;have t:decide ((k:Int)<(n:Int))=true:=by simp;omega
   by_cases a:(l.getD k cu0).me=me
   ·have D:((l.getD k cu0).me==me)=true:=by simpa using a
    have q:Hid (FoundIs l me (k:Int)):=.inl ⟨k,by rw[A.o];exact d,a,g.o,rfl⟩;clear s a;generalize (l.getD k cu0).me=z at *;go_wp2_with fail;go_ret;exact⟨_,rfl,q.o,f.o⟩
   ·have D:((l.getD k cu0).me==me)=false:=by simpa using a
    have m:Hid (∀j,j<k+1→(l.getD j cu0).me≠me):=λj c=>by
     by_cases e:j=k
     ·subst e;exact a
     ·exact g.o j (by omega)
    clear s a;generalize (l.getD k cu0).me=z at *;go_wp2_with fail;go_roundw
    case rel=>exact⟨k+1,by omega,by go_num,m.o,by first|rfl|trivial⟩
    case measure=>simp[intOf];omega
  ·obtain rfl:k=n:=by omega
   have t:decide ((k:Int)<(k:Int))=false:=by simp
   have q:Hid (FoundIs l me (-1)):=.inr ⟨λj c=>g.o j (by rw[A.o] at c;exact c),rfl⟩;go_wp2_with fail;go_ret;exact⟨_,rfl,q.o,f.o⟩
end book
namespace acc
open tar (Du du0 Came RowD Ld PairT)
open Go.RowKit
theorem rrolled(x:Ac)(p:Option Addr)(len cap:Nat)(m:Int)(w:World)(h:RowD w p len x.ds)(hl:len≤maxLen):Calls Tryz.prog 46 #[.agg #[zI x.me,zI x.rv,zI x.nx,zI x.mo,zI x.bo,zI x.fr,.slice p len cap],zI m] w λe w'=>APost w (RollIs x m) e w':=by
 have O:Hid (Blk ((w.alloc (.cells #[zI x.me,zI x.rv,zI x.nx,zI x.mo,zI x.bo,zI x.fr,.slice p len cap] 55)).alloc (.cells #[zI 0,zI 0,zI 0,zI 0,zI 0,zI 0,zS] 55)) w.heap.size #[zI x.me,zI x.rv,zI x.nx,zI x.mo,zI x.bo,zI x.fr,.slice p len cap] 55):=(Blk.new w _ _).alloc _;have A:Hid (Blk ((w.alloc (.cells #[zI x.me,zI x.rv,zI x.nx,zI x.mo,zI x.bo,zI x.fr,.slice p len cap] 55)).alloc (.cells #[zI 0,zI 0,zI 0,zI 0,zI 0,zI 0,zS] 55)) (w.heap.size+1) #[zI 0,zI 0,zI 0,zI 0,zI 0,zI 0,zS] 55):=Blk.new1 w _ _ _;have z:Hid (zB w ((w.alloc (.cells #[zI x.me,zI x.rv,zI x.nx,zI x.mo,zI x.bo,zI x.fr,.slice p len cap] 55)).alloc (.cells #[zI 0,zI 0,zI 0,zI 0,zI 0,zI 0,zS] 55))):=((Below.refl w.heap.size w).alloc (by simp) _).alloc (by simp) _;have i:=zh (h.below z.o);have u:=A.o.lt;have s:Hid (∀W,zC 47 #[zI m,zI 0,zI 2399] W λe w'=>e=.returned (.bool (decide (0≤m∧m≤2399)))∧w'=W):=λW=>cal.cin m 0 2399 W;by_cases y:AMay x
 ·have J:=y.2.2.2.2.1;have j:=y.1;have E:Hid (zC 44 #[.agg #[zI x.me,zI x.rv,zI x.nx,zI x.mo,zI x.bo,zI x.fr,.slice p len cap]] ((w.alloc (.cells #[zI x.me,zI x.rv,zI x.nx,zI x.mo,zI x.bo,zI x.fr,.slice p len cap] 55)).alloc (.cells #[zI 0,zI 0,zI 0,zI 0,zI 0,zI 0,zS] 55)) λe w'=>e=.returned (.bool true)∧Below ((w.alloc (.cells #[zI x.me,zI x.rv,zI x.nx,zI x.mo,zI x.bo,zI x.fr,.slice p len cap] 55)).alloc (.cells #[zI 0,zI 0,zI 0,zI 0,zI 0,zI 0,zS] 55)).heap.size ((w.alloc (.cells #[zI x.me,zI x.rv,zI x.nx,zI x.mo,zI x.bo,zI x.fr,.slice p len cap] 55)).alloc (.cells #[zI 0,zI 0,zI 0,zI 0,zI 0,zI 0,zS] 55)) w'):=ramay x p len cap _ i.o hl y;have L:=zh y;clear h y;generalize n:((w.alloc (.cells #[zI x.me,zI x.rv,zI x.nx,zI x.mo,zI x.bo,zI x.fr,.slice p len cap] 55)).alloc (.cells #[zI 0,zI 0,zI 0,zI 0,zI 0,zI 0,zS] 55))=W2 at *;have H:=zh n;clear n;go_enter Tryz.func46,Tryz.ntmps46;go_upto_region 1 with fail
  rw[H.o];go_wp2_with refine zw ?_;refine E.o.mono ?_;rintro e w1 ⟨rfl,d⟩;have r:=zh (O.o.below d (by omega));have P:=zh (A.o.below d (by omega));have l:=shB z d;have B:=zh (i.o.below d);have aq:w.heap.size+1<w1.heap.size:=Nat.lt_of_lt_of_le u d.size;clear d u;by_cases t:0≤m∧m≤2399
  ·rw[decide_eq_true t] at s;go_wp2_with fail;refine(s.o _).mono ?_;rintro e w2 ⟨rfl,K⟩;subst K;have Y:=zy3 r;have c6:=zy6 r;by_cases S:m<x.mo
   ·have an:decide (m<x.mo)=true:=decide_eq_true S;have F:Hid (RollIs x m ac0 23):=.inr (.inl ⟨L.o,λhh=>by have:=hh.2;omega,.inr ⟨t,S,rfl⟩,rfl⟩);clear t S J j;go_wp2_with refine zs ?_;intro M c;have b:=zyb c;have f:=zk c l;clear c;go_wp2_with fail;exact zr (.tuple #[.agg #[zI 0,zI 0,zI 0,zI 0,zI 0,zI 0,zS],zI 23]) (by simp[results,Tryz.results46,scl7 b,go_sem]) ⟨ac0,none,0,0,_,rfl,F.o,deb.fresh_nil _ _,f.o⟩
   ·have an:decide (m<x.mo)=false:=decide_eq_false S;have ak:=zh (rcopy x p len cap w2 B.o j);have R:Hid (RMay x m):=⟨t,by omega⟩
    go_wp2_with refine zw ?_;refine ak.o.mono ?_;rintro e k ⟨g,a,rfl,T,q⟩;unfold Ac.v Ac.cs;obtain⟨a2,a3⟩:=zn2 q r P;have Z:=shB l q;have a1:=zh (B.o.below q);have a0:=zh T;have ay:=q.size;have az:=(Blk.new k #[zI x.me,zI x.rv,zI x.nx,zI x.mo,zI x.bo,zI x.fr,.slice g len a] 55).lt;have a6:=zye k #[zI x.me,zI x.rv,zI x.nx,zI x.mo,zI x.bo,zI x.fr,.slice g len a] 55;have C:=zya a2 (.cells #[zI x.me,zI x.rv,zI x.nx,zI x.mo,zI x.bo,zI x.fr,.slice g len a] 55);have a7:=zya a3 (.cells #[zI x.me,zI x.rv,zI x.nx,zI x.mo,zI x.bo,zI x.fr,.slice g len a] 55);have Q:=zyf Z (.cells #[zI x.me,zI x.rv,zI x.nx,zI x.mo,zI x.bo,zI x.fr,.slice g len a] 55);have a5:Hid (RowD (k.alloc (.cells #[zI x.me,zI x.rv,zI x.nx,zI x.mo,zI x.bo,zI x.fr,.slice g len a] 55)) p len x.ds):=a1.o.below ((Below.refl k.heap.size k).alloc zc _);have a4:Hid (deb.Fresh (k.alloc (.cells #[zI x.me,zI x.rv,zI x.nx,zI x.mo,zI x.bo,zI x.fr,.slice g len a] 55)) w2.heap.size g len a x.ds):=a0.o.below ((Below.refl k.heap.size k).alloc zc _);clear T q Y c6;by_cases N:m=x.mo
    ·have ao:(m==x.mo)=true:=by simpa using N
     have G:Hid (RollIs x m x 0):=.inr (.inr ⟨L.o,R.o,by unfold rolled;rw[if_pos N],rfl⟩);have Y:=C.o.cell 3;clear N t S J j;go_upto_region 8 with fail
     generalize (k.alloc (.cells #[zI x.me,zI x.rv,zI x.nx,zI x.mo,zI x.bo,zI x.fr,.slice g len a] 55))=W4 at *;go_wp2_with (first|refine zw ?_|refine zs ?_)
     intro M c;have b:=zyb c;have f:=zk c Q;have D:Hid (deb.Fresh M w.heap.size g len a x.ds):=(fresh_upd a4.o c (by omega)).low (by omega);clear c;go_wp2_with fail;exact zr (.tuple #[.agg #[zI x.me,zI x.rv,zI x.nx,zI x.mo,zI x.bo,zI x.fr,.slice g len a],zI 0]) (by simp[results,Tryz.results46,zy0 b,zy1 b,zy2 b,zy3 b,zy4 b,zy5 b,zy6 b,go_sem]) ⟨x,g,len,a,_,rfl,G.o,D.o,f.o⟩
    ·have ao:(m==x.mo)=false:=by simpa using N
     have ap:((m-x.mo).toNat:Int)=m-x.mo:=by omega
     have G:Hid (rolled x m=⟨x.me,x.rv,x.nx,m,0,x.fr,deb.ageAll x.ds (m-x.mo).toNat⟩):=by show _=_;unfold rolled;rw[if_neg N]
     have aj:Hid (zC 88 #[.slice p len cap,zI (m-x.mo)] (k.alloc (.cells #[zI x.me,zI x.rv,zI x.nx,zI x.mo,zI x.bo,zI x.fr,.slice g len a] 55)) λe w'=>deb.AgePost (k.alloc (.cells #[zI x.me,zI x.rv,zI x.nx,zI x.mo,zI x.bo,zI x.fr,.slice g len a] 55)) x.ds (m-x.mo) e w'):=deb.rages p len cap x.ds (m-x.mo) _ a5.o hl;have X:0≤m-x.mo∧m-x.mo≤2400:=by omega
     have al:=zh j;have am:=zh X;have Y:=C.o.cell 3;have c6:=C.o.cell 6;clear N j X ap;go_upto_region 8 with fail
     generalize (k.alloc (.cells #[zI x.me,zI x.rv,zI x.nx,zI x.mo,zI x.bo,zI x.fr,.slice g len a] 55))=W4 at *;go_wp2_with fail;refine aj.o.mono ?_;rintro e w5 ⟨p5,n5,c5,z5,f5,rfl,V,U,I⟩;obtain⟨rfl,rfl⟩:=V.got al.o am.o;obtain⟨ar,aa⟩:=zn2 I a6 a7;have a8:=shB Q I;have a9:=zh U;clear V U I Y c6;go_wp2_with refine zm ?_;intro W6 c;have au:=zyb c;have ad:=zk1 c aa;have ab:=zk c a8;have ac:=zh (fresh_upd a9.o c (by omega));clear c;go_wp2_with refine zl ?_;intro W7 c;have av:=zyb c;have ag:=zk1 c ad;have ae:=zk c ab;have af:=zh (fresh_upd ac.o c (by omega));clear c;go_wp2_with refine zl ?_;intro W8 c;have aw:=zyb c;have ax:=zk1 c ag;have ah:=zk c ae;have ai:=zh (fresh_upd af.o c (by omega));clear c;go_wp2_with (first|refine zw ?_|refine zs ?_)
     intro M c;have b:=zyb c;have f:=zk c ah;have D:Hid (deb.Fresh M w.heap.size p5 n5 c5 (deb.ageAll x.ds (m-x.mo).toNat)):=(fresh_upd ai.o c (by omega)).low (by omega);clear c;go_wp2_with fail;exact zr (.tuple #[.agg #[zI x.me,zI x.rv,zI x.nx,zI m,zI 0,zI x.fr,.slice p5 n5 c5],zI 0]) (by simp[results,Tryz.results46,zy0 b,zy1 b,zy2 b,zy3 b,zy4 b,zy5 b,zy6 b,go_sem]) ⟨⟨x.me,x.rv,x.nx,m,0,x.fr,deb.ageAll x.ds (m-x.mo).toNat⟩,p5,n5,c5,_,rfl,.inr (.inr ⟨L.o,R.o,G.o.symm,rfl⟩),D.o,f.o⟩
  ·rw[decide_eq_false t] at s;have F:Hid (RollIs x m ac0 2):=.inr (.inl ⟨L.o,λhh=>t hh.1,.inl ⟨t,rfl⟩,rfl⟩);clear t J j;go_wp2_with fail;refine(s.o _).mono ?_;rintro e w2 ⟨rfl,K⟩;subst K;go_wp2_with refine zs ?_;intro M c;have b:=zyb c;have f:=zk c l;clear c;go_wp2_with fail;exact zr (.tuple #[.agg #[zI 0,zI 0,zI 0,zI 0,zI 0,zI 0,zS],zI 2]) (by simp[results,Tryz.results46,scl7 b,go_sem]) ⟨ac0,none,0,0,_,rfl,F.o,deb.fresh_nil _ _,f.o⟩
 ·skip
  have E:Hid (zC 44 #[.agg #[zI x.me,zI x.rv,zI x.nx,zI x.mo,zI x.bo,zI x.fr,.slice p len cap]] ((w.alloc (.cells #[zI x.me,zI x.rv,zI x.nx,zI x.mo,zI x.bo,zI x.fr,.slice p len cap] 55)).alloc (.cells #[zI 0,zI 0,zI 0,zI 0,zI 0,zI 0,zS] 55)) λe w'=>e=.returned (.bool false)∧Below ((w.alloc (.cells #[zI x.me,zI x.rv,zI x.nx,zI x.mo,zI x.bo,zI x.fr,.slice p len cap] 55)).alloc (.cells #[zI 0,zI 0,zI 0,zI 0,zI 0,zI 0,zS] 55)).heap.size ((w.alloc (.cells #[zI x.me,zI x.rv,zI x.nx,zI x.mo,zI x.bo,zI x.fr,.slice p len cap] 55)).alloc (.cells #[zI 0,zI 0,zI 0,zI 0,zI 0,zI 0,zS] 55)) w'):=ranot x p len cap _ i.o hl y;have L:=zh y;clear h y;generalize n:((w.alloc (.cells #[zI x.me,zI x.rv,zI x.nx,zI x.mo,zI x.bo,zI x.fr,.slice p len cap] 55)).alloc (.cells #[zI 0,zI 0,zI 0,zI 0,zI 0,zI 0,zS] 55))=W2 at *;have H:=zh n;clear n;go_enter Tryz.func46,Tryz.ntmps46;go_upto_region 1 with fail
  rw[H.o];go_wp2_with refine zw ?_;refine E.o.mono ?_;rintro e w1 ⟨rfl,d⟩;have r:=zh (O.o.below d (by omega));have P:=zh (A.o.below d (by omega));have l:=shB z d;have B:=zh (i.o.below d);have aq:w.heap.size+1<w1.heap.size:=Nat.lt_of_lt_of_le u d.size;clear d u;go_wp2_with refine zs ?_;intro M c;have b:=zyb c;have f:=zk c l;clear c;go_wp2_with fail;exact zr (.tuple #[.agg #[zI 0,zI 0,zI 0,zI 0,zI 0,zI 0,zS],zI 5]) (by simp[results,Tryz.results46,scl7 b,go_sem]) ⟨ac0,none,0,0,_,rfl,.inl ⟨L.o,rfl,rfl⟩,deb.fresh_nil _ _,f.o⟩
end acc
namespace words
open Go.RowKit
theorem pow_min{j:Nat}(hj:¬ j≤64):∃d,2^j=2^64*2^d:=⟨j-64,by rw[← Nat.pow_add];congr 1;omega⟩
theorem sh_down(v j:Nat)(hj:0<j)(hv:v<2^64):((sh v (-(j:Int)):Nat):Int)=(v:Int)/2^min j 64:=by
 unfold sh;rw[if_pos (by omega),show (-(-(j:Int))).toNat=j by omega];by_cases h:j≤64
 ·rw[Nat.min_eq_left h];simp
 ·rw[Nat.min_eq_right (by omega)];have a:v/2^j=0:=Nat.div_eq_of_lt (Nat.lt_of_lt_of_le hv (Nat.pow_le_pow_right (by decide) (by omega)));rw[a];omega
theorem sh_up(v:Nat)(k:Int)(hk:0≤k):((sh v k:Nat):Int)=IntKind.u64.wrap ((v:Int)*2^min k.toNat 64):=by
 unfold sh;rw[if_neg (by omega),IntKind.wrap_u64];by_cases h:k.toNat≤64
 ·rw[Nat.min_eq_left h];simp
 ·rw[Nat.min_eq_right (by omega)];obtain⟨d,a⟩:=pow_min h;rw[a,Nat.mul_left_comm,Nat.mul_mod_right];omega
theorem ones_shift(n:Nat)(h0:1≤n)(h1:n≤64):((onesN n:Nat):Int)=18446744073709551615/2^(64-n):=by
 have e:(18446744073709551615:Int)/2^(64-n)=((18446744073709551615/2^(64-n):Nat):Int):=by simp
 rw[e]
 congr 1
 unfold onesN;have a:2^64=2^n*2^(64-n):=by rw[← Nat.pow_add];congr 1;omega
 have c:0<2^(64-n):=Nat.two_pow_pos _;have b:0<2^n:=Nat.two_pow_pos _;symm;apply Nat.div_eq_of_lt_le
 ·have:(2^n-1)*2^(64-n)=2^64-2^(64-n):=by rw[a,Nat.sub_mul,Nat.one_mul]
  omega
 ·have:(2^n-1+1)*2^(64-n)=2^64:=by rw[a,Nat.sub_add_cancel b]
  omega
theorem shift_any(v:Nat)(k:Int)(w:World)(hv:v<2^64)(k0:-96≤k)(k1:k≤96):
  Calls Tryz.prog 158 #[.int .u64 (v:Int),zI k] w λe w'=>e=.returned (.int .u64 (sh v k:Nat))∧w'=w:=by
 by_cases h:k<0
 ·obtain⟨j,rfl⟩:∃j:Nat,k=-(j:Int):=⟨(-k).toNat,by omega⟩
  have a:0<j:=by omega
  have e:=sh_down v j a hv;have b:-(-(j:Int))=(j:Int):=by omega
  rw[e];clear e;go_enter Tryz.func158,Tryz.ntmps158;go_wp2;go_ret;exact⟨rfl,rfl⟩
 ·have e:=sh_up v k (by omega);rw[e];clear e;go_enter Tryz.func158,Tryz.ntmps158;go_wp2;go_ret;exact⟨rfl,rfl⟩
theorem ones_any(n:Nat)(w:World)(h0:1≤n)(h1:n≤64):
  Calls Tryz.prog 159 #[zI (n:Int)] w λe w'=>e=.returned (.int .u64 (onesN n:Nat))∧w'=w:=by
 rw[ones_shift n h0 h1];go_enter Tryz.func159,Tryz.ntmps159;go_wp2;go_ret;exact⟨rfl,rfl⟩
theorem isField_yes(lo n:Int)(w:World)(h0:0≤lo)(h1:1≤n)(h2:n≤64)(h3:lo≤96-n):
  Calls Tryz.prog 157 #[zI lo,zI n] w λe w'=>e=.returned (.bool true)∧w'=w:=by
 go_enter Tryz.func157,Tryz.ntmps157;go_wp2;go_ret;exact⟨rfl,rfl⟩
theorem sh_lt(v:Nat)(k:Int)(hv:v<2^64):sh v k<2^64:=by
 unfold sh;split
 ·exact Nat.lt_of_le_of_lt (Nat.div_le_self _ _) hv
 ·exact Nat.mod_lt _ (by decide)
theorem ones_lt(n:Nat)(h:n≤64):onesN n<2^64:=by
 unfold onesN;have:=Nat.pow_le_pow_right (show 0<2 by decide) h;have a:0<2^n:=Nat.two_pow_pos _;omega
theorem idx0(x y z:Int)(w:World):(Instr.index 135 (.agg #[.int .u32 x,.int .u32 y,.int .u32 z]) (zI 0)).run Tryz.prog w=.ok (.int .u32 x) w:=by kernel_rfl
theorem idx1(x y z:Int)(w:World):(Instr.index 135 (.agg #[.int .u32 x,.int .u32 y,.int .u32 z]) (zI 1)).run Tryz.prog w=.ok (.int .u32 y) w:=by kernel_rfl
theorem idx2(x y z:Int)(w:World):(Instr.index 135 (.agg #[.int .u32 x,.int .u32 y,.int .u32 z]) (zI 2)).run Tryz.prog w=.ok (.int .u32 z) w:=by kernel_rfl
theorem bits_any(a b c lo n:Nat)(w:World)(ha:a<2^32)(hb:b<2^32)(hc:c<2^32)(n0:1≤n)(n1:n≤64)(hl:lo+n≤96):
  Calls Tryz.prog 112 #[.agg #[.int .u32 (a:Int),.int .u32 (b:Int),.int .u32 (c:Int)],zI (lo:Int),zI (n:Int)] w λe w'=>e=.returned (.tuple #[.int .u64 (bitsN a b c lo n:Nat),zI 0])∧zB w w':=by
 have x:(a:Int)<4294967296:=by omega
 have y:(b:Int)<4294967296:=by omega
 have c1:(c:Int)<4294967296:=by omega
 have m:Hid (zB w (w.alloc (.cells #[.int .u32 (a:Int),.int .u32 (b:Int),.int .u32 (c:Int)] 135))):=(Below.refl _ w).alloc zc _;have h:bitsN a b c lo n=(sh a (-(lo:Int)) ||| sh b (32-(lo:Int)) ||| sh c (64-(lo:Int))) &&& onesN n:=by unfold bitsN;rw[Int.zero_sub]
 have p:Hid (bitsN a b c lo n=(sh a (-(lo:Int)) ||| sh b (32-(lo:Int)) ||| sh c (64-(lo:Int))) &&& onesN n):=h;clear h;have z:=idx0 (a:Int) (b:Int) (c:Int);have A:=idx1 (a:Int) (b:Int) (c:Int);have B:=idx2 (a:Int) (b:Int) (c:Int);go_enter Tryz.func112,Tryz.ntmps112;go_wp2_with fail;refine(isField_yes _ _ _ (by omega) (by omega) (by omega) (by omega)).mono ?_;rintro e wr ⟨rfl,rfl⟩;go_wp2_with fail;refine wp_loop_rounds 4 ?_;rw[rounds_succ];go_wp2_with fail;refine(shift_any a _ _ (by omega) (by omega) (by omega)).mono ?_;rintro e wr ⟨rfl,rfl⟩
 have r:bits .or .u64 0 ((sh a (-(lo:Int)):Nat):Int)=((sh a (-(lo:Int)):Nat):Int):=by
  have:=or64 0 (sh a (-(lo:Int))) (by decide) (sh_lt _ _ (by omega));simpa using this
 have i:sh a (-(lo:Int))<2^64:=sh_lt _ _ (by omega);generalize sh a (-(lo:Int))=g at *;go_wp2_with fail;rw[rounds_succ];go_wp2_with fail;refine(shift_any b _ _ (by omega) (by omega) (by omega)).mono ?_;rintro e wr ⟨rfl,rfl⟩;have j:sh b (32-(lo:Int))<2^64:=sh_lt _ _ (by omega);have s:=or64 g (sh b (32-(lo:Int))) i j;have d:=Nat.or_lt_two_pow i j;clear r;generalize sh b (32-(lo:Int))=l at *;go_wp2_with fail;rw[rounds_succ];go_wp2_with fail;refine(shift_any c _ _ (by omega) (by omega) (by omega)).mono ?_;rintro e wr ⟨rfl,rfl⟩;have k:sh c (64-(lo:Int))<2^64:=sh_lt _ _ (by omega);have t:=or64 (g ||| l) (sh c (64-(lo:Int))) d k;have f:=Nat.or_lt_two_pow d k;clear s;generalize sh c (64-(lo:Int))=u at *;go_wp2_with fail;rw[rounds_succ];go_wp2_with fail;refine(ones_any n _ (by omega) (by omega)).mono ?_;rintro e wr ⟨rfl,rfl⟩;have q:onesN n<2^64:=ones_lt n (by omega);have C:=and64 (g ||| l ||| u) (onesN n) f q;clear t;go_wp2_with fail;go_ret2;exact⟨by rw[p.o];rfl,m.o⟩
end words
namespace ora
open Go.RowKit
def GaveV(w:World)(l:List Pr)(e:Ending)(w':World):Prop:=∃v,e=.returned v∧Pw w' w.heap.size v l∧zB w w'
theorem pclone_some(x:Addr)(len cap:Nat)(l:List Pr)(w:World)(hr:RowP w (some x) len l)(hl:len≤1000):
  Calls Tryz.prog 117 #[.slice (some x) len cap] w λe w'=>GaveV w l e w':=by
 obtain⟨z,y,f,g,i⟩:=info_parts info_pr;obtain⟨d,hr⟩:=hr;have k:Hid ((w.alloc (.cells #[] 87)).ownsRow w.heap.size 87 4 (.slice (some ⟨w.heap.size,0,none⟩) 0 0) 0 []):=World.ownsRow_lit w #[] 0 zc (by unfold maxLen;omega) rfl;have c:Hid (w.heap.size≤(w.alloc (.cells #[] 87)).heap.size):=palloc_le zc _;have t:∀W:World,(binOp BinOp.eql 26 (.slice (some x) len cap) (zS)).run Tryz.prog W=.ok (.bool false) W:=λW=>by kernel_rfl
 go_enter Tryz.func117,Tryz.ntmps117
 go_wp2_with (first
  |(at_builtin;refine wpList_append_own _ rfl _ _ 26 rfl w.heap.size 87 z (.agg #[zI 0,zI 0,zI 0,zI 0]) 4 32 Tryz.underlying26 y f g i rfl (by decide) _ _ _ rfl k.o x len cap (cellsP l) rfl ?c0 ?c1 ?c2 ?c3 ?c4 c.o ?_)
  | go_in)
 case c0=>rw[cellsP_len,d]
 case c1=>
  intro j u n;rcases hr with h|⟨b,A,h,s⟩
  ·have:l=[]:=List.length_eq_zero_iff.1 (by omega);subst this;simp[cellsP] at n
  ·obtain rfl:=Option.some.inj h;have:=cellsP_get d s j u n;rw[Addr.add_lit,World.cell?_alloc_lt w _ _ (World.block_lt_of_cell? w _ this)];exact this
 case c2=>exact oneP l
 case c3=>unfold maxLen;omega
 case c4=>omega
 intro p w' a m _;have r:Hid (Pw w' w.heap.size p l):=by show w'.ownsRow _ _ _ _ _ _;rw[d];simpa using a
 have q:Hid (zB w w'):=pown_bel k.o m (zb.alloc zc _) zc c.o;clear a m;go_wp2;go_ret;exact⟨p,rfl,r.o,q.o⟩
theorem pclone_none(cap:Nat)(w:World):
  Calls Tryz.prog 117 #[.slice none 0 cap] w λe w'=>GaveV w [] e w':=by
 have a:∀W:World,(binOp BinOp.eql 26 (.slice none 0 cap) (zS)).run Tryz.prog W=.ok (.bool true) W:=λW=>by kernel_rfl
 go_enter Tryz.func117,Tryz.ntmps117;go_wp2_with fail;go_ret;exact⟨_,rfl,Pw.zero _ _,zb⟩
theorem pclone_any(a:Option Addr)(len cap:Nat)(l:List Pr)(w:World)(hr:RowP w a len l)(hl:len≤1000):
  Calls Tryz.prog 117 #[.slice a len cap] w λe w'=>GaveV w l e w':=by
 cases a with
 |some x=>exact pclone_some x len cap l w hr hl
 |none=>
  have b:len=0:=by
   rcases hr.2 with h|⟨_,_,h,_⟩
   ·exact h
   ·cases h
  subst b;have:l=[]:=List.length_eq_zero_iff.1 hr.1;subst this;exact pclone_none cap w
end ora
namespace book
open Go.RowKit
theorem bkind(kd me mo id te de fe pr ch un tg ow bp:Int)(w:World):Calls Tryz.prog 162 #[.agg #[zI kd,zI me,zI mo,zI id,zI te,zI de,zI fe,zI pr,zI ch,zI un,zI tg,zI ow,zI bp]] w λe w'=>YN w (KindR ⟨kd,me,mo,id,te,de,fe,pr,ch,un,tg,ow,bp⟩) e w':=by
 obtain⟨x,V,E,A,-⟩:=sh1 w #[zI kd,zI me,zI mo,zI id,zI te,zI de,zI fe,zI pr,zI ch,zI un,zI tg,zI ow,zI bp] 44;go_enter Tryz.func162,Tryz.ntmps162;go_upto_region 1 with fail
 rw[V.o];obtain⟨c0,c1,c2,k,l,m,n,p,r,s,a,b,c⟩:=scl13 E;by_cases F:kd=1
 case pos=>
  have q1:(kd==1)=true:=by simpa using F
  have i:=zh F;clear F;go_wp2_with fail;go_ret;exact YN.yes (Or.inl i.o) A.o
 have q1:(kd==1)=false:=by simpa using F
 by_cases I:kd=2
 case pos=>
  have q2:(kd==2)=true:=by simpa using I
  have i:=zh I;clear F I;have d:Hid (zC 161 #[zI 0,zI 2399,.slice (some ⟨x.heap.size,0,none⟩) 1 1] (x.alloc (.cells #[zI mo] 3)) λe w'=>e=.returned (.bool (decide (0≤mo∧mo≤2399)))∧w'=(x.alloc (.cells #[zI mo] 3))):=bki.within_one 0 2399 mo x _ rfl;have g:=zyf A (.cells #[zI mo] 3);have j:=zya E (.cells #[zI mo] 3);by_cases z:0≤mo∧mo≤2399
  case neg=>
   rw[decide_eq_false z] at d;go_wp2_with fail;refine d.o.mono ?_;rintro e W ⟨rfl,y⟩;subst y;go_wp2_with fail;go_ret;exact YN.no (λq=>(λq=>z q.1) ((kind_2 (v:=⟨kd,me,mo,id,te,de,fe,pr,ch,un,tg,ow,bp⟩) i.o).1 q)) g.o
  rw[decide_eq_true z] at d;go_wp2_with fail;refine d.o.mono ?_;rintro e W ⟨rfl,y⟩;subst y;clear c0 c1 c2 k l m n p r s a b c;generalize (x.alloc (.cells #[zI mo] 3))=J at *;obtain⟨c0,c1,c2,k,l,m,n,p,r,s,a,b,c⟩:=scl13 j;have L:Hid (∀W,zC 185 #[.agg #[zI kd,zI me,zI mo,zI id,zI te,zI de,zI fe,zI pr,zI ch,zI un,zI tg,zI ow,zI bp]] W λe w'=>YN W (Numd id tg) e w'):=λW=>bnum kd me mo id te de fe pr ch un tg ow bp W;go_wp2_with fail;refine(L.o _).mono ?_;rintro e Y ⟨B,rfl,f,h⟩;have t:=shB g h;have u:=shN j h;clear h;clear c0 c1 c2 k l m n p r s a b c;obtain⟨c0,c1,c2,k,l,m,n,p,r,s,a,b,c⟩:=scl13 u;cases B
  case false=>
   have D:Hid (¬ (Numd id tg)):=λq=>absurd (f.2 q) (by decide);clear f;go_wp2_with fail;go_ret;exact YN.no (λq=>(λq=>D.o q.2.1) ((kind_2 (v:=⟨kd,me,mo,id,te,de,fe,pr,ch,un,tg,ow,bp⟩) i.o).1 q)) t.o
  have P:Hid (Numd id tg):=f.1 rfl;clear f;have M:Hid (∀W,zC 186 #[.agg #[zI kd,zI me,zI mo,zI id,zI te,zI de,zI fe,zI pr,zI ch,zI un,zI tg,zI ow,zI bp]] W λe w'=>YN W (Unt un) e w'):=λW=>bunt kd me mo id te de fe pr ch un tg ow bp W;go_wp2_with fail;refine(M.o _).mono ?_;rintro e W3 ⟨B,rfl,f,h⟩;have C:=shB t h;have H:=shN u h;clear h;clear c0 c1 c2 k l m n p r s a b c;obtain⟨c0,c1,c2,k,l,m,n,p,r,s,a,b,c⟩:=scl13 H;cases B
  case false=>
   have D:Hid (¬ (Unt un)):=λq=>absurd (f.2 q) (by decide);clear f;go_wp2_with fail;go_ret;exact YN.no (λq=>(λq=>D.o q.2.2.1) ((kind_2 (v:=⟨kd,me,mo,id,te,de,fe,pr,ch,un,tg,ow,bp⟩) i.o).1 q)) C.o
  have S:Hid (Unt un):=f.1 rfl;clear f;have U:Hid (∀W,zC 187 #[.agg #[zI id,zI te,zI de,zI fe,zI pr,zI ch,zI un]] W λe w'=>YN W (Mony te de fe pr ch) e w'):=λW=>bmony id te de fe pr ch un W;go_wp2_with fail;refine(U.o _).mono ?_;rintro e W4 ⟨B,rfl,f,h⟩;have Q:=shB C h;have X:=shN H h;clear h;clear c0 c1 c2 k l m n p r s a b c;obtain⟨c0,c1,c2,k,l,m,n,p,r,s,a,b,c⟩:=scl13 X;cases B
  case false=>
   have D:Hid (¬ (Mony te de fe pr ch)):=λq=>absurd (f.2 q) (by decide);clear f;go_wp2_with fail;go_ret;exact YN.no (λq=>(λq=>D.o q.2.2.2) ((kind_2 (v:=⟨kd,me,mo,id,te,de,fe,pr,ch,un,tg,ow,bp⟩) i.o).1 q)) Q.o
  have Z:Hid (Mony te de fe pr ch):=f.1 rfl;clear f;go_wp2_with fail;go_ret;exact YN.yes ((kind_2 (v:=⟨kd,me,mo,id,te,de,fe,pr,ch,un,tg,ow,bp⟩) i.o).2 ⟨z,P.o,S.o,Z.o⟩) Q.o
 have q2:(kd==2)=false:=by simpa using I
 by_cases K:kd=3
 case pos=>
  have q3:(kd==3)=true:=by simpa using K
  have i:=zh K;clear F I K;have d:Hid (zC 161 #[zI 0,zI 2399,.slice (some ⟨x.heap.size,0,none⟩) 1 1] (x.alloc (.cells #[zI mo] 3)) λe w'=>e=.returned (.bool (decide (0≤mo∧mo≤2399)))∧w'=(x.alloc (.cells #[zI mo] 3))):=bki.within_one 0 2399 mo x _ rfl;have g:=zyf A (.cells #[zI mo] 3);have j:=zya E (.cells #[zI mo] 3);by_cases z:0≤mo∧mo≤2399
  case neg=>
   rw[decide_eq_false z] at d;go_wp2_with fail;refine d.o.mono ?_;rintro e W ⟨rfl,y⟩;subst y;go_wp2_with fail;go_ret;exact YN.no (λq=>(λq=>z q.1) ((kind_3 (v:=⟨kd,me,mo,id,te,de,fe,pr,ch,un,tg,ow,bp⟩) i.o).1 q)) g.o
  rw[decide_eq_true z] at d;go_wp2_with fail;refine d.o.mono ?_;rintro e W ⟨rfl,y⟩;subst y;clear c0 c1 c2 k l m n p r s a b c;generalize (x.alloc (.cells #[zI mo] 3))=J at *;obtain⟨c0,c1,c2,k,l,m,n,p,r,s,a,b,c⟩:=scl13 j;have L:Hid (∀W,zC 185 #[.agg #[zI kd,zI me,zI mo,zI id,zI te,zI de,zI fe,zI pr,zI ch,zI un,zI tg,zI ow,zI bp]] W λe w'=>YN W (Numd id tg) e w'):=λW=>bnum kd me mo id te de fe pr ch un tg ow bp W;go_wp2_with fail;refine(L.o _).mono ?_;rintro e Y ⟨B,rfl,f,h⟩;have t:=shB g h;have u:=shN j h;clear h;clear c0 c1 c2 k l m n p r s a b c;obtain⟨c0,c1,c2,k,l,m,n,p,r,s,a,b,c⟩:=scl13 u;cases B
  case false=>
   have D:Hid (¬ (Numd id tg)):=λq=>absurd (f.2 q) (by decide);clear f;go_wp2_with fail;go_ret;exact YN.no (λq=>(λq=>D.o q.2.1) ((kind_3 (v:=⟨kd,me,mo,id,te,de,fe,pr,ch,un,tg,ow,bp⟩) i.o).1 q)) t.o
  have P:Hid (Numd id tg):=f.1 rfl;clear f;have M:Hid (∀W,zC 186 #[.agg #[zI kd,zI me,zI mo,zI id,zI te,zI de,zI fe,zI pr,zI ch,zI un,zI tg,zI ow,zI bp]] W λe w'=>YN W (Unt un) e w'):=λW=>bunt kd me mo id te de fe pr ch un tg ow bp W;go_wp2_with fail;refine(M.o _).mono ?_;rintro e W3 ⟨B,rfl,f,h⟩;have C:=shB t h;have H:=shN u h;clear h;clear c0 c1 c2 k l m n p r s a b c;obtain⟨c0,c1,c2,k,l,m,n,p,r,s,a,b,c⟩:=scl13 H;cases B
  case false=>
   have D:Hid (¬ (Unt un)):=λq=>absurd (f.2 q) (by decide);clear f;go_wp2_with fail;go_ret;exact YN.no (λq=>(λq=>D.o q.2.2) ((kind_3 (v:=⟨kd,me,mo,id,te,de,fe,pr,ch,un,tg,ow,bp⟩) i.o).1 q)) C.o
  have S:Hid (Unt un):=f.1 rfl;clear f;go_wp2_with fail;go_ret;exact YN.yes ((kind_3 (v:=⟨kd,me,mo,id,te,de,fe,pr,ch,un,tg,ow,bp⟩) i.o).2 ⟨z,P.o,S.o⟩) C.o
 have q3:(kd==3)=false:=by simpa using K
 by_cases N:kd=4
 case pos=>
  have q4:(kd==4)=true:=by simpa using N
  have i:=zh N;clear F I K N;have T:Hid (∀W,zC 185 #[.agg #[zI kd,zI me,zI mo,zI id,zI te,zI de,zI fe,zI pr,zI ch,zI un,zI tg,zI ow,zI bp]] W λe w'=>YN W (Numd id tg) e w'):=λW=>bnum kd me mo id te de fe pr ch un tg ow bp W;go_wp2_with fail;refine(T.o _).mono ?_;rintro e J ⟨B,rfl,f,h⟩;have g:=shB A h;have j:=shN E h;clear h;clear c0 c1 c2 k l m n p r s a b c;obtain⟨c0,c1,c2,k,l,m,n,p,r,s,a,b,c⟩:=scl13 j;cases B
  case false=>
   have D:Hid (¬ (Numd id tg)):=λq=>absurd (f.2 q) (by decide);clear f;go_wp2_with fail;go_ret;exact YN.no (λq=>(λq=>D.o q) ((kind_4 (v:=⟨kd,me,mo,id,te,de,fe,pr,ch,un,tg,ow,bp⟩) i.o).1 q)) g.o
  have P:Hid (Numd id tg):=f.1 rfl;clear f;go_wp2_with fail;go_ret;exact YN.yes ((kind_4 (v:=⟨kd,me,mo,id,te,de,fe,pr,ch,un,tg,ow,bp⟩) i.o).2 P.o) g.o
 have q4:(kd==4)=false:=by simpa using N
 by_cases O:kd=5
 case pos=>
  have q5:(kd==5)=true:=by simpa using O
  have i:=zh O;clear F I K N O;have d:Hid (zC 161 #[zI 1,zI 1000000000,.slice (some ⟨x.heap.size,0,none⟩) 1 1] (x.alloc (.cells #[zI ow] 3)) λe w'=>e=.returned (.bool (decide (1≤ow∧ow≤1000000000)))∧w'=(x.alloc (.cells #[zI ow] 3))):=bki.within_one 1 1000000000 ow x _ rfl;have g:=zyf A (.cells #[zI ow] 3);have j:=zya E (.cells #[zI ow] 3);by_cases z:1≤ow∧ow≤1000000000
  case neg=>
   rw[decide_eq_false z] at d;go_wp2_with fail;refine d.o.mono ?_;rintro e W ⟨rfl,y⟩;subst y;go_wp2_with fail;go_ret;exact YN.no (λq=>(λq=>z q.1) ((kind_5 (v:=⟨kd,me,mo,id,te,de,fe,pr,ch,un,tg,ow,bp⟩) i.o).1 q)) g.o
  rw[decide_eq_true z] at d;go_wp2_with fail;refine d.o.mono ?_;rintro e W ⟨rfl,y⟩;subst y;clear c0 c1 c2 k l m n p r s a b c;generalize (x.alloc (.cells #[zI ow] 3))=J at *;obtain⟨c0,c1,c2,k,l,m,n,p,r,s,a,b,c⟩:=scl13 j;have G:Hid (zC 161 #[zI 0,zI 10000,.slice (some ⟨J.heap.size,0,none⟩) 1 1] (J.alloc (.cells #[zI bp] 3)) λe w'=>e=.returned (.bool (decide (0≤bp∧bp≤10000)))∧w'=(J.alloc (.cells #[zI bp] 3))):=bki.within_one 0 10000 bp J _ rfl;have t:=zyf g (.cells #[zI bp] 3);have u:=zya j (.cells #[zI bp] 3);by_cases R:0≤bp∧bp≤10000
  case neg=>
   rw[decide_eq_false R] at G;go_wp2_with fail;refine G.o.mono ?_;rintro e W ⟨rfl,y⟩;subst y;go_wp2_with fail;go_ret;exact YN.no (λq=>(λq=>R q.2) ((kind_5 (v:=⟨kd,me,mo,id,te,de,fe,pr,ch,un,tg,ow,bp⟩) i.o).1 q)) t.o
  rw[decide_eq_true R] at G;go_wp2_with fail;refine G.o.mono ?_;rintro e W ⟨rfl,y⟩;subst y;clear c0 c1 c2 k l m n p r s a b c;generalize (J.alloc (.cells #[zI bp] 3))=Y at *;obtain⟨c0,c1,c2,k,l,m,n,p,r,s,a,b,c⟩:=scl13 u;go_wp2_with fail;go_ret;exact YN.yes ((kind_5 (v:=⟨kd,me,mo,id,te,de,fe,pr,ch,un,tg,ow,bp⟩) i.o).2 ⟨z,R⟩) t.o
 have q5:(kd==5)=false:=by simpa using O
 have i:Hid (¬ KindR ⟨kd,me,mo,id,te,de,fe,pr,ch,un,tg,ow,bp⟩):=λq=>by
  rcases q with q|q|q|q|q
  ·exact F q
  ·exact I q.1
  ·exact K q.1
  ·exact N q.1
  ·exact O q.1
 clear F I K N O;go_wp2_with fail;go_ret;exact YN.no i.o A.o
end book
section
open Go.RowKit
variable{Q:Exit→Act→World→Prop}{K:Act→World→Prop}{P:Program}{o:Oper}{a:Act}
theorem wp_letOpN{w:World}(ty:TypeId)(x y:Operand)(ho:o.op=.store ty x y)
  (g off:Nat) (hx:a.eval x=.pointer (some ⟨g,off,none⟩)) (v:Value) (hy:a.eval y=v) (cells:Array Value) (hv:v.cells=cells) (hi:(P.info? ty).map (·.size)=some cells.size) (h1:cells.all (·.oneCell')=true)
  (cs:Array Value) (t:TypeId) (hB:Blk w g cs t) (hin:off+cells.size≤cs.size) (new:Array Value) (hnew:putAll cs off cells.toList=new) (hd:o.dst=none)
  (h:∀W,Upd w W g new t→K a W):o.wp P a w K Q:=by
 have c:=run_storeVar_let (P:=P) (w:=w) (g:=g) (off:=off) (ty:=ty) (t:=t) (v:=v) (cells:=cells) (cs:=cs) hv hi h1 hB hin;have b:=upd_cells g t cells.toList off w cs hB;rw[hnew] at b;unfold Oper.wp execOp;simp only[ho,hx,hy,Instr.storeAt,Instr.sureAddr,Sem.run_bind,Sem.run_pure,Result.andThen_ok,c];have:=h _ b;have e:a.put o.dst undef=a:=by rw[hd];rfl
 rw[← e] at this;exact this
theorem wp_callOpP{w:World}{f:FuncId}{args:Array Value}{R:Ending→World→Prop}(d:Nat)(hd:o.dst=some d)(hrun:(execOp a.eval o).run P w=.ok (.enter f args) w)(hc:Calls P f args w R)
  (h:∀e w',R e w'→(∃v,e=.returned v∧K (a.put (some d) v) w')∨∃c,e=.panicked c∧Q (.panic c) a w'):o.wp P a w K Q:=by
 rw[← hd] at h;unfold Oper.wp;rw[hrun,Oper.upon_enter];refine hc.mono λe w' g=>?_;rcases h e w' g with⟨v,rfl,b⟩|⟨c,rfl,b⟩
 ·exact b
 ·exact b
theorem wp_mapOp{w W:World}(ty:TypeId)(x y z:Operand)(ho:o.op=.mapUpdate ty x y z)(vx vy vz:Value)(hx:a.eval x=vx)(hy:a.eval y=vy)(hz:a.eval z=vz)
  (hr:(Instr.mapUpdate ty vx vy vz).run P w=.ok () W) (hd:o.dst=none) (h:K a W):o.wp P a w K Q:=by
 unfold Oper.wp execOp;simp only[ho,hx,hy,hz,Sem.run_bind,Sem.run_pure,Result.andThen_ok,hr];have e:a.put o.dst undef=a:=by rw[hd];rfl
 rw[← e] at h;exact h
end
end Go.Proofs.YtoepgdhiepedeaaGreatDoor
