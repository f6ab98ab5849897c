import Derived.Test.YtoepgdhiepedeaaGreatDoorVVRys12
set_option linter.unusedVariables false
set_option linter.unusedSimpArgs false
set_option maxHeartbeats 4000000
set_option maxRecDepth 100000
namespace Go.Proofs.YtoepgdhiepedeaaGreatDoor
namespace words
open Go.RowKit
def nf(f:Nat→Nat):Nat→Nat
 |0=>0
 |n+1=>nf f n+4294967296^n*f n
theorem nf_congr{f g:Nat→Nat}{n:Nat}(h:∀i,i<n→f i=g i):nf f n=nf g n:=by
 induction n with
 |zero=>rfl
 |succ n ih=>rw[nf,nf,ih λi a=>h i (by omega),h n (by omega)]
theorem nf_cons(f:Nat→Nat)(n:Nat):nf f (n+1)=f 0+4294967296*nf (λi=>f (i+1)) n:=by
 induction n with
 |zero=>simp[nf]
 |succ n ih=>
  rw[nf,ih,nf,Nat.mul_add,Nat.pow_succ]
  have:4294967296^n*4294967296*f (n+1)=4294967296*(4294967296^n*f (n+1)):=by
   rw[Nat.mul_comm (4294967296^n) 4294967296,Nat.mul_assoc]
  omega
theorem nv_nf(l:List Nat):nv l=nf (λi=>l.getD i 0) l.length:=by
 induction l with
 |nil=>rfl
 |cons x r ih=>
  rw[List.length_cons,nf_cons,nv,ih]
  congr 1
theorem nv_range(f:Nat→Nat)(n:Nat):nv ((List.range n).map f)=nf f n:=by
 rw[nv_nf];rw[List.length_map,List.length_range];exact nf_congr λi a=>by simp[List.getD,a]
theorem nf_zero{f:Nat→Nat}{n:Nat}(h:∀i,i<n→f i=0):nf f n=0:=by
 induction n with
 |zero=>rfl
 |succ n ih=>rw[nf,ih λi a=>h i (by omega),h n (by omega)];simp
theorem nf_more{f:Nat→Nat}{m n:Nat}(hmn:m≤n)(h:∀i,m≤i→f i=0):nf f n=nf f m:=by
 induction n with
 |zero=>
  have:m=0:=by omega
  subst this;rfl
 |succ n ih=>
  by_cases e:m=n+1
  ·subst e;rfl
  ·rw[nf,h n (by omega),ih (by omega)];simp
theorem nv_more(l:List Nat){n:Nat}(h:l.length≤n):nv l=nf (λi=>l.getD i 0) n:=by
 rw[nv_nf,nf_more h];intro i a;simp[List.getD,List.getElem?_eq_none a]
def RowU(w:World)(g n:Nat)(f:Nat→Nat):Prop:=w.heap[g]?=some (.cells ((List.range n).map λi=>Value.int .u32 ((f i:Nat):Int)).toArray 83 (0,0))
variable {w w':World} {g n:Nat} {f:Nat→Nat}
theorem RowU.cell(h:RowU w g n f){i:Nat}(hi:i<n):w.cell? ⟨g,i,none⟩=some (.int .u32 ((f i:Nat):Int)):=by unfold RowU at h;simp[World.cell?,h,hi]
theorem RowU.free(h:RowU w g n f)(i:Nat):w.frozen? ⟨g,i,none⟩=false:=by unfold RowU at h;simp[World.frozen?,h]
def updU(f:Nat→Nat)(i v:Nat):Nat→Nat:=λk=>if k=i then v else f k
theorem RowU.set(h:RowU w g n f)(i v:Nat):RowU (w.setCell ⟨g,i,none⟩ (.int .u32 ((v:Nat):Int))) g n (updU f i v):=by
 unfold RowU at *;simp only[World.setCell,Array.getElem?_modify,h,if_true,Option.map_some]
 congr 2
 simp only[Option.isSome_none,Bool.false_eq_true,if_false];apply Array.ext';simp only[Array.toList_setIfInBounds];apply List.ext_getElem?;intro k;by_cases a:k<n
 ·by_cases e:k=i
  ·subst e;simp[updU,a]
  ·rw[List.getElem?_set_ne (by omega)];simp[updU,a,e]
 ·rw[List.getElem?_eq_none (by simp;omega),List.getElem?_eq_none (by simp;omega)]
theorem RowU.ru(h:RowU w g n f)(hf:∀i,i<n→f i<4294967296):Ru w (some ⟨g,0,none⟩) n n ((List.range n).map f):=by
 refine⟨by simp,λx d=>?_,(λh=>by cases h),zc,.inr ⟨g,0,rfl,λi a=>?_⟩,λb c s e _=>by obtain⟨rfl,-,-⟩:=(by simpa using e:g=b∧0=c∧none=s);exact⟨_,_,h⟩⟩
 ·obtain⟨i,a,rfl⟩:=List.mem_map.1 d;exact hf i (by simpa using a)
 ·rw[Nat.zero_add,h.cell a];simp[List.getD,a]
theorem rowU_made{w1:World}{n g base:Nat}(h:w1.ownsRow base 83 1 (.slice (some ⟨g,0,none⟩) n n) n (madeCells #[Value.int .u32 0] n).toList):RowU w1 g n (λ_=>0):=by
 rcases h.2 with⟨a,_⟩|⟨j,c,b,a,_,e,_,_,l,f⟩
 ·cases a
 ·simp only[Value.slice.injEq,Option.some.injEq,Addr.mk.injEq] at a;obtain⟨⟨rfl,-⟩,-,rfl⟩:=a;unfold RowU;rw[e]
  congr 2
  apply Array.ext'
  have d:b.toList=(madeCells #[Value.int .u32 0] n).toList:=by
   rw[← f,List.take_of_length_le (by simp;omega)]
  rw[d,toList_madeCells_one];apply List.ext_getElem?;intro k;by_cases i:k<n
  ·simp[i]
  ·rw[List.getElem?_eq_none (by simp;omega),List.getElem?_eq_none (by simp;omega)]
theorem info_u32:(Tryz.prog.info? 83).map (λi=>(i.zero,i.size,i.bytes))=some (some (.int .u32 0),1,4):=by kernel_rfl
theorem add_step{S A B P c x y:Nat}(h:S+P*c=A+B):S+P*((c+x+y)%4294967296)+P*4294967296*((c+x+y)/4294967296)=(A+P*x)+(B+P*y):=by
 have e:(c+x+y)%4294967296+4294967296*((c+x+y)/4294967296)=c+x+y:=by omega
 have a:P*((c+x+y)%4294967296)+P*4294967296*((c+x+y)/4294967296)=P*c+P*x+P*y:=by
  rw[Nat.mul_assoc,← Nat.mul_add,e,Nat.mul_add,Nat.mul_add]
 omega
theorem add_ge(a b:Option Addr)(n k ca cb:Nat)(la lb:List Nat)(w:World)(ha:Ru w a n ca la)(hbb:Ru w b k cb lb)(hkn:k≤n)(hn:n≤100):
  Calls Tryz.prog 177 #[.slice a n ca,.slice b k cb] w λe w'=>Gives w (nv la+nv lb) e w':=by
 obtain⟨i0,hi,Q,R,T⟩:=info_parts info_u32;have U:Hid (Ru w a n ca la):=ha;have r:Hid (Ru w b k cb lb):=hbb;have a6:¬ (n:Int)<(k:Int):=by omega
 clear ha hbb;go_enter Tryz.func177,Tryz.ntmps177
 go_wp2_with (first
  | (at_make;refine wpList_make_full _ rfl _ _ 25 rfl w.heap.size 83 i0 (.int .u32 0) 1 Tryz.underlying25 hi Q R _ _ _ _ (n+1) rfl rfl ?c0 ?c1 ?c2 ?c3 ?c4 ?_))
 try (case c0=>first|rfl|(congr 1;omega))
 try (case c1=>first|rfl|(congr 1;omega))
 case c2=>first|omega|(rw[T];omega)
 case c3=>unfold maxLen;omega
 try (case c4=>simp)
 intro w1 t M;have X:Hid (RowU w1 w.heap.size (n+1) (λ_=>0)):=rowU_made t;have V:Hid (zB w w1):=zb.grown M zc (λk hk=>by cases hk);clear t M hi Q R T;go_wp2_with fail;go_loopw [6,7] (λcv iv wr=>∃(i c:Nat)(f:Nat→Nat),i≤n∧iv=zI i∧cv=.int .u64 c∧c≤2∧RowU wr w.heap.size (n+1) f∧(∀j,j<n+1→f j<4294967296)∧zB w wr∧nf f i+4294967296^i*c=nf (λj=>la.getD j 0) i+nf (λj=>lb.getD j 0) i) (λ_ iv _=>n-(intOf iv).toNat)
 case atStart=>exact⟨0,0,λ_=>0,Nat.zero_le _,rfl,rfl,by omega,X.o,λ_ _=>(by decide:0<4294967296),V.o,rfl⟩
 case round=>
  obtain⟨i,c,f,a5,rfl,rfl,a4,d,p,D,m⟩:=hrel;by_cases N:i<n
  ·obtain⟨ba,oa,rfl,L⟩:=(U.o.below D).at N;have r0:=d.cell (i:=i) (by omega);have f0:=d.free i;obtain⟨fi,hfi⟩:∃fi:Int,((f i:Nat):Int)=fi:=⟨_,rfl⟩
   rw[hfi] at r0;clear hfi;by_cases a1:i<k
   ·have hx:=U.o.word i;obtain⟨bb,ob,rfl,a0⟩:=(r.o.below D).at a1;have hy:=r.o.word i;have g:=add_step (S:=nf f i) (A:=nf (λj=>la.getD j 0) i) (B:=nf (λj=>lb.getD j 0) i) (P:=4294967296^i) (c:=c) (x:=la.getD i 0) (y:=lb.getD i 0) m;obtain⟨x,hxx⟩:∃x,la.getD i 0=x:=⟨_,rfl⟩
    have Y:Hid (la.getD i 0=x):=hxx;rw[hxx] at hx g L;clear hxx;obtain⟨y,hyy⟩:∃y,lb.getD i 0=y:=⟨_,rfl⟩
    have Z:Hid (lb.getD i 0=y):=hyy;rw[hyy] at hy g a0;clear hyy;have e0:(c:Int)+(x:Int)+(y:Int)=((c+x+y:Nat):Int):=by omega
    have H:Hid (c+x+y<8589934600):=(by omega:c+x+y<8589934600)
    generalize hq:c+x+y=q at *;have a2:(q:Int)<8589934600:=by have:=H.o;omega
    have e1:((q:Nat):Int)%4294967296=((q%4294967296:Nat):Int):=by omega
    have e2:((q:Nat):Int)/4294967296=((q/4294967296:Nat):Int):=by omega
    have G:Hid (RowU (wr.setCell ⟨w.heap.size,i,none⟩ (.int .u32 ((q%4294967296:Nat):Int))) w.heap.size (n+1) (updU f i (q%4294967296))):=d.set _ _;have l:Hid (zB w (wr.setCell ⟨w.heap.size,i,none⟩ (.int .u32 ((q%4294967296:Nat):Int)))):=below_set D _ _ _ zc
    have F:Hid (∀j,j<n+1→updU f i (q%4294967296) j<4294967296):=λj s=>by
     unfold updU;split
     ·omega
     ·exact p j s
    have W:Hid (q/4294967296≤2):=by
     have:=H.o;exact(by omega:q/4294967296≤2)
    have E:Hid (nf (updU f i (q%4294967296)) (i+1)+4294967296^(i+1)*(q/4294967296)=nf (λj=>la.getD j 0) (i+1)+nf (λj=>lb.getD j 0) (i+1)):=by
     have I:nf (updU f i (q%4294967296)) i=nf f i:=nf_congr λj s=>by unfold updU;rw[if_neg (by omega)]
     have J:updU f i (q%4294967296) i=q%4294967296:=by unfold updU;rw[if_pos rfl]
     have h:nf (updU f i (q%4294967296)) (i+1)+4294967296^(i+1)*(q/4294967296)=nf (λj=>la.getD j 0) (i+1)+nf (λj=>lb.getD j 0) (i+1):=by
      rw[nf,nf,nf,I,J,Nat.pow_succ];have hX:la.getD i 0=x:=Y.o;have hY:lb.getD i 0=y:=Z.o;rw[hX,hY];exact g
     exact h
    clear g m p;generalize q%4294967296=u at *;generalize z:q/4294967296=c2 at *;clear z;go_wp2_with fail;go_roundw
    case rel=>exact⟨i+1,c2,_,by omega,by go_num,rfl,W.o,G.o,F.o,l.o,E.o⟩
    case measure=>simp[intOf];omega
   ·have hx:=U.o.word i;have O:lb.getD i 0=0:=by simp[List.getD,List.getElem?_eq_none (show lb.length≤i by rw[r.o.len];omega)]
    have g:=add_step (S:=nf f i) (A:=nf (λj=>la.getD j 0) i) (B:=nf (λj=>lb.getD j 0) i) (P:=4294967296^i) (c:=c) (x:=la.getD i 0) (y:=0) m;rw[Nat.add_zero] at g;obtain⟨x,hxx⟩:∃x,la.getD i 0=x:=⟨_,rfl⟩
    have Y:Hid (la.getD i 0=x):=hxx;have Z:Hid (lb.getD i 0=0):=O;rw[hxx] at hx g L;clear hxx O;have e0:(c:Int)+(x:Int)=((c+x:Nat):Int):=by omega
    have H:Hid (c+x<8589934600):=(by omega:c+x<8589934600)
    generalize hq:c+x=q at *;have a2:(q:Int)<8589934600:=by have:=H.o;omega
    have e1:((q:Nat):Int)%4294967296=((q%4294967296:Nat):Int):=by omega
    have e2:((q:Nat):Int)/4294967296=((q/4294967296:Nat):Int):=by omega
    have G:Hid (RowU (wr.setCell ⟨w.heap.size,i,none⟩ (.int .u32 ((q%4294967296:Nat):Int))) w.heap.size (n+1) (updU f i (q%4294967296))):=d.set _ _;have l:Hid (zB w (wr.setCell ⟨w.heap.size,i,none⟩ (.int .u32 ((q%4294967296:Nat):Int)))):=below_set D _ _ _ zc
    have F:Hid (∀j,j<n+1→updU f i (q%4294967296) j<4294967296):=λj s=>by
     unfold updU;split
     ·omega
     ·exact p j s
    have W:Hid (q/4294967296≤2):=by
     have:=H.o;exact(by omega:q/4294967296≤2)
    have E:Hid (nf (updU f i (q%4294967296)) (i+1)+4294967296^(i+1)*(q/4294967296)=nf (λj=>la.getD j 0) (i+1)+nf (λj=>lb.getD j 0) (i+1)):=by
     have I:nf (updU f i (q%4294967296)) i=nf f i:=nf_congr λj s=>by unfold updU;rw[if_neg (by omega)]
     have J:updU f i (q%4294967296) i=q%4294967296:=by unfold updU;rw[if_pos rfl]
     have h:nf (updU f i (q%4294967296)) (i+1)+4294967296^(i+1)*(q/4294967296)=nf (λj=>la.getD j 0) (i+1)+nf (λj=>lb.getD j 0) (i+1):=by
      rw[nf,nf,nf,I,J,Nat.pow_succ];have hX:la.getD i 0=x:=Y.o;have hY:lb.getD i 0=0:=Z.o;rw[hX,hY];exact g
     exact h
    clear g m p;generalize q%4294967296=u at *;generalize z:q/4294967296=c2 at *;clear z;go_wp2_with fail;go_roundw
    case rel=>exact⟨i+1,c2,_,by omega,by go_num,rfl,W.o,G.o,F.o,l.o,E.o⟩
    case measure=>simp[intOf];omega
  ·obtain rfl:i=n:=by omega
   have a7:c<4294967296:=by omega
   have r0:=d.cell (i:=i) (by omega);have f0:=d.free i;obtain⟨fi,hfi⟩:∃fi:Int,((f i:Nat):Int)=fi:=⟨_,rfl⟩
   rw[hfi] at r0;clear hfi;have e1:((c:Nat):Int)%4294967296=((c:Nat):Int):=by omega
   have G:Hid (RowU (wr.setCell ⟨w.heap.size,i,none⟩ (.int .u32 ((c:Nat):Int))) w.heap.size (i+1) (updU f i c)):=d.set _ _;have l:Hid (zB w (wr.setCell ⟨w.heap.size,i,none⟩ (.int .u32 ((c:Nat):Int)))):=below_set D _ _ _ zc
   have F:Hid (∀j,j<i+1→updU f i c j<4294967296):=λj s=>by
    unfold updU;split
    ·omega
    ·exact p j s
   have E:Hid (nv ((List.range (i+1)).map (updU f i c))=nv la+nv lb):=by
    have I:nf (updU f i c) i=nf f i:=nf_congr λj s=>by unfold updU;rw[if_neg (by omega)]
    have J:updU f i c i=c:=by unfold updU;rw[if_pos rfl]
    have h:nv ((List.range (i+1)).map (updU f i c))=nv la+nv lb:=by
     rw[nv_range,nf,I,J,m,← nv_more la (by rw[U.o.len];exact zc),← nv_more lb (by rw[r.o.len];omega)]
    exact h
   clear d p D m N;go_wp2_with fail;refine(trim_any _ _ _ _ _ (G.o.ru F.o) (by omega)).mono ?_;rintro e w3 ⟨a3,n3,c3,rfl,C,K⟩;rw[E.o] at C;have HG:Hid (Gives w (nv la+nv lb) (.returned (.slice a3 n3 c3)) w3):=Gives.mk C (l.o.trans (K.mono l.o.size));clear C K;go_wp2_with fail;go_ret;exact HG.o
theorem add_lt(a b:Option Addr)(n k ca cb:Nat)(la lb:List Nat)(w:World)(ha:Ru w a n ca la)(hbb:Ru w b k cb lb)(hkn:k<n)(hn:n≤100):
  Calls Tryz.prog 177 #[.slice b k cb,.slice a n ca] w λe w'=>Gives w (nv la+nv lb) e w':=by
 obtain⟨i0,hi,Q,R,T⟩:=info_parts info_u32;have U:Hid (Ru w a n ca la):=ha;have r:Hid (Ru w b k cb lb):=hbb;have a6:(k:Int)<(n:Int):=by omega
 clear ha hbb;go_enter Tryz.func177,Tryz.ntmps177
 go_wp2_with (first
  | (at_make;refine wpList_make_full _ rfl _ _ 25 rfl w.heap.size 83 i0 (.int .u32 0) 1 Tryz.underlying25 hi Q R _ _ _ _ (n+1) rfl rfl ?c0 ?c1 ?c2 ?c3 ?c4 ?_))
 try (case c0=>first|rfl|(congr 1;omega))
 try (case c1=>first|rfl|(congr 1;omega))
 case c2=>first|omega|(rw[T];omega)
 case c3=>unfold maxLen;omega
 try (case c4=>simp)
 intro w1 t M;have X:Hid (RowU w1 w.heap.size (n+1) (λ_=>0)):=rowU_made t;have V:Hid (zB w w1):=zb.grown M zc (λk hk=>by cases hk);clear t M hi Q R T;go_wp2_with fail;go_loopw [6,7] (λcv iv wr=>∃(i c:Nat)(f:Nat→Nat),i≤n∧iv=zI i∧cv=.int .u64 c∧c≤2∧RowU wr w.heap.size (n+1) f∧(∀j,j<n+1→f j<4294967296)∧zB w wr∧nf f i+4294967296^i*c=nf (λj=>la.getD j 0) i+nf (λj=>lb.getD j 0) i) (λ_ iv _=>n-(intOf iv).toNat)
 case atStart=>exact⟨0,0,λ_=>0,Nat.zero_le _,rfl,rfl,by omega,X.o,λ_ _=>(by decide:0<4294967296),V.o,rfl⟩
 case round=>
  obtain⟨i,c,f,a5,rfl,rfl,a4,d,p,D,m⟩:=hrel;by_cases N:i<n
  ·obtain⟨ba,oa,rfl,L⟩:=(U.o.below D).at N;have r0:=d.cell (i:=i) (by omega);have f0:=d.free i;obtain⟨fi,hfi⟩:∃fi:Int,((f i:Nat):Int)=fi:=⟨_,rfl⟩
   rw[hfi] at r0;clear hfi;by_cases a1:i<k
   ·have hx:=U.o.word i;obtain⟨bb,ob,rfl,a0⟩:=(r.o.below D).at a1;have hy:=r.o.word i;have g:=add_step (S:=nf f i) (A:=nf (λj=>la.getD j 0) i) (B:=nf (λj=>lb.getD j 0) i) (P:=4294967296^i) (c:=c) (x:=la.getD i 0) (y:=lb.getD i 0) m;obtain⟨x,hxx⟩:∃x,la.getD i 0=x:=⟨_,rfl⟩
    have Y:Hid (la.getD i 0=x):=hxx;rw[hxx] at hx g L;clear hxx;obtain⟨y,hyy⟩:∃y,lb.getD i 0=y:=⟨_,rfl⟩
    have Z:Hid (lb.getD i 0=y):=hyy;rw[hyy] at hy g a0;clear hyy;have e0:(c:Int)+(x:Int)+(y:Int)=((c+x+y:Nat):Int):=by omega
    have H:Hid (c+x+y<8589934600):=(by omega:c+x+y<8589934600)
    generalize hq:c+x+y=q at *;have a2:(q:Int)<8589934600:=by have:=H.o;omega
    have e1:((q:Nat):Int)%4294967296=((q%4294967296:Nat):Int):=by omega
    have e2:((q:Nat):Int)/4294967296=((q/4294967296:Nat):Int):=by omega
    have G:Hid (RowU (wr.setCell ⟨w.heap.size,i,none⟩ (.int .u32 ((q%4294967296:Nat):Int))) w.heap.size (n+1) (updU f i (q%4294967296))):=d.set _ _;have l:Hid (zB w (wr.setCell ⟨w.heap.size,i,none⟩ (.int .u32 ((q%4294967296:Nat):Int)))):=below_set D _ _ _ zc
    have F:Hid (∀j,j<n+1→updU f i (q%4294967296) j<4294967296):=λj s=>by
     unfold updU;split
     ·omega
     ·exact p j s
    have W:Hid (q/4294967296≤2):=by
     have:=H.o;exact(by omega:q/4294967296≤2)
    have E:Hid (nf (updU f i (q%4294967296)) (i+1)+4294967296^(i+1)*(q/4294967296)=nf (λj=>la.getD j 0) (i+1)+nf (λj=>lb.getD j 0) (i+1)):=by
     have I:nf (updU f i (q%4294967296)) i=nf f i:=nf_congr λj s=>by unfold updU;rw[if_neg (by omega)]
     have J:updU f i (q%4294967296) i=q%4294967296:=by unfold updU;rw[if_pos rfl]
     have h:nf (updU f i (q%4294967296)) (i+1)+4294967296^(i+1)*(q/4294967296)=nf (λj=>la.getD j 0) (i+1)+nf (λj=>lb.getD j 0) (i+1):=by
      rw[nf,nf,nf,I,J,Nat.pow_succ];have hX:la.getD i 0=x:=Y.o;have hY:lb.getD i 0=y:=Z.o;rw[hX,hY];exact g
     exact h
    clear g m p;generalize q%4294967296=u at *;generalize z:q/4294967296=c2 at *;clear z;go_wp2_with fail;go_roundw
    case rel=>exact⟨i+1,c2,_,by omega,by go_num,rfl,W.o,G.o,F.o,l.o,E.o⟩
    case measure=>simp[intOf];omega
   ·have hx:=U.o.word i;have O:lb.getD i 0=0:=by simp[List.getD,List.getElem?_eq_none (show lb.length≤i by rw[r.o.len];omega)]
    have g:=add_step (S:=nf f i) (A:=nf (λj=>la.getD j 0) i) (B:=nf (λj=>lb.getD j 0) i) (P:=4294967296^i) (c:=c) (x:=la.getD i 0) (y:=0) m;rw[Nat.add_zero] at g;obtain⟨x,hxx⟩:∃x,la.getD i 0=x:=⟨_,rfl⟩
    have Y:Hid (la.getD i 0=x):=hxx;have Z:Hid (lb.getD i 0=0):=O;rw[hxx] at hx g L;clear hxx O;have e0:(c:Int)+(x:Int)=((c+x:Nat):Int):=by omega
    have H:Hid (c+x<8589934600):=(by omega:c+x<8589934600)
    generalize hq:c+x=q at *;have a2:(q:Int)<8589934600:=by have:=H.o;omega
    have e1:((q:Nat):Int)%4294967296=((q%4294967296:Nat):Int):=by omega
    have e2:((q:Nat):Int)/4294967296=((q/4294967296:Nat):Int):=by omega
    have G:Hid (RowU (wr.setCell ⟨w.heap.size,i,none⟩ (.int .u32 ((q%4294967296:Nat):Int))) w.heap.size (n+1) (updU f i (q%4294967296))):=d.set _ _;have l:Hid (zB w (wr.setCell ⟨w.heap.size,i,none⟩ (.int .u32 ((q%4294967296:Nat):Int)))):=below_set D _ _ _ zc
    have F:Hid (∀j,j<n+1→updU f i (q%4294967296) j<4294967296):=λj s=>by
     unfold updU;split
     ·omega
     ·exact p j s
    have W:Hid (q/4294967296≤2):=by
     have:=H.o;exact(by omega:q/4294967296≤2)
    have E:Hid (nf (updU f i (q%4294967296)) (i+1)+4294967296^(i+1)*(q/4294967296)=nf (λj=>la.getD j 0) (i+1)+nf (λj=>lb.getD j 0) (i+1)):=by
     have I:nf (updU f i (q%4294967296)) i=nf f i:=nf_congr λj s=>by unfold updU;rw[if_neg (by omega)]
     have J:updU f i (q%4294967296) i=q%4294967296:=by unfold updU;rw[if_pos rfl]
     have h:nf (updU f i (q%4294967296)) (i+1)+4294967296^(i+1)*(q/4294967296)=nf (λj=>la.getD j 0) (i+1)+nf (λj=>lb.getD j 0) (i+1):=by
      rw[nf,nf,nf,I,J,Nat.pow_succ];have hX:la.getD i 0=x:=Y.o;have hY:lb.getD i 0=0:=Z.o;rw[hX,hY];exact g
     exact h
    clear g m p;generalize q%4294967296=u at *;generalize z:q/4294967296=c2 at *;clear z;go_wp2_with fail;go_roundw
    case rel=>exact⟨i+1,c2,_,by omega,by go_num,rfl,W.o,G.o,F.o,l.o,E.o⟩
    case measure=>simp[intOf];omega
  ·obtain rfl:i=n:=by omega
   have a7:c<4294967296:=by omega
   have r0:=d.cell (i:=i) (by omega);have f0:=d.free i;obtain⟨fi,hfi⟩:∃fi:Int,((f i:Nat):Int)=fi:=⟨_,rfl⟩
   rw[hfi] at r0;clear hfi;have e1:((c:Nat):Int)%4294967296=((c:Nat):Int):=by omega
   have G:Hid (RowU (wr.setCell ⟨w.heap.size,i,none⟩ (.int .u32 ((c:Nat):Int))) w.heap.size (i+1) (updU f i c)):=d.set _ _;have l:Hid (zB w (wr.setCell ⟨w.heap.size,i,none⟩ (.int .u32 ((c:Nat):Int)))):=below_set D _ _ _ zc
   have F:Hid (∀j,j<i+1→updU f i c j<4294967296):=λj s=>by
    unfold updU;split
    ·omega
    ·exact p j s
   have E:Hid (nv ((List.range (i+1)).map (updU f i c))=nv la+nv lb):=by
    have I:nf (updU f i c) i=nf f i:=nf_congr λj s=>by unfold updU;rw[if_neg (by omega)]
    have J:updU f i c i=c:=by unfold updU;rw[if_pos rfl]
    have h:nv ((List.range (i+1)).map (updU f i c))=nv la+nv lb:=by
     rw[nv_range,nf,I,J,m,← nv_more la (by rw[U.o.len];exact zc),← nv_more lb (by rw[r.o.len];omega)]
    exact h
   clear d p D m N;go_wp2_with fail;refine(trim_any _ _ _ _ _ (G.o.ru F.o) (by omega)).mono ?_;rintro e w3 ⟨a3,n3,c3,rfl,C,K⟩;rw[E.o] at C;have HG:Hid (Gives w (nv la+nv lb) (.returned (.slice a3 n3 c3)) w3):=Gives.mk C (l.o.trans (K.mono l.o.size));clear C K;go_wp2_with fail;go_ret;exact HG.o
theorem add_any(a b:Option Addr)(n k ca cb:Nat)(la lb:List Nat)(w:World)(ha:Ru w a n ca la)(hb:Ru w b k cb lb)(hn:n≤100)(hk:k≤100):
  Calls Tryz.prog 177 #[.slice a n ca,.slice b k cb] w λe w'=>Gives w (nv la+nv lb) e w':=by
 by_cases h:k≤n
 ·exact add_ge a b n k ca cb la lb w ha hb h hn
 ·rw[Nat.add_comm];exact add_lt b a k n cb ca lb la w hb ha (by omega) hk
theorem nf_upd(f:Nat→Nat)(i v:Nat):∀n:Nat,i<n→nf (updU f i v) n+4294967296^i*f i=nf f n+4294967296^i*v
 |0,h=>by omega
 |n+1,h=>by
  rw[nf,nf];by_cases e:i=n
  ·subst e;have e1:nf (updU f i v) i=nf f i:=nf_congr λj b=>by unfold updU;rw[if_neg (by omega)]
   have a:updU f i v i=v:=by unfold updU;rw[if_pos rfl]
   rw[e1,a];omega
  ·have:=nf_upd f i v n (by omega);have a:updU f i v n=f n:=by unfold updU;rw[if_neg (by omega)]
   rw[a];omega
theorem mul_step{F F2 N Q R c u x y Y q:Nat}(h:F+Q*R*c=N+Q*(x*Y))(hq:q=c+(x*y+u))(hu:F2+Q*R*u=F+Q*R*(q%4294967296)):
  F2+Q*R*4294967296*(q/4294967296)=N+Q*(x*(Y+R*y)):=by
 have e:q%4294967296+4294967296*(q/4294967296)=q:=by omega
 have b:Q*R*(q%4294967296)+Q*R*4294967296*(q/4294967296)=Q*R*c+Q*R*(x*y)+Q*R*u:=by
  rw[Nat.mul_assoc (Q*R),← Nat.mul_add,e,hq,Nat.mul_add,Nat.mul_add];omega
 have a:Q*(x*(Y+R*y))=Q*(x*Y)+Q*R*(x*y):=by
  rw[Nat.mul_add,Nat.mul_add,Nat.mul_assoc Q R,Nat.mul_left_comm x R y]
 rw[a];omega
theorem word_mul{x y:Nat}(hx:x<4294967296)(hy:y<4294967296):x*y≤18446744065119617025:=by
 have:x*y≤4294967295*4294967295:=Nat.mul_le_mul (by omega) (by omega);omega
theorem mul_some(a b:Option Addr)(n k ca cb:Nat)(la lb:List Nat)(w:World)(ha:Ru w a n ca la)(hbb:Ru w b k cb lb)(n0:0<n)(k0:0<k)(hn:n≤100)(hk:k≤100):
  Calls Tryz.prog 138 #[.slice a n ca,.slice b k cb] w λe w'=>Gives w (nv la*nv lb) e w':=by
 obtain⟨i0,hi,K,L,M⟩:=info_parts info_u32;have Q:Hid (Ru w a n ca la):=ha;have z:Hid (Ru w b k cb lb):=hbb;have z1:((n:Int)==0)=false:=beq_eq_false_iff_ne.2 (by omega);have z2:((k:Int)==0)=false:=beq_eq_false_iff_ne.2 (by omega);clear ha hbb;go_enter Tryz.func138,Tryz.ntmps138
 go_wp2_with (first
  | (at_make;refine wpList_make_full _ rfl _ _ 25 rfl w.heap.size 83 i0 (.int .u32 0) 1 Tryz.underlying25 hi K L _ _ _ _ (n+k) rfl rfl ?c0 ?c1 ?c2 ?c3 ?c4 ?_))
 try (case c0=>first|rfl|(congr 1;omega))
 try (case c1=>first|rfl|(congr 1;omega))
 case c2=>first|omega|(rw[M];omega)
 case c3=>unfold maxLen;omega
 try (case c4=>simp)
 intro w1 s G;have W:Hid (RowU w1 w.heap.size (n+k) (λ_=>0)):=rowU_made s;have S:Hid (zB w w1):=zb.grown G zc (λk hk=>by cases hk);clear s G hi K L M;go_wp2_with fail;go_loopw [6] (λiv wr=>∃(i:Nat)(f:Nat→Nat),i≤n∧iv=zI i∧RowU wr w.heap.size (n+k) f∧(∀j,j<n+k→f j<4294967296)∧zB w wr∧nf f (i+k)=nf (λj=>la.getD j 0) i*nv lb) (λiv _=>n-(intOf iv).toNat)
 case atStart=>exact⟨0,λ_=>0,Nat.zero_le _,rfl,W.o,λ_ _=>(by decide:0<4294967296),S.o,by rw[nf_zero λ_ _=>rfl,nf,Nat.zero_mul]⟩
 case round=>
  obtain⟨i,f,a2,rfl,d,g,r,l⟩:=hrel;by_cases I:i<n
  ·obtain⟨x,hxx⟩:∃x,la.getD i 0=x:=⟨_,rfl⟩
   have hx:x<4294967296:=by rw[← hxx];exact Q.o.word i
   have HX:Hid (la.getD i 0=x):=hxx
   have R:Hid (∀wr,zB w wr→∃E N,a=some ⟨E,N,none⟩∧wr.cell? ⟨E,N+i,none⟩=some (.int .u32 (x:Int))):=λwr r=>by
    obtain⟨E,N,e,O⟩:=(Q.o.below r).at I;rw[hxx] at O;exact⟨E,N,e,O⟩
   have HQ:Hid (nf f (i+k)=nf (λj=>la.getD j 0) i*nv lb):=l;have A:Hid (RowU wr w.heap.size (n+k) f∧(∀j,j<n+k→f j<4294967296)∧zB w wr):=⟨d,g,r⟩
   clear hxx d g r l;go_wp2_with fail
   go_loopw [7,8] (fun cv jv wr=>∃ (j c:Nat) (h:Nat→Nat),j≤k∧jv=zI j∧cv = .int .u64 c∧c<4294967296∧RowU wr w.heap.size (n+k) h∧(∀ t,t<n+k→h t<4294967296)∧zB w wr ∧
    nf h (i+k)+4294967296 ^ i*4294967296 ^ j*c=nf (fun j=>la.getD j 0) i*nv lb+4294967296 ^ i*(x*nf (fun j=>lb.getD j 0) j)) (fun _ jv _=>k - (intOf jv).toNat)
   case atStart=>exact⟨0,0,f,Nat.zero_le _,rfl,rfl,by omega,A.o.1,A.o.2.1,A.o.2.2,by rw[HQ.o];simp[nf]⟩
   case round=>
    obtain⟨j,c,h,a4,rfl,rfl,O,d,g,r,l⟩:=hrel;by_cases H:j<k
    ·obtain⟨E,N,rfl,a1⟩:=R.o _ r;obtain⟨bb,ob,rfl,X⟩:=(z.o.below r).at H;obtain⟨y,hyy⟩:∃y,lb.getD j 0=y:=⟨_,rfl⟩
     have hy:y<4294967296:=by rw[← hyy];exact z.o.word j
     have HY:Hid (lb.getD j 0=y):=hyy;rw[hyy] at X;obtain⟨u,huu⟩:∃u,h (i+j)=u:=⟨_,rfl⟩
     have hu:u<4294967296:=by rw[← huu];exact g _ (by omega)
     have r0:=d.cell (i:=i+j) (by omega);have f0:=d.free (i+j);rw[huu] at r0;have a0:=word_mul hx hy;have e0:(c:Int)+((x:Int)*(y:Int)+(u:Int))=((c+(x*y+u):Nat):Int):=by rw[Int.natCast_add,Int.natCast_add,Int.natCast_mul]
     have p1:0≤(x:Int)*(y:Int):=Int.mul_nonneg (by omega) (by omega);have p2:(x:Int)*(y:Int)≤18446744065119617025:=by rw[← Int.natCast_mul];omega
     have a5:c+(x*y+u)<18446744073709551616:=by omega
     have C:=nf_upd h (i+j) ((c+(x*y+u))%4294967296) (i+k) (by omega);rw[huu,Nat.pow_add] at C;have J:=mul_step l rfl C;generalize Z:c+(x*y+u)=q at *
     have V:Hid (nf (updU h (i+j) (q%4294967296)) (i+k)+4294967296^i*4294967296^(j+1)*(q/4294967296)=nf (λj=>la.getD j 0) i*nv lb+4294967296^i*(x*nf (λj=>lb.getD j 0) (j+1))):=by
      have m:nf (updU h (i+j) (q%4294967296)) (i+k)+4294967296^i*4294967296^(j+1)*(q/4294967296)=nf (λj=>la.getD j 0) i*nv lb+4294967296^i*(x*nf (λj=>lb.getD j 0) (j+1)):=by
       rw[nf,Nat.pow_succ,← Nat.mul_assoc (4294967296^i)];have hY:lb.getD j 0=y:=HY.o;rw[hY];exact J
      exact m
     have e1:((q:Nat):Int)%4294967296=((q%4294967296:Nat):Int):=by omega
     have e2:((q:Nat):Int)/4294967296=((q/4294967296:Nat):Int):=by omega
     have D:Hid (RowU (wr.setCell ⟨w.heap.size,i+j,none⟩ (.int .u32 ((q%4294967296:Nat):Int))) w.heap.size (n+k) (updU h (i+j) (q%4294967296))):=d.set _ _;have p:Hid (zB w (wr.setCell ⟨w.heap.size,i+j,none⟩ (.int .u32 ((q%4294967296:Nat):Int)))):=below_set r _ _ _ zc
     have U:Hid (∀t,t<n+k→updU h (i+j) (q%4294967296) t<4294967296):=λt P=>by
      unfold updU;split
      ·omega
      ·exact g t P
     have HC:Hid (q/4294967296<4294967296):=(by omega:q/4294967296<4294967296)
     clear J l g C hyy huu d r Z a0;generalize q%4294967296=v at *;generalize Y:q/4294967296=c2 at *;clear Y;go_wp2_with fail;go_quiet (fail);go_wp2_with fail;go_roundw
     case rel=>exact⟨j+1,c2,_,by omega,by go_num,rfl,HC.o,D.o,U.o,⟨p.o.os,p.o.tape,p.o.output,p.o.size,p.o.block⟩,V.o⟩
     case measure=>simp[intOf];omega
    ·obtain rfl:j=k:=by omega
     have r0:=d.cell (i:=i+j) (by omega);have f0:=d.free (i+j);obtain⟨fi,hfi⟩:∃fi:Int,((h (i+j):Nat):Int)=fi:=⟨_,rfl⟩
     rw[hfi] at r0;clear hfi;have e1:((c:Nat):Int)%4294967296=((c:Nat):Int):=by omega
     have cb:(c:Int)<4294967296:=by omega
     have D:Hid (RowU (wr.setCell ⟨w.heap.size,i+j,none⟩ (.int .u32 ((c:Nat):Int))) w.heap.size (n+j) (updU h (i+j) c)):=d.set _ _;have p:Hid (zB w (wr.setCell ⟨w.heap.size,i+j,none⟩ (.int .u32 ((c:Nat):Int)))):=below_set r _ _ _ zc
     have U:Hid (∀t,t<n+j→updU h (i+j) c t<4294967296):=λt P=>by
      unfold updU;split
      ·exact O
      ·exact g t P
     have T:Hid (nf (updU h (i+j) c) (i+1+j)=nf (λj=>la.getD j 0) (i+1)*nv lb):=by
      have e3:nf (updU h (i+j) c) (i+j)=nf h (i+j):=nf_congr λt P=>by unfold updU;rw[if_neg (by omega)]
      have e4:updU h (i+j) c (i+j)=c:=by unfold updU;rw[if_pos rfl]
      have e5:nv lb=nf (λj=>lb.getD j 0) j:=nv_more lb (by rw[z.o.len];exact zc)
      have m:nf (updU h (i+j) c) (i+1+j)=nf (λj=>la.getD j 0) (i+1)*nv lb:=by
       rw[show i+1+j=(i+j)+1 by omega,nf,nf,e3,e4,Nat.pow_add,l,← e5,Nat.add_mul];have hX:la.getD i 0=x:=HX.o;rw[hX,Nat.mul_assoc]
      exact m
     clear d g r l H;go_wp2_with fail;go_roundw
     case rel=>exact⟨i+1,_,by omega,by go_num,D.o,U.o,p.o,T.o⟩
     case measure=>simp[intOf];omega
  ·obtain rfl:i=n:=by omega
   have D:Hid (Ru wr (some ⟨w.heap.size,0,none⟩) (i+k) (i+k) ((List.range (i+k)).map f)):=d.ru g;have HB:Hid (zB w wr):=r
   have T:Hid (nv ((List.range (i+k)).map f)=nv la*nv lb):=by
    have m:nv ((List.range (i+k)).map f)=nv la*nv lb:=by
     rw[nv_range,l,← nv_more la (by rw[Q.o.len];exact zc)]
    exact m
   clear d g r l I;go_wp2_with fail;refine(trim_any _ _ _ _ _ D.o (by omega)).mono ?_;rintro e w3 ⟨a3,n3,c3,rfl,B,F⟩;rw[T.o] at B;have HG:Hid (Gives w (nv la*nv lb) (.returned (.slice a3 n3 c3)) w3):=Gives.mk B (HB.o.trans (F.mono HB.o.size));clear B F;go_wp2_with fail;go_ret;exact HG.o
theorem ru_nil(w:World):Ru w none 0 0 []:=⟨rfl,λx a=>(by cases a),λ_=>rfl,zc,.inl rfl,λ_ _ _ e _=>by cases e⟩
theorem mul_any(a b:Option Addr)(n k ca cb:Nat)(la lb:List Nat)(w:World)(ha:Ru w a n ca la)(hbb:Ru w b k cb lb)(hn:n≤100)(hk:k≤100):
  Calls Tryz.prog 138 #[.slice a n ca,.slice b k cb] w λe w'=>Gives w (nv la*nv lb) e w':=by
 by_cases g:n=0
 ·subst g;have c:la=[]:=List.eq_nil_of_length_eq_zero ha.len;have e:nv la*nv lb=0:=by rw[c];simp[nv]
  rw[e];have d:Hid (Gives w 0 (.returned (zS)) w):=Gives.mk (by rw[dig_zero];exact ru_nil w) zb;clear ha hbb c e;go_enter Tryz.func138,Tryz.ntmps138;go_wp2_with fail;go_ret;exact d.o
 ·by_cases f:k=0
  ·subst f;have c:lb=[]:=List.eq_nil_of_length_eq_zero hbb.len;have e:nv la*nv lb=0:=by rw[c];simp[nv]
   rw[e];have h:((n:Int)==0)=false:=beq_eq_false_iff_ne.2 (by omega);have d:Hid (Gives w 0 (.returned (zS)) w):=Gives.mk (by rw[dig_zero];exact ru_nil w) zb;clear ha hbb c e;go_enter Tryz.func138,Tryz.ntmps138;go_wp2_with fail;go_ret;exact d.o
  ·exact mul_some a b n k ca cb la lb w ha hbb (by omega) (by omega) hn hk
end words
end Go.Proofs.YtoepgdhiepedeaaGreatDoor
