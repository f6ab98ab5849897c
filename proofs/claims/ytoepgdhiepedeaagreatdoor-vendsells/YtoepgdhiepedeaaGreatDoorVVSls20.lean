import Derived.Test.YtoepgdhiepedeaaGreatDoorVVSls15
import Derived.Test.YtoepgdhiepedeaaGreatDoorVVSls18
import Derived.Test.YtoepgdhiepedeaaGreatDoorVVSls19
set_option linter.unusedVariables false
set_option linter.unusedSimpArgs false
set_option maxHeartbeats 4000000
set_option maxRecDepth 100000
namespace Go.Proofs.YtoepgdhiepedeaaGreatDoor
namespace ora
open Go.RowKit
theorem omay_any(a:Option Addr)(n cap:Nat)(l:List Pr)(w:World)(hr:RowP w a n l):
  Calls Tryz.prog 53 #[.agg #[.slice a n cap]] w λe w'=>Told w (May l) e w':=by
 have s:Hid (Bo w (w.alloc (.cells #[.slice a n cap] 28)) a n cap l):=Bo.new hr;have K:Hid (l.length=n):=hr.1;clear hr;have c0:=s.o.box.cell 0;by_cases Z:n≤500
 ·have T:¬ (500:Int)<(n:Int):=by omega
  have Y:decide ((500:Int)<(n:Int))=false:=by simp;omega
  have P:Hid (∀W m r b t,zC 54 #[.agg #[zI m,zI r,zI b,zI t]] W λe w'=>Told W (Pr.mk m r b t).may e w'):=λW m r b t=>pairMay_any m r b t W;have R:Hid (∀W a m r b,RowP W a n l→zC 56 #[.agg #[.slice a n cap],zI m,zI r,zI b] W λe w'=>TagPost W l m r b e w'):=λW a m r b h=>tagged_any a n cap l m r b W h (by omega);go_enter Tryz.func53,Tryz.ntmps53;go_wp2_with fail;clear c0;generalize w.alloc (.cells #[.slice a n cap] 28)=W0 at *;go_loopw [3] (λj wr=>∃k:Nat,k≤n∧j=zI (k:Int)∧Hid (∀i,i<k→(l.getD i pr0).may∧At l (l.getD i pr0).m (l.getD i pr0).r (l.getD i pr0).b i)∧Bo w wr a n cap l) (λj _=>n-(intOf j).toNat)
  case atStart=>exact⟨0,Nat.zero_le _,rfl,λi f=>absurd f (Nat.not_lt_zero _),s.o⟩
  case round=>
   obtain⟨k,hk,rfl,V,D⟩:=hrel;have J:Hid (Bo w wr a n cap l):=D;clear D;have c0:=J.o.box.cell 0;by_cases E:k<n
   ·obtain⟨S,A,rfl,_,X⟩:=J.o.row.at (by omega);obtain⟨f0,f1,f2,f3⟩:=X k E
    have O:Hid ((Pr.mk (l.getD k pr0).m (l.getD k pr0).r (l.getD k pr0).b (l.getD k pr0).t).may→At l (l.getD k pr0).m (l.getD k pr0).r (l.getD k pr0).b k→∀i,i<k+1→(l.getD i pr0).may∧At l (l.getD i pr0).m (l.getD i pr0).r (l.getD i pr0).b i):=λh1 h2 i f=>by
     by_cases e:i=k
     ·subst e;exact⟨h1,h2⟩
     ·exact V.o i (by omega)
    have x:Hid (May l→(Pr.mk (l.getD k pr0).m (l.getD k pr0).r (l.getD k pr0).b (l.getD k pr0).t).may∧At l (l.getD k pr0).m (l.getD k pr0).r (l.getD k pr0).b k):=λp=>p.each k (by rw[K.o];exact E);clear X;generalize (l.getD k pr0).m=H at *;generalize (l.getD k pr0).r=d at *;generalize (l.getD k pr0).b=G at *;generalize (l.getD k pr0).t=I at *;have B:=Blk.new wr #[zI H,zI d,zI G,zI I] 87;have n0:=B.cell 0;have n1:=B.cell 1;have n2:=B.cell 2;have n3:=B.cell 3;have N:Hid (Blk (wr.alloc (.cells #[zI H,zI d,zI G,zI I] 87)) wr.heap.size #[zI H,zI d,zI G,zI I] 87):=B;have M:Hid (Bo w (wr.alloc (.cells #[zI H,zI d,zI G,zI I] 87)) (some ⟨S,A,none⟩) n cap l):=J.o.alloc _;clear B;go_wp2_with fail;refine(P.o _ _ _ _ _).mono ?_;rintro e w2 ⟨rr,rfl,q,y⟩;have g:Hid (Bo w w2 (some ⟨S,A,none⟩) n cap l):=M.o.next y;have L:=N.o.next y;have m0:=L.cell 0;have m1:=L.cell 1;have m2:=L.cell 2;have d0:=g.o.box.cell 0;clear L y n0 n1 n2 n3 c0;generalize wr.heap.size=gn at *;cases rr with
    |false=>
     have c:Hid (¬ May l):=λp=>by have:=q.2 (x.o p).1;cases this
     clear q;go_wp2_with fail;go_ret;exact Told.no c.o g.o.bel
    |true=>
     have Q:Hid ((Pr.mk H d G I).may):=q.1 rfl;clear q;go_wp2_with fail;refine(R.o _ _ _ _ _ g.o.row).mono ?_;rintro e w3 ⟨C,U⟩;have u:Hid (Bo w w3 (some ⟨S,A,none⟩) n cap l):=g.o.next C;clear C;rcases U with⟨i,f,rfl⟩|⟨F,rfl⟩
     ·by_cases z:i=k
      ·subst z;have hq:((i:Int) != (i:Int))=false:=by simp
       have c:Hid (∀j,j<i+1→(l.getD j pr0).may∧At l (l.getD j pr0).m (l.getD j pr0).r (l.getD j pr0).b j):=O.o Q.o f;clear f;go_wp2_with fail;go_roundw
       case rel=>exact⟨i+1,by omega,by go_num,c,u.o⟩
       case measure=>simp[intOf];omega
      ·have hq:((i:Int) != (k:Int))=true:=by simp;omega
       have c:Hid (¬ May l):=λp=>z (f.one (x.o p).2);clear f z;go_wp2_with fail;go_ret;exact Told.no c.o u.o.bel
     ·have hq:((-1:Int) != (k:Int))=true:=by simp only[bne_iff_ne,ne_eq];omega
      have c:Hid (¬ May l):=λp=>(x.o p).2.not F;clear F;go_wp2_with fail;go_ret;exact Told.no c.o u.o.bel
   ·obtain rfl:n=k:=by omega
    have c:Hid (May l):=⟨by rw[K.o];exact Z,λi f=>V.o i (by rw[K.o] at f;exact f)⟩
    go_wp2_with fail;go_ret;exact Told.yes c.o J.o.bel
 ·have c:Hid (¬ May l):=λp=>by have:=p.few;rw[K.o] at this;omega
  have T:decide ((500:Int)<(n:Int))=true:=by simp;omega
  clear Z;go_enter Tryz.func53,Tryz.ntmps53;go_wp2_with fail;go_ret;exact Told.no c.o s.o.bel
end ora
namespace token
def hasI(lo hi n:Int):Bool:=decide (lo≤n)&&decide (n≤hi)
def amLo(c:Int):Int:=if c=0 then 1 else if c=1 then 0 else if c=2 then 1 else 0
def amHi(c:Int):Int:=if c=0 then 2097151 else if c=1 then 0 else if c=2 then 15 else 0
def flawT(c i a t:Int):Int:=if c<0∨3<c then 9 else if hasI 1 1048575 i&&(hasI (amLo c) (amHi c) a&&hasI 0 65535 t) then 0 else 2
theorem flawT_class{c i a t:Int}(h:c<0∨3<c):flawT c i a t=9:=by unfold flawT;rw[if_pos h]
theorem flawT_in{c i a t:Int}(h:¬ (c<0∨3<c)):flawT c i a t=if hasI 1 1048575 i&&(hasI (amLo c) (amHi c) a&&hasI 0 65535 t) then 0 else 2:=by unfold flawT;rw[if_neg h]
theorem hasI_yes{lo hi n:Int}:hasI lo hi n=true↔lo≤n∧n≤hi:=by simp[hasI]
theorem flaw_tok{k:Tok}:flawT k.c k.i k.a k.t=0↔k.ok:=by
 rw[← okB_ok];unfold flawT okB hasI amLo amHi;rcases (by omega:k.c=0∨k.c=1∨k.c=2∨k.c=3∨4≤k.c) with h|h|h|h|h
 ·simp[h];omega
 ·simp[h];omega
 ·simp[h];omega
 ·simp[h];omega
 ·have b:(3:Int)<(k.c:Int):=by omega
  have d:¬ k.c≤3:=by omega
  simp[b,d]
open Go.ChangeShapes Go.WideShapes Go.ChangeAt Go.RowKit Go.Deep
def Eight(w:World)(g:Nat)(a0 a1 a2 a3 a4 a5 a6 a7:Int):Prop:=
 ∃t fr,w.heap[g]?=some (.cells #[zI a0,zI a1,zI a2,zI a3,zI a4,zI a5,zI a6,zI a7] t fr)
structure TTab (w:World):Prop where
 places:Eight w 1 57 3 37 20 16 21 0 16
 amounts:Eight w 0 1 2097151 0 0 1 15 0 0
variable{a0 a1 a2 a3 a4 a5 a6 a7:Int}{w:World}{g:Nat}
theorem Eight.lt(h:Eight w g a0 a1 a2 a3 a4 a5 a6 a7):g<w.heap.size:=by
 obtain⟨t,b,h⟩:=h;by_cases a:g<w.heap.size
 ·exact a
 ·rw[Array.getElem?_eq_none (by omega)] at h;cases h
theorem Eight.below{w w':World}(h:Eight w g a0 a1 a2 a3 a4 a5 a6 a7)(hb:zB w w'):Eight w' g a0 a1 a2 a3 a4 a5 a6 a7:=by
 have b:=h.lt;obtain⟨t,a,h⟩:=h;exact⟨t,a,by rw[hb.block g b];exact h⟩
theorem TTab.below{w w':World}(h:TTab w)(hb:zB w w'):TTab w':=⟨h.places.below hb,h.amounts.below hb⟩
theorem list8{α:Type}(l:List α)(h:l.length=8):∃a b c d e f g i,l=[a,b,c,d,e,f,g,i]:=by
 match l,h with
 |[a,b,c,d,e,f,g,i],_=>exact⟨a,b,c,d,e,f,g,i,rfl⟩
theorem two_of{H:Type}{enc:TypeId × Value→H}{P:Program}{base:Nat}{spare:Nat→Bool}{held:Bool}{fuel:Nat}{t e:TypeId}{f0 f1:Field}{c0 c1:Value}{a0 a1:Int}{p:List MemPlace}
  (ht:P.underlying t=some (.struct #[f0,f1])) (hone:oneCellFields P #[f0,f1]=true) (he:P.underlying e=some (.int .i64)) (e0:f0.type=e) (e1:f1.type=e)
  (h:DataW.trod enc P w base spare held fuel t [c0,c1]=some (.agg [.lit (.int .i64 a0),.lit (.int .i64 a1)],p)):c0=zI a0∧c1=zI a1:=by
 obtain⟨o,q,n,c,_,a,b⟩:=trod_struct2 ht h;obtain⟨j,g⟩:=hone_of hone 0 f0 rfl;obtain⟨k,i⟩:=hone_of hone 1 f1 rfl;rw[j,g,e0] at a;rw[k,i,e1] at b;obtain⟨l,d,rfl,_⟩:=DataW.trod_int he a;obtain⟨m,f,rfl,_⟩:=DataW.trod_int he b;simp at d f c;obtain⟨⟨rfl,rfl⟩,_⟩:=c;exact⟨d,f⟩
theorem trod_array4w{H:Type}{enc:TypeId × Value→H}{P:Program}{base:Nat}{spare:Nat→Bool}{held:Bool}{t e:TypeId}{fuel:Nat}{cs:List Value}{x:DataW H × List MemPlace}(ht:P.underlying t=some (.array 4 e))(hce:P.cellsOf e=2)(hct:P.cellsOf t=8)
  (h:DataW.trod enc P w base spare held fuel t cs=some x):
  cs.length=8∧∃y0 y1 y2 y3 n,x=(.agg [y0.1,y1.1,y2.1,y3.1],y0.2++(y1.2++(y2.2++y3.2)))∧DataW.trod enc P w base spare held n e (cs.take 2)=some y0∧DataW.trod enc P w base spare held n e ((cs.drop 2).take 2)=some y1∧DataW.trod enc P w base spare held n e ((cs.drop 4).take 2)=some y2∧DataW.trod enc P w base spare held n e ((cs.drop 6).take 2)=some y3:=by
 cases fuel with
 |zero=>simp[DataW.trod] at h
 |succ n=>
  unfold DataW.trod at h;rw[ht] at h;have b:List.range 4=[0,1,2,3]:=rfl;simp[b,hce,hct] at h;obtain⟨a,h⟩:=h;refine⟨a,?_⟩;cases h0:DataW.trod enc P w base spare held n e (cs.take 2) with
  |none=>simp[h0] at h
  |some y0=>
   cases h1:DataW.trod enc P w base spare held n e ((cs.drop 2).take 2) with
   |none=>simp[h0,h1] at h
   |some y1=>
    cases h2:DataW.trod enc P w base spare held n e ((cs.drop 4).take 2) with
    |none=>simp[h0,h1,h2] at h
    |some y2=>
     cases h3:DataW.trod enc P w base spare held n e ((cs.drop 6).take 2) with
     |none=>simp[h0,h1,h2,h3] at h
     |some y3=>
      simp[h0,h1,h2,h3] at h;exact⟨y0,y1,y2,y3,n,by rw[← h],h0,h1,h2,h3⟩
theorem eight_of{W:World}{name:String}{rest:List (String × DataW Unit)}{t e z:TypeId}{f0 f1:Field}
  (hg:Tryz.prog.globalNamed name=some g) (hty:(Tryz.prog.globals[g]?).map (·.type)=some t) (ht:Tryz.prog.underlying t=some (.array 4 e)) (hce:Tryz.prog.cellsOf e=2) (hct:Tryz.prog.cellsOf t=8)
  (hs:Tryz.prog.underlying e=some (.struct #[f0,f1])) (hone:oneCellFields Tryz.prog #[f0,f1]=true) (hz:Tryz.prog.underlying z=some (.int .i64)) (e0:f0.type=z) (e1:f1.type=z)
  (h:laidMet Tryz.prog ((name,.agg [.agg [.lit (.int .i64 a0),.lit (.int .i64 a1)],.agg [.lit (.int .i64 a2),.lit (.int .i64 a3)],.agg [.lit (.int .i64 a4),.lit (.int .i64 a5)],.agg [.lit (.int .i64 a6),.lit (.int .i64 a7)]])::rest) W):Eight W g a0 a1 a2 a3 a4 a5 a6 a7:=by
 obtain⟨M,⟨L,r,cs,i,p,q,d,f,a,E,_,_⟩,_⟩:=h;obtain rfl:=Option.some.inj (hg.symm.trans d);obtain rfl:=Option.some.inj (hty.symm.trans f);obtain⟨F,A,B,C,D,n,o,j,k,l,m⟩:=trod_array4w ht hce hct E;simp only[Prod.mk.injEq,DataW.agg.injEq,List.cons.injEq,and_true] at o;obtain⟨⟨s,u,x,y⟩,_⟩:=o;obtain⟨A,N⟩:=A;obtain⟨B,O⟩:=B;obtain⟨C,P⟩:=C;obtain⟨D,Q⟩:=D;simp only at s u x y;subst s u x y;obtain⟨c0,c1,c2,G,H,I,J,K,c⟩:=list8 _ F;rw[c] at j k l m;obtain⟨rfl,rfl⟩:=two_of hs hone hz e0 e1 j;obtain⟨rfl,rfl⟩:=two_of hs hone hz e0 e1 k;obtain⟨rfl,rfl⟩:=two_of hs hone hz e0 e1 l;obtain⟨rfl,rfl⟩:=two_of hs hone hz e0 e1 m;unfold World.var? at a;rw[hg] at a;simp only[Option.bind_some] at a;split at a
 ·rename_i cs' r fr hc
  have b:=Option.some.inj a;refine⟨r,fr,?_⟩;rw[hc,b]
  congr 2
  first
  |(cases cs;simp_all)
  |simp_all
 ·cases a
theorem Eight.cell{w:World}{g:Nat}{a0 a1 a2 a3 a4 a5 a6 a7:Int}(h:Eight w g a0 a1 a2 a3 a4 a5 a6 a7):
  w.cell? ⟨g,0,none⟩=some (zI a0)∧w.cell? ⟨g,1,none⟩=some (zI a1)∧w.cell? ⟨g,2,none⟩=some (zI a2)∧w.cell? ⟨g,3,none⟩=some (zI a3) ∧
  w.cell? ⟨g,4,none⟩=some (zI a4)∧w.cell? ⟨g,5,none⟩=some (zI a5)∧w.cell? ⟨g,6,none⟩=some (zI a6)∧w.cell? ⟨g,7,none⟩=some (zI a7):=by
 obtain⟨t,a,h⟩:=h;simp[World.cell?,h]
theorem has_any(lo hi n:Int)(w:World):
  Calls Tryz.prog 156 #[.agg #[zI lo,zI hi],zI n] w λe w'=>e=.returned (.bool (hasI lo hi n))∧zB w w':=by
 have a:zB w (w.alloc (.cells #[zI lo,zI hi] 238)):=zb.alloc zc _;by_cases h:lo≤n
 ·have e:hasI lo hi n=decide (n≤hi):=by simp[hasI,h]
  rw[e];go_enter Tryz.func156,Tryz.ntmps156;go_wp2;go_ret;exact⟨rfl,a⟩
 ·have e:hasI lo hi n=false:=by simp[hasI,h]
  have b:n<lo:=by omega
  rw[e];go_enter Tryz.func156,Tryz.ntmps156;go_wp2;go_ret;exact⟨rfl,a⟩
end token
namespace words
open Go.RowKit
theorem pow_min{j:Nat}(hj:¬ j≤64):∃d,2^j=2^64*2^d:=⟨j-64,by rw[← Nat.pow_add];congr 1;omega⟩
theorem sh_down(v j:Nat)(hj:0<j)(hv:v<2^64):((sh v (-(j:Int)):Nat):Int)=(v:Int)/2^min j 64:=by
 unfold sh;rw[if_pos (by omega),show (-(-(j:Int))).toNat=j by omega];by_cases h:j≤64
 ·rw[Nat.min_eq_left h];simp
 ·rw[Nat.min_eq_right (by omega)];have a:v/2^j=0:=Nat.div_eq_of_lt (Nat.lt_of_lt_of_le hv (Nat.pow_le_pow_right (by decide) (by omega)));rw[a];omega
theorem sh_up(v:Nat)(k:Int)(hk:0≤k):((sh v k:Nat):Int)=IntKind.u64.wrap ((v:Int)*2^min k.toNat 64):=by
 unfold sh;rw[if_neg (by omega),IntKind.wrap_u64];by_cases h:k.toNat≤64
 ·rw[Nat.min_eq_left h];simp
 ·rw[Nat.min_eq_right (by omega)];obtain⟨d,a⟩:=pow_min h;rw[a,Nat.mul_left_comm,Nat.mul_mod_right];omega
theorem ones_shift(n:Nat)(h0:1≤n)(h1:n≤64):((onesN n:Nat):Int)=18446744073709551615/2^(64-n):=by
 have e:(18446744073709551615:Int)/2^(64-n)=((18446744073709551615/2^(64-n):Nat):Int):=by simp
 rw[e]
 congr 1
 unfold onesN;have a:2^64=2^n*2^(64-n):=by rw[← Nat.pow_add];congr 1;omega
 have c:0<2^(64-n):=Nat.two_pow_pos _;have b:0<2^n:=Nat.two_pow_pos _;symm;apply Nat.div_eq_of_lt_le
 ·have:(2^n-1)*2^(64-n)=2^64-2^(64-n):=by rw[a,Nat.sub_mul,Nat.one_mul]
  omega
 ·have:(2^n-1+1)*2^(64-n)=2^64:=by rw[a,Nat.sub_add_cancel b]
  omega
theorem shift_any(v:Nat)(k:Int)(w:World)(hv:v<2^64)(k0:-96≤k)(k1:k≤96):
  Calls Tryz.prog 158 #[.int .u64 (v:Int),zI k] w λe w'=>e=.returned (.int .u64 (sh v k:Nat))∧w'=w:=by
 by_cases h:k<0
 ·obtain⟨j,rfl⟩:∃j:Nat,k=-(j:Int):=⟨(-k).toNat,by omega⟩
  have a:0<j:=by omega
  have e:=sh_down v j a hv;have b:-(-(j:Int))=(j:Int):=by omega
  rw[e];clear e;go_enter Tryz.func158,Tryz.ntmps158;go_wp2;go_ret;exact⟨rfl,rfl⟩
 ·have e:=sh_up v k (by omega);rw[e];clear e;go_enter Tryz.func158,Tryz.ntmps158;go_wp2;go_ret;exact⟨rfl,rfl⟩
theorem ones_any(n:Nat)(w:World)(h0:1≤n)(h1:n≤64):
  Calls Tryz.prog 159 #[zI (n:Int)] w λe w'=>e=.returned (.int .u64 (onesN n:Nat))∧w'=w:=by
 rw[ones_shift n h0 h1];go_enter Tryz.func159,Tryz.ntmps159;go_wp2;go_ret;exact⟨rfl,rfl⟩
theorem isField_yes(lo n:Int)(w:World)(h0:0≤lo)(h1:1≤n)(h2:n≤64)(h3:lo≤96-n):
  Calls Tryz.prog 157 #[zI lo,zI n] w λe w'=>e=.returned (.bool true)∧w'=w:=by
 go_enter Tryz.func157,Tryz.ntmps157;go_wp2;go_ret;exact⟨rfl,rfl⟩
theorem sh_lt(v:Nat)(k:Int)(hv:v<2^64):sh v k<2^64:=by
 unfold sh;split
 ·exact Nat.lt_of_le_of_lt (Nat.div_le_self _ _) hv
 ·exact Nat.mod_lt _ (by decide)
theorem ones_lt(n:Nat)(h:n≤64):onesN n<2^64:=by
 unfold onesN;have:=Nat.pow_le_pow_right (show 0<2 by decide) h;have a:0<2^n:=Nat.two_pow_pos _;omega
theorem idx0(x y z:Int)(w:World):(Instr.index 135 (.agg #[.int .u32 x,.int .u32 y,.int .u32 z]) (zI 0)).run Tryz.prog w=.ok (.int .u32 x) w:=by kernel_rfl
theorem idx1(x y z:Int)(w:World):(Instr.index 135 (.agg #[.int .u32 x,.int .u32 y,.int .u32 z]) (zI 1)).run Tryz.prog w=.ok (.int .u32 y) w:=by kernel_rfl
theorem idx2(x y z:Int)(w:World):(Instr.index 135 (.agg #[.int .u32 x,.int .u32 y,.int .u32 z]) (zI 2)).run Tryz.prog w=.ok (.int .u32 z) w:=by kernel_rfl
theorem bits_any(a b c lo n:Nat)(w:World)(ha:a<2^32)(hb:b<2^32)(hc:c<2^32)(n0:1≤n)(n1:n≤64)(hl:lo+n≤96):
  Calls Tryz.prog 112 #[.agg #[.int .u32 (a:Int),.int .u32 (b:Int),.int .u32 (c:Int)],zI (lo:Int),zI (n:Int)] w λe w'=>e=.returned (.tuple #[.int .u64 (bitsN a b c lo n:Nat),zI 0])∧zB w w':=by
 have x:(a:Int)<4294967296:=by omega
 have y:(b:Int)<4294967296:=by omega
 have c1:(c:Int)<4294967296:=by omega
 have m:Hid (zB w (w.alloc (.cells #[.int .u32 (a:Int),.int .u32 (b:Int),.int .u32 (c:Int)] 135))):=(Below.refl _ w).alloc zc _;have h:bitsN a b c lo n=(sh a (-(lo:Int)) ||| sh b (32-(lo:Int)) ||| sh c (64-(lo:Int))) &&& onesN n:=by unfold bitsN;rw[Int.zero_sub]
 have p:Hid (bitsN a b c lo n=(sh a (-(lo:Int)) ||| sh b (32-(lo:Int)) ||| sh c (64-(lo:Int))) &&& onesN n):=h;clear h;have z:=idx0 (a:Int) (b:Int) (c:Int);have A:=idx1 (a:Int) (b:Int) (c:Int);have B:=idx2 (a:Int) (b:Int) (c:Int);go_enter Tryz.func112,Tryz.ntmps112;go_wp2_with fail;refine(isField_yes _ _ _ (by omega) (by omega) (by omega) (by omega)).mono ?_;rintro e wr ⟨rfl,rfl⟩;go_wp2_with fail;refine wp_loop_rounds 4 ?_;rw[rounds_succ];go_wp2_with fail;refine(shift_any a _ _ (by omega) (by omega) (by omega)).mono ?_;rintro e wr ⟨rfl,rfl⟩
 have r:bits .or .u64 0 ((sh a (-(lo:Int)):Nat):Int)=((sh a (-(lo:Int)):Nat):Int):=by
  have:=or64 0 (sh a (-(lo:Int))) (by decide) (sh_lt _ _ (by omega));simpa using this
 have i:sh a (-(lo:Int))<2^64:=sh_lt _ _ (by omega);generalize sh a (-(lo:Int))=g at *;go_wp2_with fail;rw[rounds_succ];go_wp2_with fail;refine(shift_any b _ _ (by omega) (by omega) (by omega)).mono ?_;rintro e wr ⟨rfl,rfl⟩;have j:sh b (32-(lo:Int))<2^64:=sh_lt _ _ (by omega);have s:=or64 g (sh b (32-(lo:Int))) i j;have d:=Nat.or_lt_two_pow i j;clear r;generalize sh b (32-(lo:Int))=l at *;go_wp2_with fail;rw[rounds_succ];go_wp2_with fail;refine(shift_any c _ _ (by omega) (by omega) (by omega)).mono ?_;rintro e wr ⟨rfl,rfl⟩;have k:sh c (64-(lo:Int))<2^64:=sh_lt _ _ (by omega);have t:=or64 (g ||| l) (sh c (64-(lo:Int))) d k;have f:=Nat.or_lt_two_pow d k;clear s;generalize sh c (64-(lo:Int))=u at *;go_wp2_with fail;rw[rounds_succ];go_wp2_with fail;refine(ones_any n _ (by omega) (by omega)).mono ?_;rintro e wr ⟨rfl,rfl⟩;have q:onesN n<2^64:=ones_lt n (by omega);have C:=and64 (g ||| l ||| u) (onesN n) f q;clear t;go_wp2_with fail;go_ret2;exact⟨by rw[p.o];rfl,m.o⟩
end words
namespace token
open words
open Go.RowKit
structure WN (a b c V:Nat):Prop where
 a1:a<2^32
 b1:b<2^32
 c1:c<2^32
 val:bigV a b c=V
theorem wn_zero:WN 0 0 0 0:=⟨by decide,by decide,by decide,rfl⟩
def loP:Nat→Nat
 |0=>57
 |1=>37
 |2=>16
 |_=>0
def nP:Nat→Nat
 |0=>3
 |1=>20
 |2=>21
 |_=>16
def vP(k:Tok):Nat→Nat
 |0=>k.c
 |1=>k.i
 |2=>k.a
 |_=>k.t
def pP(k:Tok):Nat→Nat
 |0=>0
 |1=>k.c*144115188075855872
 |2=>k.c*144115188075855872+k.i*137438953472
 |3=>k.c*144115188075855872+k.i*137438953472+k.a*65536
 |_=>k.num
theorem step_P{k:Tok}(h:k.ok)(j:Nat)(hj:j<4):vP k j<2^nP j∧1≤nP j∧nP j≤64∧loP j+nP j≤96∧pP k j/2^loP j%2^nP j=0∧pP k (j+1)=pP k j+vP k j*2^loP j∧vP k j<9223372036854775808:=by
 have:=h.c3;have:=h.i2;have:=h.t2;have:=h.a2
 match j,hj with
 |0,_=>exact⟨by show k.c<8;omega,by decide,by decide,by decide,by show 0/_%_=0;simp,by show k.c*144115188075855872=0+k.c*144115188075855872;omega,by show k.c<_;omega⟩
 |1,_=>exact⟨by show k.i<1048576;omega,by decide,by decide,by decide,by show k.c*144115188075855872/137438953472%1048576=0;omega,by show k.c*144115188075855872+k.i*137438953472=k.c*144115188075855872+k.i*137438953472;rfl,by show k.i<_;omega⟩
 |2,_=>exact⟨by show k.a<2097152;omega,by decide,by decide,by decide,by show (k.c*144115188075855872+k.i*137438953472)/65536%2097152=0;omega,by show k.c*144115188075855872+k.i*137438953472+k.a*65536=k.c*144115188075855872+k.i*137438953472+k.a*65536;rfl,by show k.a<_;omega⟩
 |3,_=>exact⟨by show k.t<65536;omega,by decide,by decide,by decide,by show (k.c*144115188075855872+k.i*137438953472+k.a*65536)/1%65536=0;omega,by show k.num=k.c*144115188075855872+k.i*137438953472+k.a*65536+k.t*1;unfold Tok.num;omega,by show k.t<_;omega⟩
theorem wrap_u(v:Nat)(h:v<9223372036854775808):IntKind.u64.wrap (v:Int)=(v:Int):=by rw[IntKind.wrap_u64];omega
theorem idxP(j:Nat)(hj:j<4)(w:World):
  (Instr.index 247 (.agg #[zI 57,zI 3,zI 37,zI 20,zI 16,zI 21,zI 0,zI 16]) (zI (j:Int))).run Tryz.prog w=.ok (.agg #[zI (loP j:Int),zI (nP j:Int)]) w:=by
 rcases (by omega:j=0∨j=1∨j=2∨j=3) with rfl|rfl|rfl|rfl
 ·kernel_rfl
 ·kernel_rfl
 ·kernel_rfl
 ·kernel_rfl
end token
namespace ora
open Go.RowKit
def GaveV(w:World)(l:List Pr)(e:Ending)(w':World):Prop:=∃v,e=.returned v∧Pw w' w.heap.size v l∧zB w w'
theorem pclone_some(x:Addr)(len cap:Nat)(l:List Pr)(w:World)(hr:RowP w (some x) len l)(hl:len≤1000):
  Calls Tryz.prog 117 #[.slice (some x) len cap] w λe w'=>GaveV w l e w':=by
 obtain⟨z,y,f,g,i⟩:=info_parts info_pr;obtain⟨d,hr⟩:=hr;have k:Hid ((w.alloc (.cells #[] 87)).ownsRow w.heap.size 87 4 (.slice (some ⟨w.heap.size,0,none⟩) 0 0) 0 []):=World.ownsRow_lit w #[] 0 zc (by unfold maxLen;omega) rfl;have c:Hid (w.heap.size≤(w.alloc (.cells #[] 87)).heap.size):=palloc_le zc _;have t:∀W:World,(binOp BinOp.eql 26 (.slice (some x) len cap) (zS)).run Tryz.prog W=.ok (.bool false) W:=λW=>by kernel_rfl
 go_enter Tryz.func117,Tryz.ntmps117
 go_wp2_with (first
  |(at_builtin;refine wpList_append_own _ rfl _ _ 26 rfl w.heap.size 87 z (.agg #[zI 0,zI 0,zI 0,zI 0]) 4 32 Tryz.underlying26 y f g i rfl (by decide) _ _ _ rfl k.o x len cap (cellsP l) rfl ?c0 ?c1 ?c2 ?c3 ?c4 c.o ?_)
  | go_in)
 case c0=>rw[cellsP_len,d]
 case c1=>
  intro j u n;rcases hr with h|⟨b,A,h,s⟩
  ·have:l=[]:=List.length_eq_zero_iff.1 (by omega);subst this;simp[cellsP] at n
  ·obtain rfl:=Option.some.inj h;have:=cellsP_get d s j u n;rw[Addr.add_lit,World.cell?_alloc_lt w _ _ (World.block_lt_of_cell? w _ this)];exact this
 case c2=>exact oneP l
 case c3=>unfold maxLen;omega
 case c4=>omega
 intro p w' a m _;have r:Hid (Pw w' w.heap.size p l):=by show w'.ownsRow _ _ _ _ _ _;rw[d];simpa using a
 have q:Hid (zB w w'):=pown_bel k.o m (zb.alloc zc _) zc c.o;clear a m;go_wp2;go_ret;exact⟨p,rfl,r.o,q.o⟩
theorem pclone_none(cap:Nat)(w:World):
  Calls Tryz.prog 117 #[.slice none 0 cap] w λe w'=>GaveV w [] e w':=by
 have a:∀W:World,(binOp BinOp.eql 26 (.slice none 0 cap) (zS)).run Tryz.prog W=.ok (.bool true) W:=λW=>by kernel_rfl
 go_enter Tryz.func117,Tryz.ntmps117;go_wp2_with fail;go_ret;exact⟨_,rfl,Pw.zero _ _,zb⟩
theorem pclone_any(a:Option Addr)(len cap:Nat)(l:List Pr)(w:World)(hr:RowP w a len l)(hl:len≤1000):
  Calls Tryz.prog 117 #[.slice a len cap] w λe w'=>GaveV w l e w':=by
 cases a with
 |some x=>exact pclone_some x len cap l w hr hl
 |none=>
  have b:len=0:=by
   rcases hr.2 with h|⟨_,_,h,_⟩
   ·exact h
   ·cases h
  subst b;have:l=[]:=List.length_eq_zero_iff.1 hr.1;subst this;exact pclone_none cap w
end ora
namespace book
open Go.RowKit
theorem bnum(kd me mo id te de fe pr ch un tg ow bp:Int)(w:World):Calls Tryz.prog 185 #[.agg #[zI kd,zI me,zI mo,zI id,zI te,zI de,zI fe,zI pr,zI ch,zI un,zI tg,zI ow,zI bp]] w λe w'=>YN w (Numd id tg) e w':=by
 obtain⟨m,C,a,B,-⟩:=sh1 w #[zI kd,zI me,zI mo,zI id,zI te,zI de,zI fe,zI pr,zI ch,zI un,zI tg,zI ow,zI bp] 44;go_enter Tryz.func185,Tryz.ntmps185;go_upto_region 1 with fail
 rw[C.o];have c0:=zy0 a;have c1:=zy1 a;have c2:=zy2 a;have p:=zy3 a;have r:=zy4 a;have s:=zy5 a;have t:=zy6 a;have u:=zy7 a;have x:=zy8 a;have y:=zy9 a;have g:=zy10 a;have h:=zy11 a;have i:=zy12 a;have d:Hid (zC 161 #[zI 1,zI 1048575,.slice (some ⟨m.heap.size,0,none⟩) 1 1] (m.alloc (.cells #[zI id] 3)) λe w'=>e=.returned (.bool (decide (1≤id∧id≤1048575)))∧w'=(m.alloc (.cells #[zI id] 3))):=bki.within_one 1 1048575 id m _ rfl;have k:=zyf B (.cells #[zI id] 3);have b:=zya a (.cells #[zI id] 3);by_cases z:1≤id∧id≤1048575
 case neg=>
  rw[decide_eq_false z] at d;go_wp2_with fail;refine d.o.mono ?_;rintro e W ⟨rfl,j⟩;subst j;go_wp2_with fail;go_ret;exact YN.no (λq=>z q.1) k.o
 rw[decide_eq_true z] at d;go_wp2_with fail;refine d.o.mono ?_;rintro e W ⟨rfl,j⟩;subst j;clear c0 c1 c2 p r s t u x y g h i;generalize (m.alloc (.cells #[zI id] 3))=n at *;have c0:=zy0 b;have c1:=zy1 b;have c2:=zy2 b;have p:=zy3 b;have r:=zy4 b;have s:=zy5 b;have t:=zy6 b;have u:=zy7 b;have x:=zy8 b;have y:=zy9 b;have g:=zy10 b;have h:=zy11 b;have i:=zy12 b;have f:Hid (zC 161 #[zI 0,zI 65535,.slice (some ⟨n.heap.size,0,none⟩) 1 1] (n.alloc (.cells #[zI tg] 3)) λe w'=>e=.returned (.bool (decide (0≤tg∧tg≤65535)))∧w'=(n.alloc (.cells #[zI tg] 3))):=bki.within_one 0 65535 tg n _ rfl;have l:=zyf k (.cells #[zI tg] 3);have c:=zya b (.cells #[zI tg] 3);by_cases A:0≤tg∧tg≤65535
 case neg=>
  rw[decide_eq_false A] at f;go_wp2_with fail;refine f.o.mono ?_;rintro e W ⟨rfl,j⟩;subst j;go_wp2_with fail;go_ret;exact YN.no (λq=>A q.2) l.o
 rw[decide_eq_true A] at f;go_wp2_with fail;refine f.o.mono ?_;rintro e W ⟨rfl,j⟩;subst j;clear c0 c1 c2 p r s t u x y g h i;generalize (n.alloc (.cells #[zI tg] 3))=D at *;have c0:=zy0 c;have c1:=zy1 c;have c2:=zy2 c;have p:=zy3 c;have r:=zy4 c;have s:=zy5 c;have t:=zy6 c;have u:=zy7 c;have x:=zy8 c;have y:=zy9 c;have g:=zy10 c;have h:=zy11 c;have i:=zy12 c;go_wp2_with fail;go_ret;exact YN.yes (⟨z,A⟩) l.o
theorem bunt(kd me mo id te de fe pr ch un tg ow bp:Int)(w:World):Calls Tryz.prog 186 #[.agg #[zI kd,zI me,zI mo,zI id,zI te,zI de,zI fe,zI pr,zI ch,zI un,zI tg,zI ow,zI bp]] w λe w'=>YN w (Unt un) e w':=by
 obtain⟨f,l,a,k,-⟩:=sh1 w #[zI kd,zI me,zI mo,zI id,zI te,zI de,zI fe,zI pr,zI ch,zI un,zI tg,zI ow,zI bp] 44;go_enter Tryz.func186,Tryz.ntmps186;go_upto_region 1 with fail
 rw[l.o];have c0:=zy0 a;have c1:=zy1 a;have c2:=zy2 a;have n:=zy3 a;have p:=zy4 a;have r:=zy5 a;have s:=zy6 a;have t:=zy7 a;have u:=zy8 a;have x:=zy9 a;have g:=zy10 a;have h:=zy11 a;have i:=zy12 a;have c:Hid (zC 161 #[zI 1,zI 2097151,.slice (some ⟨f.heap.size,0,none⟩) 1 1] (f.alloc (.cells #[zI un] 3)) λe w'=>e=.returned (.bool (decide (1≤un∧un≤2097151)))∧w'=(f.alloc (.cells #[zI un] 3))):=bki.within_one 1 2097151 un f _ rfl;have d:=zyf k (.cells #[zI un] 3);have b:=zya a (.cells #[zI un] 3);by_cases j:1≤un∧un≤2097151
 case neg=>
  rw[decide_eq_false j] at c;go_wp2_with fail;refine c.o.mono ?_;rintro e W ⟨rfl,m⟩;subst m;go_wp2_with fail;go_ret;exact YN.no (λq=>j q) d.o
 rw[decide_eq_true j] at c;go_wp2_with fail;refine c.o.mono ?_;rintro e W ⟨rfl,m⟩;subst m;clear c0 c1 c2 n p r s t u x g h i;generalize (f.alloc (.cells #[zI un] 3))=y at *;have c0:=zy0 b;have c1:=zy1 b;have c2:=zy2 b;have n:=zy3 b;have p:=zy4 b;have r:=zy5 b;have s:=zy6 b;have t:=zy7 b;have u:=zy8 b;have x:=zy9 b;have g:=zy10 b;have h:=zy11 b;have i:=zy12 b;go_wp2_with fail;go_ret;exact YN.yes (j) d.o
theorem bmony(id te de fe pr ch un:Int)(w:World):Calls Tryz.prog 187 #[.agg #[zI id,zI te,zI de,zI fe,zI pr,zI ch,zI un]] w λe w'=>YN w (Mony te de fe pr ch) e w':=by
 obtain⟨j,x,h,u,-⟩:=sh1 w #[zI id,zI te,zI de,zI fe,zI pr,zI ch,zI un] 33;go_enter Tryz.func187,Tryz.ntmps187;go_upto_region 1 with fail
 rw[x.o];obtain⟨c0,c1,c2,n,p,r,s⟩:=scl7 h;have a:Hid (zC 161 #[zI 1,zI 100000000,.slice (some ⟨j.heap.size,0,none⟩) 1 1] (j.alloc (.cells #[zI te] 3)) λe w'=>e=.returned (.bool (decide (1≤te∧te≤100000000)))∧w'=(j.alloc (.cells #[zI te] 3))):=bki.within_one 1 100000000 te j _ rfl;have g:=zyf u (.cells #[zI te] 3);have i:=zya h (.cells #[zI te] 3);by_cases l:1≤te∧te≤100000000
 case neg=>
  rw[decide_eq_false l] at a;go_wp2_with fail;refine a.o.mono ?_;rintro e W ⟨rfl,d⟩;subst d;go_wp2_with fail;go_ret;exact YN.no (λq=>l q.1) g.o
 rw[decide_eq_true l] at a;go_wp2_with fail;refine a.o.mono ?_;rintro e W ⟨rfl,d⟩;subst d;clear c0 c1 c2 n p r s;generalize (j.alloc (.cells #[zI te] 3))=k at *;obtain⟨c0,c1,c2,n,p,r,s⟩:=scl7 i;have b:Hid (zC 161 #[zI 0,zI 100000000,.slice (some ⟨k.heap.size,0,none⟩) 4 4] (k.alloc (.cells #[zI de,zI fe,zI pr,zI ch] 3)) λe w'=>e=.returned (.bool (bki.okAll 0 100000000 [de,fe,pr,ch]))∧w'=(k.alloc (.cells #[zI de,zI fe,zI pr,zI ch] 3))):=bki.within_any 0 100000000 _ 4 4 [de,fe,pr,ch] _ (bki.row_four k de fe pr ch 3) (by decide);have c:=zyf g (.cells #[zI de,zI fe,zI pr,zI ch] 3);have y:=zya i (.cells #[zI de,zI fe,zI pr,zI ch] 3);by_cases m:bki.okAll 0 100000000 [de,fe,pr,ch]=true
 case neg=>
  rw[show bki.okAll 0 100000000 [de,fe,pr,ch]=false by simpa using m] at b;go_wp2_with fail;refine b.o.mono ?_;rintro e W ⟨rfl,d⟩;subst d;go_wp2_with fail;go_ret;exact YN.no (λq=>m (by simpa [bki.okAll] using q.2.1)) c.o
 rw[m] at b;go_wp2_with fail;refine b.o.mono ?_;rintro e W ⟨rfl,d⟩;subst d;clear c0 c1 c2 n p r s;generalize (k.alloc (.cells #[zI de,zI fe,zI pr,zI ch] 3))=D at *;obtain⟨c0,c1,c2,n,p,r,s⟩:=scl7 y;have z:(0≤de∧de≤100000000)∧(0≤fe∧fe≤100000000)∧(0≤pr∧pr≤100000000)∧0≤ch∧ch≤100000000:=by simpa [bki.okAll] using m
 have E:IntKind.i64.wrap (de+fe)=de+fe:=by rw[IntKind.wrap_i64];omega
 have F:IntKind.i64.wrap (de+fe+pr)=de+fe+pr:=by rw[IntKind.wrap_i64];omega
 have G:IntKind.i64.wrap (de+fe+pr+ch)=de+fe+pr+ch:=by rw[IntKind.wrap_i64];omega
 have B:=zh z;have A:=zh l;clear z m l;by_cases f:de+fe+pr+ch=te
 ·have C:((de+fe+pr+ch)==te)=true:=by simpa using f
  have t:=zh f;clear f;go_wp2_with fail;go_ret;exact YN.yes ⟨A.o,B.o,t.o⟩ c.o
 ·have C:((de+fe+pr+ch)==te)=false:=by simpa using f
  have t:=zh f;clear f;go_wp2_with fail;go_ret;exact YN.no (λq=>t.o q.2.2) c.o
end book
namespace acc
open tar (Du du0 Came RowD Ld PairT)
open Go.RowKit
theorem open_may{m:Int}(h:0≤m∧m≤49):AMay ⟨m,0,1,0,0,-1,[]⟩:=by
 unfold AMay deb.Mays deb.DFits;simp;omega
theorem kopen:KcOpen:=by
 intro w m z;have p:Hid (∀W,zC 64 #[.agg #[zI m,zI 0,zI 1,zI 0,zI 0,zI (-1),zS]] W λe A=>MayPost W ⟨m,0,1,0,0,-1,[]⟩ e A):=λW=>pmay ⟨m,0,1,0,0,-1,[]⟩ none 0 0 W (deb.came_nil W);clear z;obtain⟨B,s,l,k,j,-⟩:=sh2 w #[zI 0,zI 0,zI 0,zI 0,zI 0,zI 0,zS] 55 #[zI m,zI 0,zI 1,zI 0,zI 0,zI (-1),zS] 55;go_enter Tryz.func181,Tryz.ntmps181;go_upto_region 2 with fail
 rw[s.o];go_wp2_with refine zw ?_;refine(p.o _).mono ?_;rintro e C ⟨r,rfl,i,c⟩;obtain⟨x,h⟩:=zn2 c l k;have g:=shB j c;have u:=c.size;clear c;cases r with
 |false=>
  have q:Hid (OpenIs m ac0 2):=.inr ⟨λy=>Bool.noConfusion (i.2 (open_may y)),rfl,rfl⟩;clear i;go_wp2_with (first|refine zs ?_|refine zw ?_)
  intro t b;have a:=zyb b;have n:=zk1 b h;have d:=zk b g;have f:=b.size;clear b;go_wp2_with fail;exact zr (.tuple #[.agg #[zI 0,zI 0,zI 0,zI 0,zI 0,zI 0,zS],zI 2]) (by simp[results,Tryz.results181,zy0 a,zy1 a,zy2 a,zy3 a,zy4 a,zy5 a,zy6 a,go_sem]) ⟨ac0,none,0,0,_,rfl,q.o,deb.fresh_nil _ _,d.o⟩
 |true=>
  have q:Hid (OpenIs m ⟨m,0,1,0,0,-1,[]⟩ 0):=.inl ⟨(i.1 rfl).2.1,rfl,rfl⟩;clear i;go_wp2_with (first|refine zs ?_|refine zw ?_)
  intro t b;have a:=zyb b;have n:=zk1 b h;have d:=zk b g;have f:=b.size;clear b;go_wp2_with fail;exact zr (.tuple #[.agg #[zI m,zI 0,zI 1,zI 0,zI 0,zI (-1),zS],zI 0]) (by simp[results,Tryz.results181,scl7 a,go_sem]) ⟨⟨m,0,1,0,0,-1,[]⟩,none,0,0,_,rfl,q.o,deb.fresh_nil _ _,d.o⟩
end acc
namespace words
open Go.RowKit
theorem eq1(d:Nat)(a a':Int)(w:World):(Op.equalIn (d+1) 83 (.int .u32 a) (.int .u32 a')).run Tryz.prog w=.ok (a==a') w:=by
 simp[Op.equalIn,run_underlying Tryz.underlying83,go_sem]
theorem part0(a b c:Int)(w:World):(part 83 #[.int .u32 a,.int .u32 b,.int .u32 c] 0).run Tryz.prog w=.ok (.int .u32 a) w:=by kernel_rfl
theorem part1(a b c:Int)(w:World):(part 83 #[.int .u32 a,.int .u32 b,.int .u32 c] 1).run Tryz.prog w=.ok (.int .u32 b) w:=by kernel_rfl
theorem part2(a b c:Int)(w:World):(part 83 #[.int .u32 a,.int .u32 b,.int .u32 c] 2).run Tryz.prog w=.ok (.int .u32 c) w:=by kernel_rfl
theorem eq3(a b c a' b' c':Int)(w:World):
  (Op.equalIn 10000 135 (.agg #[.int .u32 a,.int .u32 b,.int .u32 c]) (.agg #[.int .u32 a',.int .u32 b',.int .u32 c'])).run Tryz.prog w=.ok (a==a'&&(b==b'&&c==c')) w:=by
 obtain⟨i0,hi⟩:∃i,Tryz.prog.info? 83=some i:=⟨_,rfl⟩
 rw[show (10000:Nat)=9999+1 from rfl,run_equalIn_array (w:=w) 9999 _ _ Tryz.underlying135 hi,cells_word,show List.range 3=[0,1,2] from rfl];simp only[Op.eqItems,Sem.run_bind,Nat.mul_one,part0,Result.andThen_ok,show (9999:Nat)=9998+1 from rfl,eq1];by_cases d:a=a'
 ·by_cases e:b=b'
  ·by_cases f:c=c'
   ·simp[part1,part2,Sem.run_bind,eq1,d,e,f]
   ·simp[part1,part2,Sem.run_bind,eq1,d,e,f]
  ·simp[part1,Sem.run_bind,eq1,d,e]
 ·simp[d]
theorem eq3_same(x:W3)(w:World):(Op.equalIn 10000 135 (wv x) (wv x)).run Tryz.prog w=.ok true w:=by
 rw[eq3];simp
theorem eq3_other{x y:W3}(h:x≠y)(w:World):(Op.equalIn 10000 135 (wv x) (wv y)).run Tryz.prog w=.ok false w:=by
 rw[eq3];have:=agg_ne h
 congr 1
 simp;intro a b c;exact this ⟨a,b,c⟩
end words
end Go.Proofs.YtoepgdhiepedeaaGreatDoor
