import Derived.Test.YtoepgdhiepedeaaGreatDoorVVRys2
import Derived.Test.YtoepgdhiepedeaaGreatDoorVVRys4
set_option linter.unusedVariables false
set_option linter.unusedSimpArgs false
set_option maxHeartbeats 4000000
set_option maxRecDepth 100000
namespace Go.Proofs.YtoepgdhiepedeaaGreatDoor
namespace book
open Go.RowKit
structure Ev where
 kd:Int
 me:Int
 mo:Int
 id:Int
 te:Int
 de:Int
 fe:Int
 pr:Int
 ch:Int
 un:Int
 tg:Int
 ow:Int
 bp:Int
def ev0:Ev:=⟨0,0,0,0,0,0,0,0,0,0,0,0,0⟩
def EMay(v:Ev):Prop:=(0≤v.me∧v.me≤49)∧((v.kd=1∧v.mo=0∧v.id=0∧v.te=0∧v.de=0∧v.fe=0∧v.pr=0∧v.ch=0∧v.un=0∧v.tg=0∧v.ow=0∧v.bp=0)∨(v.kd=5∧v.mo=0∧v.id=0∧v.te=0∧v.de=0∧v.fe=0∧v.pr=0∧v.ch=0∧v.un=0∧v.tg=0∧(1≤v.ow∧v.ow≤1000000000)∧0≤v.bp∧v.bp≤10000) ∨
 ((2≤v.kd∧v.kd≤4)∧(1≤v.id∧v.id≤1048575)∧(0≤v.tg∧v.tg≤65535)∧(v.ow=0∧v.bp=0)∧((v.kd=4∧v.mo=0∧v.te=0∧v.de=0∧v.fe=0∧v.pr=0∧v.ch=0∧v.un=0)∨(v.kd≠4∧(0≤v.mo∧v.mo≤2399)∧(1≤v.un∧v.un≤2097151) ∧
   ((v.kd=3∧v.te=0∧v.de=0∧v.fe=0∧v.pr=0∧v.ch=0)∨(v.kd≠3∧(1≤v.te∧v.te≤100000000)∧(0≤v.de∧v.de≤v.te)∧(0≤v.fe∧v.fe≤v.te)∧(0≤v.pr∧v.pr≤v.te)∧(0≤v.ch∧v.ch≤v.te)∧v.de+v.fe+v.pr+v.ch=v.te))))))
def evL(v:Ev):List Int:=[v.kd,v.me,v.mo,v.id,v.te,v.de,v.fe,v.pr,v.ch,v.un,v.tg,v.ow,v.bp]
theorem evL_len(v:Ev):(evL v).length=13:=rfl
theorem may_word{v:Ev}(h:EMay v):∀x∈evL v,0≤x∧x<4294967296:=by
 intro x a;unfold EMay at h;simp only[evL,List.mem_cons,List.not_mem_nil,or_false] at a;rcases a with rfl|rfl|rfl|rfl|rfl|rfl|rfl|rfl|rfl|rfl|rfl|rfl|rfl<;>omega
def evOf(l:List Int):Ev:=⟨l.getD 0 0,l.getD 1 0,l.getD 2 0,l.getD 3 0,l.getD 4 0,l.getD 5 0,l.getD 6 0,l.getD 7 0,l.getD 8 0,l.getD 9 0,l.getD 10 0,l.getD 11 0,l.getD 12 0⟩
theorem evL_Of{l:List Int}(h:l.length=13):evL (evOf l)=l:=by
 match l,h with
 |[a0,a1,a2,a3,a4,a5,a6,a7,a8,a9,a10,a11,a12],_=>rfl
def EncIs(v:Ev)(ws:List Int)(e:Int):Prop:=(EMay v∧ws=evL v∧e=0)∨(¬ EMay v∧ws=[]∧e=5)
theorem EncIs.one{v:Ev}{a b:List Int}{e f:Int}(h:EncIs v a e)(h':EncIs v b f):a=b∧e=f:=by
 rcases h with⟨q,rfl,rfl⟩|⟨q,rfl,rfl⟩<;>rcases h' with⟨c,rfl,rfl⟩|⟨c,rfl,rfl⟩<;>first|exact⟨rfl,rfl⟩|contradiction
def DecIs(l:List Int)(v:Ev)(e:Int):Prop:=(l.length≠13∧v=ev0∧e=1)∨(l.length=13∧¬ EMay (evOf l)∧v=ev0∧e=5)∨(l.length=13∧EMay (evOf l)∧v=evOf l∧e=0)
theorem DecIs.one{l:List Int}{a b:Ev}{e f:Int}(h:DecIs l a e)(h':DecIs l b f):a=b∧e=f:=by
 rcases h with⟨q,rfl,rfl⟩|⟨q,r,rfl,rfl⟩|⟨q,r,rfl,rfl⟩<;>rcases h' with⟨c,rfl,rfl⟩|⟨c,d,rfl,rfl⟩|⟨c,d,rfl,rfl⟩<;>first|exact⟨rfl,rfl⟩|contradiction
end book
namespace tar
open Go.RowKit
theorem rfault(a:Option Addr)(n cap:Nat)(ls:List Du)(w:World)(hr:RowD w a n ls)(hn:n≤maxLen):Calls Tryz.prog 87 #[.slice a n cap] w λe w'=>ErrPost w (FaultIs ls) e w':=by
 have g:=hr.1;have l:Hid (∀W,zC 47 #[zI (n:Int),zI 1,zI 8] W λe w'=>e=.returned (.bool (decide (1≤(n:Int)∧(n:Int)≤8)))∧w'=W):=λW=>cal.cin n 1 8 W;have P:Hid (∀x W,zC 47 #[zI x,zI 1,zI 10000000] W λe w'=>e=.returned (.bool (decide (1≤x∧x≤10000000)))∧w'=W):=λx W=>cal.cin x 1 10000000 W;have O:Hid (∀x W,zC 47 #[zI x,zI 1,zI 100000] W λe w'=>e=.returned (.bool (decide (1≤x∧x≤100000)))∧w'=W):=λx W=>cal.cin x 1 100000 W;by_cases X:1≤n∧n≤8
 ·have F:Hid (Sized ls):=by show 1≤ls.length∧ls.length≤8;rw[g];exact X
  rw[decide_eq_true (show 1≤(n:Int)∧(n:Int)≤8 by omega)] at l;obtain⟨T,a8⟩:=X;obtain⟨b,f,rfl,H,hc⟩:=hr.at T;have N:Hid (∀i,i<n→w.cell? ⟨b,f+i*2,none⟩=some (zI (ls.getD i du0).a)∧w.cell? ⟨b,f+i*2+1,none⟩=some (zI (ls.getD i du0).b)):=hc;have c:Hid (ls.length=n):=g;have a5:n≤9223372036854775807:=by omega
  clear hc hr hn g;go_enter Tryz.func87,Tryz.ntmps87;go_wp2_with fail;refine(l.o _).mono ?_;rintro e z ⟨rfl,J⟩;subst J;go_wp2_with fail;go_loopw [3] (λx wr=>∃k:Nat,k≤n∧x=zI (k:Int)∧(∀i,i<k→(1≤(ls.getD i du0).a∧(ls.getD i du0).a≤10000000)∧1≤(ls.getD i du0).b∧(ls.getD i du0).b≤100000)∧wr=z) (λx _=>n-(intOf x).toNat)
  case atStart=>exact⟨0,Nat.zero_le _,rfl,λi S=>absurd S (Nat.not_lt_zero _),rfl⟩
  case round=>
   obtain⟨k,hk,rfl,hf,a9⟩:=hrel;have r:Hid (∀i,i<k→(1≤(ls.getD i du0).a∧(ls.getD i du0).a≤10000000)∧1≤(ls.getD i du0).b∧(ls.getD i du0).b≤100000):=hf;subst wr;clear hf;by_cases s:k<n
   ·have a1:decide ((k:Int)<(n:Int))=true:=by simp;omega
    have c0:=(N.o k s).1;have c1:=(N.o k s).2;have t:=P.o (ls.getD k du0).a;have D:=O.o (ls.getD k du0).b;by_cases I:1≤(ls.getD k du0).a∧(ls.getD k du0).a≤10000000
    ·rw[decide_eq_true I] at t;by_cases L:1≤(ls.getD k du0).b∧(ls.getD k du0).b≤100000
     ·rw[decide_eq_true L] at D
      have A:Hid (∀i,i<k+1→(1≤(ls.getD i du0).a∧(ls.getD i du0).a≤10000000)∧1≤(ls.getD i du0).b∧(ls.getD i du0).b≤100000):=λi S=>by
       by_cases e:i=k
       ·subst e;exact⟨I,L⟩
       ·exact r.o i (by omega)
      have m:Hid (∀W,zC 47 #[zI (ls.getD k du0).a,zI 1,zI 10000000] W λe w'=>e=.returned (.bool true)∧w'=W):=t;have E:Hid (∀W,zC 47 #[zI (ls.getD k du0).b,zI 1,zI 100000] W λe w'=>e=.returned (.bool true)∧w'=W):=D;clear t D I L r;generalize (ls.getD k du0).a=x at *;generalize (ls.getD k du0).b=y at *;go_wp2_with fail;refine(m.o _).mono ?_;rintro e Y ⟨rfl,d⟩;subst d;go_wp2_with fail;refine(E.o _).mono ?_;rintro e Y ⟨rfl,d⟩;subst d;go_wp2_with fail;go_roundw
      case rel=>exact⟨k+1,by omega,by go_num,A.o,by first|rfl|trivial⟩
      case measure=>simp[intOf];omega
     ·rw[decide_eq_false L] at D;have C:Hid (¬ Fits ls):=λh=>L (h k (by rw[c.o];exact s)).2;have m:Hid (∀W,zC 47 #[zI (ls.getD k du0).a,zI 1,zI 10000000] W λe w'=>e=.returned (.bool true)∧w'=W):=t;have E:Hid (∀W,zC 47 #[zI (ls.getD k du0).b,zI 1,zI 100000] W λe w'=>e=.returned (.bool false)∧w'=W):=D;clear t D I L r;generalize (ls.getD k du0).a=x at *;generalize (ls.getD k du0).b=y at *;go_wp2_with fail;refine(m.o _).mono ?_;rintro e Y ⟨rfl,d⟩;subst d;go_wp2_with fail;refine(E.o _).mono ?_;rintro e Y ⟨rfl,d⟩;subst d;go_wp2_with fail;go_ret;exact⟨_,rfl,.inr (.inl ⟨F.o,C.o,rfl⟩),zb⟩
    ·rw[decide_eq_false I] at t;have C:Hid (¬ Fits ls):=λh=>I (h k (by rw[c.o];exact s)).1;have m:Hid (∀W,zC 47 #[zI (ls.getD k du0).a,zI 1,zI 10000000] W λe w'=>e=.returned (.bool false)∧w'=W):=t;clear t D I r;generalize (ls.getD k du0).a=x at *;generalize (ls.getD k du0).b=y at *;go_wp2_with fail;refine(m.o _).mono ?_;rintro e Y ⟨rfl,d⟩;subst d;go_wp2_with fail;go_ret;exact⟨_,rfl,.inr (.inl ⟨F.o,C.o,rfl⟩),zb⟩
   ·obtain rfl:k=n:=by omega
    have a1:decide ((k:Int)<(k:Int))=false:=by simp
    have B:Hid (Fits ls):=λi S=>r.o i (by rw[c.o] at S;exact S);clear r P O l;go_wp2_with fail;go_loopw [4] (λx a6=>∃j:Nat,1≤j∧j≤k∧x=zI (j:Int)∧(∀i,1≤i→i<j→(ls.getD (i-1) du0).a<(ls.getD i du0).a)∧zB z a6) (λx _=>k-(intOf x).toNat)
    case atStart=>exact⟨1,zc,T,rfl,λi V Q=>absurd Q (by omega),zb⟩
    case round=>
     obtain⟨j,a2,hj,rfl,hf,G⟩:=hrel;have r:Hid (∀i,1≤i→i<j→(ls.getD (i-1) du0).a<(ls.getD i du0).a):=hf;have HB:Hid (zB z wr):=G;by_cases u:j<k
     ·have R:decide ((j:Int)<(k:Int))=true:=by simp;omega
      have c0:wr.cell? ⟨b,f+j*2,none⟩=some (zI (ls.getD j du0).a):=(G.cell (p:=⟨b,f+j*2,none⟩) H).trans (N.o j u).1;have c1:wr.cell? ⟨b,f+(j-1)*2,none⟩=some (zI (ls.getD (j-1) du0).a):=(G.cell (p:=⟨b,f+(j-1)*2,none⟩) H).trans (N.o (j-1) (by omega)).1;have a7:wr.drew.cell? ⟨b,f+j*2,none⟩=some (zI (ls.getD j du0).a):=c0;have M:Hid (zB z wr.drew):=G.drew;have U:((j:Int)-1)=((j-1:Nat):Int):=by omega
      have a3:j-1<k:=by omega
      clear G hf;by_cases q:(ls.getD j du0).a≤(ls.getD (j-1) du0).a
      ·have a0:decide ((ls.getD j du0).a≤(ls.getD (j-1) du0).a)=true:=decide_eq_true q;have C:Hid (¬ (Rises ls∧Ends ls)):=rise_not a2 (by rw[c.o];exact u) q;clear q;generalize (ls.getD j du0).a=x at *;generalize (ls.getD (j-1) du0).a=y at *;generalize j-1=j1 at *;go_wp2_with fail;go_region
       all_goals go_wp2_with fail
       go_ret;exact⟨_,rfl,.inr (.inr (.inl ⟨F.o,B.o,C.o,rfl⟩)),M.o⟩
      ·have a0:decide ((ls.getD j du0).a≤(ls.getD (j-1) du0).a)=false:=decide_eq_false q
       have A:Hid (∀i,1≤i→i<j+1→(ls.getD (i-1) du0).a<(ls.getD i du0).a):=λi V Q=>by
        by_cases e:i=j
        ·subst e;omega
        ·exact r.o i V (by omega)
       clear q;generalize (ls.getD j du0).a=x at *;generalize (ls.getD (j-1) du0).a=y at *;generalize j-1=j1 at *;go_wp2_with fail;go_region
       all_goals go_wp2_with fail
       go_roundw
       case rel=>exact⟨j+1,by omega,by omega,by go_num,A.o,M.o⟩
       case measure=>simp[intOf];omega
     ·obtain rfl:j=k:=by omega
      have R:decide ((j:Int)<(j:Int))=false:=by simp
      have HR:Hid (Rises ls):=λi V Q=>r.o i V (by rw[c.o] at Q;exact Q);have c1:wr.cell? ⟨b,f+(j-1)*2,none⟩=some (zI (ls.getD (j-1) du0).a):=(G.cell (p:=⟨b,f+(j-1)*2,none⟩) H).trans (N.o (j-1) (by omega)).1;have U:((j:Int)-1)=((j-1:Nat):Int):=by omega
      have a3:j-1<j:=by omega
      have HE:Hid (Ends ls↔(ls.getD (j-1) du0).a=10000000):=by show Ends ls↔_;unfold Ends;rw[c.o]
      clear G hf;by_cases K:(ls.getD (j-1) du0).a=10000000
      ·have Z:Hid (Right ls):=⟨F.o,B.o,HR.o,HE.o.2 K⟩
       have a4:((ls.getD (j-1) du0).a != 10000000)=false:=by rw[K];rfl
       clear K;generalize (ls.getD (j-1) du0).a=y at *;generalize j-1=j1 at *;go_wp2_with fail;go_ret;exact⟨_,rfl,.inr (.inr (.inr ⟨Z.o,rfl⟩)),HB.o⟩
      ·have C:Hid (¬ (Rises ls∧Ends ls)):=λh=>K (HE.o.1 h.2);have a4:((ls.getD (j-1) du0).a != 10000000)=true:=by simpa using K
       clear K;generalize (ls.getD (j-1) du0).a=y at *;generalize j-1=j1 at *;go_wp2_with fail;go_ret;exact⟨_,rfl,.inr (.inr (.inl ⟨F.o,B.o,C.o,rfl⟩)),HB.o⟩
 ·have F:Hid (¬ Sized ls):=by show ¬ (1≤ls.length∧ls.length≤8);rw[g];exact X
  rw[decide_eq_false (show ¬ (1≤(n:Int)∧(n:Int)≤8) by omega)] at l;have a5:n≤9223372036854775807:=by unfold maxLen at hn;omega
  clear X hr g hn;go_enter Tryz.func87,Tryz.ntmps87;go_wp2_with fail;refine(l.o _).mono ?_;rintro e z ⟨rfl,J⟩;subst J;go_wp2_with fail;go_ret;exact⟨_,rfl,.inl ⟨F.o,rfl⟩,zb⟩
end tar
namespace token
open Go.ChangeShapes Go.WideShapes Go.ChangeAt Go.RowKit Go.Deep
def Eight(w:World)(g:Nat)(a0 a1 a2 a3 a4 a5 a6 a7:Int):Prop:=
 ∃t fr,w.heap[g]?=some (.cells #[zI a0,zI a1,zI a2,zI a3,zI a4,zI a5,zI a6,zI a7] t fr)
structure TTab (w:World):Prop where
 places:Eight w 1 57 3 37 20 16 21 0 16
 amounts:Eight w 0 1 2097151 0 0 1 15 0 0
variable{a0 a1 a2 a3 a4 a5 a6 a7:Int}{w:World}{g:Nat}
theorem Eight.lt(h:Eight w g a0 a1 a2 a3 a4 a5 a6 a7):g<w.heap.size:=by
 obtain⟨t,b,h⟩:=h;by_cases a:g<w.heap.size
 ·exact a
 ·rw[Array.getElem?_eq_none (by omega)] at h;cases h
theorem Eight.below{w w':World}(h:Eight w g a0 a1 a2 a3 a4 a5 a6 a7)(hb:zB w w'):Eight w' g a0 a1 a2 a3 a4 a5 a6 a7:=by
 have b:=h.lt;obtain⟨t,a,h⟩:=h;exact⟨t,a,by rw[hb.block g b];exact h⟩
theorem TTab.below{w w':World}(h:TTab w)(hb:zB w w'):TTab w':=⟨h.places.below hb,h.amounts.below hb⟩
theorem list8{α:Type}(l:List α)(h:l.length=8):∃a b c d e f g i,l=[a,b,c,d,e,f,g,i]:=by
 match l,h with
 |[a,b,c,d,e,f,g,i],_=>exact⟨a,b,c,d,e,f,g,i,rfl⟩
theorem two_of{H:Type}{enc:TypeId × Value→H}{P:Program}{base:Nat}{spare:Nat→Bool}{held:Bool}{fuel:Nat}{t e:TypeId}{f0 f1:Field}{c0 c1:Value}{a0 a1:Int}{p:List MemPlace}
  (ht:P.underlying t=some (.struct #[f0,f1])) (hone:oneCellFields P #[f0,f1]=true) (he:P.underlying e=some (.int .i64)) (e0:f0.type=e) (e1:f1.type=e)
  (h:DataW.trod enc P w base spare held fuel t [c0,c1]=some (.agg [.lit (.int .i64 a0),.lit (.int .i64 a1)],p)):c0=zI a0∧c1=zI a1:=by
 obtain⟨o,q,n,c,_,a,b⟩:=trod_struct2 ht h;obtain⟨j,g⟩:=hone_of hone 0 f0 rfl;obtain⟨k,i⟩:=hone_of hone 1 f1 rfl;rw[j,g,e0] at a;rw[k,i,e1] at b;obtain⟨l,d,rfl,_⟩:=DataW.trod_int he a;obtain⟨m,f,rfl,_⟩:=DataW.trod_int he b;simp at d f c;obtain⟨⟨rfl,rfl⟩,_⟩:=c;exact⟨d,f⟩
theorem trod_array4w{H:Type}{enc:TypeId × Value→H}{P:Program}{base:Nat}{spare:Nat→Bool}{held:Bool}{t e:TypeId}{fuel:Nat}{cs:List Value}{x:DataW H × List MemPlace}(ht:P.underlying t=some (.array 4 e))(hce:P.cellsOf e=2)(hct:P.cellsOf t=8)
  (h:DataW.trod enc P w base spare held fuel t cs=some x):
  cs.length=8∧∃y0 y1 y2 y3 n,x=(.agg [y0.1,y1.1,y2.1,y3.1],y0.2++(y1.2++(y2.2++y3.2)))∧DataW.trod enc P w base spare held n e (cs.take 2)=some y0∧DataW.trod enc P w base spare held n e ((cs.drop 2).take 2)=some y1∧DataW.trod enc P w base spare held n e ((cs.drop 4).take 2)=some y2∧DataW.trod enc P w base spare held n e ((cs.drop 6).take 2)=some y3:=by
 cases fuel with
 |zero=>simp[DataW.trod] at h
 |succ n=>
  unfold DataW.trod at h;rw[ht] at h;have b:List.range 4=[0,1,2,3]:=rfl;simp[b,hce,hct] at h;obtain⟨a,h⟩:=h;refine⟨a,?_⟩;cases h0:DataW.trod enc P w base spare held n e (cs.take 2) with
  |none=>simp[h0] at h
  |some y0=>
   cases h1:DataW.trod enc P w base spare held n e ((cs.drop 2).take 2) with
   |none=>simp[h0,h1] at h
   |some y1=>
    cases h2:DataW.trod enc P w base spare held n e ((cs.drop 4).take 2) with
    |none=>simp[h0,h1,h2] at h
    |some y2=>
     cases h3:DataW.trod enc P w base spare held n e ((cs.drop 6).take 2) with
     |none=>simp[h0,h1,h2,h3] at h
     |some y3=>
      simp[h0,h1,h2,h3] at h;exact⟨y0,y1,y2,y3,n,by rw[← h],h0,h1,h2,h3⟩
theorem eight_of{W:World}{name:String}{rest:List (String × DataW Unit)}{t e z:TypeId}{f0 f1:Field}
  (hg:Tryz.prog.globalNamed name=some g) (hty:(Tryz.prog.globals[g]?).map (·.type)=some t) (ht:Tryz.prog.underlying t=some (.array 4 e)) (hce:Tryz.prog.cellsOf e=2) (hct:Tryz.prog.cellsOf t=8)
  (hs:Tryz.prog.underlying e=some (.struct #[f0,f1])) (hone:oneCellFields Tryz.prog #[f0,f1]=true) (hz:Tryz.prog.underlying z=some (.int .i64)) (e0:f0.type=z) (e1:f1.type=z)
  (h:laidMet Tryz.prog ((name,.agg [.agg [.lit (.int .i64 a0),.lit (.int .i64 a1)],.agg [.lit (.int .i64 a2),.lit (.int .i64 a3)],.agg [.lit (.int .i64 a4),.lit (.int .i64 a5)],.agg [.lit (.int .i64 a6),.lit (.int .i64 a7)]])::rest) W):Eight W g a0 a1 a2 a3 a4 a5 a6 a7:=by
 obtain⟨M,⟨L,r,cs,i,p,q,d,f,a,E,_,_⟩,_⟩:=h;obtain rfl:=Option.some.inj (hg.symm.trans d);obtain rfl:=Option.some.inj (hty.symm.trans f);obtain⟨F,A,B,C,D,n,o,j,k,l,m⟩:=trod_array4w ht hce hct E;simp only[Prod.mk.injEq,DataW.agg.injEq,List.cons.injEq,and_true] at o;obtain⟨⟨s,u,x,y⟩,_⟩:=o;obtain⟨A,N⟩:=A;obtain⟨B,O⟩:=B;obtain⟨C,P⟩:=C;obtain⟨D,Q⟩:=D;simp only at s u x y;subst s u x y;obtain⟨c0,c1,c2,G,H,I,J,K,c⟩:=list8 _ F;rw[c] at j k l m;obtain⟨rfl,rfl⟩:=two_of hs hone hz e0 e1 j;obtain⟨rfl,rfl⟩:=two_of hs hone hz e0 e1 k;obtain⟨rfl,rfl⟩:=two_of hs hone hz e0 e1 l;obtain⟨rfl,rfl⟩:=two_of hs hone hz e0 e1 m;unfold World.var? at a;rw[hg] at a;simp only[Option.bind_some] at a;split at a
 ·rename_i cs' r fr hc
  have b:=Option.some.inj a;refine⟨r,fr,?_⟩;rw[hc,b]
  congr 2
  first
  |(cases cs;simp_all)
  |simp_all
 ·cases a
end token
namespace deb
open tar (Du du0 Came RowD Ld ErrPost TwoPost PairT GaveD)
open Go.RowKit
def mixK(l:List Du)(m k:Nat):List Du:=ageAll (l.take k) m++l.drop k
theorem mix_all(l:List Du)(m k:Nat)(h:l.length=k):mixK l m k=ageAll l m:=by
 subst h;unfold mixK;rw[List.take_length,List.drop_length,List.append_nil]
theorem mix_len(l:List Du)(m k:Nat)(hk:k≤l.length):(mixK l m k).length=l.length:=by
 unfold mixK;rw[List.length_append,ageAll_len,List.length_take,List.length_drop];omega
theorem drop_one(l:List Du)(k:Nat)(hk:k<l.length):l.drop k=l.getD k du0::l.drop (k+1):=by
 rw[List.drop_eq_getElem_cons hk];simp[List.getD,List.getElem?_eq_getElem hk]
theorem mix_at(l:List Du)(m k:Nat)(hk:k<l.length):(mixK l m k).getD k du0=l.getD k du0:=by
 unfold mixK;have e:(ageAll (l.take k) m).length=k:=by rw[ageAll_len,List.length_take];omega
 rw[drop_one l k hk,List.getD,List.getElem?_append_right (by omega),e,Nat.sub_self];simp
theorem mix_set(l:List Du)(m k:Nat)(hk:k<l.length)(d:Du):(mixK l m k).set k d=ageAll (l.take k) m++d::l.drop (k+1):=by
 unfold mixK;have e:(ageAll (l.take k) m).length=k:=by rw[ageAll_len,List.length_take];omega
 rw[drop_one l k hk,List.set_append_right _ _ (by omega),e,Nat.sub_self,List.set_cons_zero]
theorem mix_next(l:List Du)(m k:Nat)(hk:k<l.length):(mixK l m k).set k ⟨growN (l.getD k du0).b m (l.getD k du0).a,(l.getD k du0).b⟩=mixK l m (k+1):=by
 rw[mix_set l m k hk];unfold mixK;rw[ageAll_take l m k hk];simp
theorem mix_same(l:List Du)(m k:Nat)(hk:k<l.length):(mixK l m k).set k ⟨growN (l.getD k du0).b 0 (l.getD k du0).a,(l.getD k du0).b⟩=mixK l m k:=by
 rw[mix_set l m k hk];show ageAll (l.take k) m++l.getD k du0::l.drop (k+1)=mixK l m k;unfold mixK;rw[drop_one l k hk]
theorem cells_set(l:List Du)(k:Nat)(hk:k<l.length)(x b:Int)(hb:(l.getD k du0).b=b):tar.cellsD (l.set k ⟨x,b⟩)=(tar.cellsD l).set (k*2) (zI x):=by
 induction l generalizing k with
 |nil=>simp at hk
 |cons d l ih=>
  cases k with
  |zero=>
   have e:d.b=b:=by simpa using hb
   subst e;rfl
  |succ k=>
   rw[show (k+1)*2=k*2+1+1 by omega];have a:k<l.length:=by simpa using hk
   have c:=ih k a (by simpa using hb);show tar.cellsD (d::l.set k ⟨x,b⟩)=_;simp only[tar.cellsD,List.set_cons_succ,c]
theorem ld_put{T:TypeId}{w W:World}{base g n cap:Nat}{l:List Du}{cur:Array Value}(h:Ld T w base (.slice (some ⟨g,0,none⟩) n cap) l)(hB:Blk w g cur T)(k:Nat)(hk:k<l.length)(x b:Int)(hb:(l.getD k du0).b=b)(hU:Upd w W g (cur.setIfInBounds (k*2) (zI x)) T):Ld T W base (.slice (some ⟨g,0,none⟩) n cap) (l.set k ⟨x,b⟩):=by
 unfold Ld at *;rw[List.length_set,cells_set l k hk x b hb];refine⟨by rw[List.length_set];exact h.1,?_⟩;rcases h.2 with⟨i,_⟩|⟨s,d,c,f,m,a,p,o,r,q⟩
 ·cases i
 ·simp only[Value.slice.injEq,Option.some.injEq,Addr.mk.injEq,and_true] at f;obtain⟨rfl,rfl,rfl⟩:=f
  have e:c=cur:=by
   have j:=hB;rw[j] at a;injection a with a
   injection a with a
   exact a.symm
  subst e;exact .inr ⟨g,cap,_,rfl,m,hU.blk,p,o,by simpa using r,by rw[Array.toList_setIfInBounds,← q,List.take_set]⟩
theorem ld_lies{T:TypeId}{w:World}{base n cap:Nat}{a:Option Addr}{l:List Du}(h:Ld T w base (.slice a n cap) l)(hn:0<n):∃g cur,a=some ⟨g,0,none⟩∧base≤g∧Blk w g cur T∧n*2≤cur.size∧(∀k,k<l.length→w.cell? ⟨g,k*2,none⟩=some (zI (l.getD k du0).a)∧w.cell? ⟨g,k*2+1,none⟩=some (zI (l.getD k du0).b)):=by
 rcases h.2 with⟨i,q⟩|⟨g,c,cur,d,m,j,p,r,t,s⟩
 ·simp only[Value.slice.injEq] at i;omega
 ·simp only[Value.slice.injEq] at d;obtain⟨rfl,rfl,rfl⟩:=d;refine⟨g,cur,rfl,m,j,by omega,λk o=>?_⟩;have e:=World.ownsRow.cellAt h (k*2) (by omega);have f:=World.ownsRow.cellAt h (k*2+1) (by omega);rw[e,f];exact tar.cellsD_at l k o
end deb
namespace tar
open Go.RowKit
abbrev Ln:={ t:Tr // LineOk t }
def encL(t:Ln):Array Value:=#[.agg #[zI t.1.a,zI t.1.b,zI t.1.c]]
def lns(l:List Ln):List Tr:=l.map (λt=>t.1)
theorem lns_app(l m:List Ln):lns (l++m)=lns l++lns m:=by unfold lns;rw[List.map_append]
theorem lns_len(l:List Ln):(lns l).length=l.length:=by unfold lns;rw[List.length_map]
theorem lns_ok(l:List Ln):∀t∈lns l,LineOk t:=λt a=>by
 unfold lns at a;obtain⟨s,_,rfl⟩:=List.mem_map.1 a;exact s.2
def Kq(n lo hi:Nat)(W W':World):Prop:=Below n W W'∧∀j,lo≤j→j<hi→W'.heap[j]?=W.heap[j]?
theorem Kq.trans{n lo hi:Nat}{A B C:World}(h:Kq n lo hi A B)(k:Kq n lo hi B C):Kq n lo hi A C:=⟨h.1.trans k.1,λj a b=>(k.2 j a b).trans (h.2 j a b)⟩
variable{l:List Du}
theorem nxt_yes(h:Right l)(x y:Int)(hx:0≤x)(hxy:x≤y)(k:Nat)(hk:k<l.length)(hp:0<min (l.getD k du0).a y-(x+manyK l x y k)):min (l.getD k du0).a y-(x+manyK l x y k)=ov (low l k) (l.getD k du0).a x y:=by
 have b:=many_eq h x y hx hxy k (by omega);have c:=h.rise k hk;have d:=h.low_pos k (by omega);rw[b] at hp ⊢;unfold ov;omega
theorem nxt_no(h:Right l)(x y:Int)(hx:0≤x)(hxy:x≤y)(k:Nat)(hk:k<l.length)(hp:¬ 0<min (l.getD k du0).a y-(x+manyK l x y k)):ov (low l k) (l.getD k du0).a x y=0:=by
 have b:=many_eq h x y hx hxy k (by omega);have c:=h.rise k hk;have d:=h.low_pos k (by omega);rw[b] at hp;unfold ov;omega
theorem many_next(l:List Du)(x y:Int)(k:Nat):manyK l x y (k+1)=manyK l x y k+ov (low l k) (l.getD k du0).a x y:=rfl
theorem many_bd(h:Right l)(x y:Int)(hx:0≤x)(hxy:x≤y)(k:Nat)(hk:k≤l.length):0≤manyK l x y k∧manyK l x y k≤y-x:=by
 rw[many_eq h x y hx hxy k hk];omega
theorem line_ok(h:Right l)(x y:Int)(k:Nat)(hk:k<l.length)(hp:0<ov (low l k) (l.getD k du0).a x y):LineOk ⟨ov (low l k) (l.getD k du0).a x y,(l.getD k du0).b,ov (low l k) (l.getD k du0).a x y*(l.getD k du0).b⟩:=by
 have c:=h.price k hk;have d:=h.upto k hk;have e:=h.low_pos k (by omega);exact⟨by show 1≤ov _ _ _ _;omega,ov_le _ _ _ _ e d.2,c.1,c.2,rfl⟩
theorem bill_prefix(l:List Du)(x y:Int)(k m:Nat)(hkm:k≤m):billK l x y k <+: billK l x y m:=by
 induction m with
 |zero=>
  have:k=0:=by omega
  subst this;exact List.prefix_refl _
 |succ m ih=>
  by_cases e:k=m+1
  ·subst e;exact List.prefix_refl _
  ·exact(ih (by omega)).trans (List.prefix_append (billK l x y m) (if 0<ov (low l m) (l.getD m du0).a x y then [⟨ov (low l m) (l.getD m du0).a x y,(l.getD m du0).b,ov (low l m) (l.getD m du0).a x y*(l.getD m du0).b⟩] else []))
open Go.Shelf
attribute [local go_sem] Oper.semAt_some
theorem boxed_same{W W':World}{B:Nat}{t:TypeId}{v:Value}(h:Boxed W B t v)(e:W'.heap[B]?=W.heap[B]?):Boxed W' B t v:=e.trans h
theorem lines1_in(F:Fence)(n:Nat)(hF:F.fn 147)(hro:F.round=none)(hn:1≤n)(l Bf Bt Bu n₀ lo hi b off len cap B0:Nat)(ls:List Du)(x u:Int)(J Jx:List Ln→World→Prop)
  (hR:Right ls) (hlen:ls.length=len) (hx:0≤x∧x≤10000000) (hu:0≤u∧x+u≤10000000) (hJ:AbidesFrom B0 J)
  (hY:∀ pre t W,J pre W→pre.length<len→YieldAt F (n - 1) Tryz.prog l (encL t) W fun e W'=>
   (e = .returned (.bool true)∧J (pre++[t]) W'∧Kq n₀ lo hi W W')∨(e = .returned (.bool false)∧Jx (pre++[t]) W'))
  (W:World) (hf:Boxed W Bf 3 (zI x)) (ht:Boxed W Bt 22 (.slice (some ⟨b,off,none⟩) len cap)) (hun:Boxed W Bu 3 (zI u)) (h1:lo≤Bf∧Bf<hi) (h2:lo≤Bu∧Bu<hi) (hb:b<n₀) (hnW:n₀≤W.heap.size)
  (hc:∀i,i<len→W.cell? ⟨b,off+i*2,none⟩=some (zI (ls.getD i du0).a)∧W.cell? ⟨b,off+i*2+1,none⟩=some (zI (ls.getD i du0).b)) (h0:J [] W):
  CallsIn F n Tryz.prog 147 #[.func (.yield l) #[] #[],.pointer (some ⟨Bf,0,none⟩),.pointer (some ⟨Bt,0,none⟩),.pointer (some ⟨Bu,0,none⟩)] W λe W'=>(∃v,e=.returned v) ∧
   ((∃ys,lns ys=billK ls x (x+u) len∧J ys W')∨(∃pre,lns pre <+: billK ls x (x+u) len∧Jx pre W')):=by
 have A:Hid (Right ls):=hR
 have HY:Hid (∀ pre t W,J pre W→pre.length<len→YieldAt F (n - 1) Tryz.prog l (encL t) W fun e W'=>
   (e = .returned (.bool true)∧J (pre++[t]) W'∧Kq n₀ lo hi W W')∨(e = .returned (.bool false)∧Jx (pre++[t]) W')):=hY
 have HJ:Hid (AbidesFrom B0 J):=hJ;have HC:Hid (∀i,i<len→W.cell? ⟨b,off+i*2,none⟩=some (zI (ls.getD i du0).a)∧W.cell? ⟨b,off+i*2+1,none⟩=some (zI (ls.getD i du0).b)):=hc;have O:Hid (ls.length=len):=hlen;have al:len≤8:=by have:=hR.1.2;omega
 have ct:=ht.cell;have cf:=hf.cell;obtain⟨q,ap⟩:=hx;obtain⟨ao,ad⟩:=hu;have HX:Hid (0≤x∧x≤x+u∧x+u≤10000000):=⟨q,by omega,ad⟩
 clear hR hY hJ hc hlen;refine callsIn_of_wp Tryz.func147 rfl hF ?_ hro;simp only[Tryz.ntmps147,List.size_toArray,List.length_cons,List.length_nil,Nat.reduceAdd,Nat.reduceSub,Array.replicate_succ,Array.replicate_zero,List.push_toArray,List.append_toArray,List.nil_append,List.cons_append]
 gi_wp2
 gi_loopw [5,12] (λr i wr=>∃(k:Nat)(pre:List Ln),k≤len∧i=zI (k:Int)∧r=zI (x+manyK ls x (x+u) k)∧lns pre=billK ls x (x+u) k∧J pre wr∧Boxed wr Bf 3 (zI x)∧Boxed wr Bu 3 (zI u)∧Below n₀ W wr) (λ_ i _=>len-(intOf i).toNat)
 case atStart=>exact⟨0,[],Nat.zero_le _,rfl,by show _=Value.int .i64 (x+0);rw[Int.add_zero],rfl,h0,hf,hun,zb⟩
 case round=>
  obtain⟨k,pre,hk,rfl,rfl,D,hj,g,h,d⟩:=hrel;have f:Hid (lns pre=billK ls x (x+u) k):=D;have N:Hid (J pre wr):=hj;have ai:Hid (Boxed wr Bf 3 (zI x)):=g;have ak:Hid (Boxed wr Bu 3 (zI u)):=h;have aj:Hid (Below n₀ W wr):=d;clear D hj hf hun ht ct cf;by_cases E:k<len
  ·have a6:decide ((k:Int)<(len:Int))=true:=by simp;omega
   have c0:wr.cell? ⟨b,off+k*2,none⟩=some (zI (ls.getD k du0).a):=(d.cell (p:=⟨b,off+k*2,none⟩) hb).trans (HC.o k E).1;have c1:wr.cell? ⟨b,off+k*2+1,none⟩=some (zI (ls.getD k du0).b):=(d.cell (p:=⟨b,off+k*2+1,none⟩) hb).trans (HC.o k E).2;have j:k<ls.length:=by rw[O.o];exact E
   have z:=A.o.price k j;have H:=A.o.upto k j;have T:=many_bd A.o x (x+u) q (by omega) k (by omega);have ae:=run_min (ls.getD k du0).a (x+u) _ rfl
   have ac:pre.length<len:=by
    have e1:=lns_len pre;have e2:=bill_len ls x (x+u) k;rw[f.o] at e1;omega
   have K:Hid (∀o,Below n₀ W (wr.alloc o)):=λo=>d.alloc (Nat.le_trans hnW d.size) o;have cf:∀o,(wr.alloc o).cell? ⟨Bf,0,none⟩=some (zI x):=λo=>(g.alloc o).cell;have cu:∀o,(wr.alloc o).cell? ⟨Bu,0,none⟩=some (zI u):=λo=>(h.alloc o).cell;have L:Hid (∀o,Boxed (wr.alloc o) Bf 3 (zI x)):=λo=>g.alloc o;have Q:Hid (∀o,Boxed (wr.alloc o) Bu 3 (zI u)):=λo=>h.alloc o;have M:Hid (∀o,J pre (wr.alloc o)):=λo=>HJ.o pre wr _ none N.o (World.grownBy_alloc wr o none) (λr e=>by cases e);clear g h d;by_cases U:0<min (ls.getD k du0).a (x+u)-(x+manyK ls x (x+u) k)
   ·have I:=nxt_yes A.o x (x+u) q (by omega) k j U;have y:=U;rw[I] at y;have c:=line_ok A.o x (x+u) k j y;have HN:Hid (billK ls x (x+u) (k+1)=billK ls x (x+u) k++[⟨ov (low ls k) (ls.getD k du0).a x (x+u),(ls.getD k du0).b,ov (low ls k) (ls.getD k du0).a x (x+u)*(ls.getD k du0).b⟩]):=billK_yes ls x (x+u) k y;have Y:Hid (manyK ls x (x+u) (k+1)=manyK ls x (x+u) k+ov (low ls k) (ls.getD k du0).a x (x+u)):=many_next ls x (x+u) k;have S:=many_bd A.o x (x+u) q (by omega) (k+1) (by omega);rw[Y.o] at S;have a8:=ov_le (low ls k) (ls.getD k du0).a x (x+u) (A.o.low_pos k (by omega)) H.2;have G:=prod_bd (Int.le_of_lt y) a8 z.1 z.2;generalize ov (low ls k) (ls.getD k du0).a x (x+u)=o at *;generalize manyK ls x (x+u) k=mk at *;generalize (ls.getD k du0).a=up at *;generalize (ls.getD k du0).b=p at *;generalize min up (x+u)=m at *;have hm:m-(x+mk)=o:=I;have a7:decide (o≤0)=false:=by simp;omega
    have HQ:Hid (∀ C,YieldAt F (n - 1) Tryz.prog l (encL ⟨⟨o,p,o*p⟩,c⟩) (wr.alloc C) fun e W'=>
     (e = .returned (.bool true)∧J (pre++[⟨⟨o,p,o*p⟩,c⟩]) W'∧Kq n₀ lo hi (wr.alloc C) W')∨(e = .returned (.bool false)∧Jx (pre++[⟨⟨o,p,o*p⟩,c⟩]) W')):=fun C=>HY.o pre ⟨⟨o,p,o*p⟩,c⟩ _ (M.o C) ac
    obtain⟨fn,ah,Z,body,hy,a5⟩:=HQ.o (.cells #[zI up,zI p] 214)
    have P:Hid (lns (pre++[⟨⟨o,p,o*p⟩,c⟩])=billK ls x (x+u) (k+1)):=by
     show _=_;rw[lns_app,f.o,HN.o];rfl
    have af:=G.1;have ag:=G.2;have V:0≤x+mk:=by omega
    have X:x+mk≤10000000:=by omega
    have a9:0≤m:=by omega
    have aa:m≤20000000:=by omega
    have an:x+mk+o≤10000000:=by omega
    have am:0≤o:=by omega
    simp only[encL] at hy;clear I U T S G z H
    gi_wp2
    refine a5.mono ?_;rintro e W3 (⟨rfl,R,s⟩|⟨rfl,B⟩)
    ·have a0:Hid (Below n₀ W W3):=(K.o _).trans s.1;have a1:Hid (Boxed W3 Bf 3 (zI x)):=boxed_same (L.o _) (s.2 Bf h1.1 h1.2);have a4:Hid (Boxed W3 Bu 3 (zI u)):=boxed_same (Q.o _) (s.2 Bu h2.1 h2.2);have a2:Hid (J (pre++[⟨⟨o,p,o*p⟩,c⟩]) W3):=R;clear s R
     gi_wp2
     go_roundw
     case rel=>exact⟨k+1,pre++[⟨⟨o,p,o*p⟩,c⟩],by omega,by go_num,by rw[Y.o,Int.add_assoc],P.o,a2.o,a1.o,a4.o,a0.o⟩
     case measure=>simp[intOf];omega
    ·have a3:Hid (Jx (pre++[⟨⟨o,p,o*p⟩,c⟩]) W3):=B;clear B
     gi_wp2
     refine bodyPost_ret (results_none rfl _ _ _) rfl ?_;exact⟨⟨_,rfl⟩,.inr ⟨pre++[⟨⟨o,p,o*p⟩,c⟩],by rw[P.o];exact bill_prefix ls x (x+u) (k+1) len (by omega),a3.o⟩⟩
   ·have I:=nxt_no A.o x (x+u) q (by omega) k j U;have ab:0≤min (ls.getD k du0).a (x+u):=by omega
    have HN:Hid (billK ls x (x+u) (k+1)=billK ls x (x+u) k):=billK_no ls x (x+u) k (by omega);have Y:Hid (manyK ls x (x+u) (k+1)=manyK ls x (x+u) k):=by show _=_;rw[many_next,I,Int.add_zero]
    generalize manyK ls x (x+u) k=mk at *;generalize (ls.getD k du0).a=up at *;generalize (ls.getD k du0).b=p at *;generalize min up (x+u)=m at *;have V:0≤x+mk:=by omega
    have X:x+mk≤10000000:=by omega
    have a7:decide (m-(x+mk)≤0)=true:=by simp;omega
    have a9:0≤m:=ab;have aa:m≤20000000:=by omega
    clear I U T z H
    gi_wp2
    go_roundw
    case rel=>exact⟨k+1,pre,by omega,by go_num,by rw[Y.o],by rw[HN.o];exact f.o,M.o _,L.o _,Q.o _,K.o _⟩
    case measure=>simp[intOf];omega
  ·obtain rfl:k=len:=by omega
   have a6:decide ((k:Int)<(k:Int))=false:=by simp
   clear g h d
   gi_wp2
   go_end0;exact⟨⟨_,rfl⟩,.inl ⟨pre,f.o,N.o⟩⟩
end tar
namespace words
def nv:List Nat→Nat
 |[]=>0
 |x::l=>x+4294967296*nv l
def digF:Nat→Nat→List Nat
 |0,_=>[]
 |k+1,m=>if m=0 then [] else (m%4294967296)::digF k (m/4294967296)
def dig(m:Nat):List Nat:=digF m m
theorem digF_same:∀(k j m:Nat),m≤k→m≤j→digF k m=digF j m:=by
 intro k
 induction k with
 |zero=>
  intro j m b c;have:m=0:=by omega
  subst this;cases j with
  |zero=>rfl
  |succ j=>simp[digF]
 |succ k ih=>
  intro j m b c;by_cases a:m=0
  ·subst a;cases j with
   |zero=>simp[digF]
   |succ j=>simp[digF]
  ·obtain⟨j',rfl⟩:∃j',j=j'+1:=⟨j-1,by omega⟩
   rw[digF,digF,if_neg a,if_neg a,ih j' (m/4294967296) (by omega) (by omega)]
theorem dig_zero:dig 0=[]:=rfl
theorem dig_pos{m:Nat}(h:m≠0):dig m=(m%4294967296)::dig (m/4294967296):=by
 obtain⟨k,rfl⟩:∃k,m=k+1:=⟨m-1,by omega⟩
 unfold dig;rw[digF,if_neg h,digF_same k _ _ (by omega) zc]
theorem nv_dig(m:Nat):nv (dig m)=m:=by
 induction m using Nat.strongRecOn with
 |_ m ih=>
  by_cases h:m=0
  ·subst h;rw[dig_zero];rfl
  ·rw[dig_pos h,nv,ih (m/4294967296) (by omega)];omega
theorem dig_lt(m:Nat):∀x∈dig m,x<4294967296:=by
 induction m using Nat.strongRecOn with
 |_ m ih=>
  by_cases h:m=0
  ·subst h;rw[dig_zero];intro x a;cases a
  ·rw[dig_pos h];intro x a;rcases List.mem_cons.1 a with rfl|a
   ·omega
   ·exact ih (m/4294967296) (by omega) x a
theorem dig_nil{m:Nat}(h:dig m=[]):m=0:=by
 by_cases a:m=0
 ·exact a
 ·rw[dig_pos a] at h;cases h
theorem getD_cons_succ(x:Nat)(r:List Nat)(i:Nat):(x::r).getD (i+1) 0=r.getD i 0:=by simp[List.getD]
theorem trim_dig:∀(l:List Nat)(n:Nat),(∀x∈l,x<4294967296)→n≤l.length→(∀i,n≤i→i<l.length→l.getD i 0=0)→(n=0∨l.getD (n-1) 0≠0)→l.take n=dig (nv l)
 |[],n,_,hn,_,_=>by
  have:n=0:=by simpa using hn
  subst this;rw[nv,dig_zero];rfl
 |x::r,0,hlt,_,hz,_=>by
  have g:x=0:=by simpa using hz 0 zc (by simp)
  have a:=trim_dig r 0 (fun y f=>hlt y (List.mem_cons_of_mem _ f)) (Nat.zero_le _) (fun i _ m=>by
   have:=hz (i+1) (Nat.zero_le _) (by simp;omega)
   rwa [getD_cons_succ] at this) (.inl rfl)
  have b:nv r=0:=dig_nil (by rw[← a];rfl);rw[nv,g,b,dig_zero];rfl
 |x::r,k+1,hlt,hn,hz,hne=>by
  have g:=hlt x (List.mem_cons_self ..)
  have a:=trim_dig r k (fun y f=>hlt y (List.mem_cons_of_mem _ f)) (by simp at hn;omega) (fun i m o=>by
   have:=hz (i+1) (by omega) (by simp;omega)
   rwa [getD_cons_succ] at this) (by
   by_cases c:k=0
   ·exact .inl c
   ·right;rcases hne with h|h
    ·omega
    ·have e:k+1-1=(k-1)+1:=by omega
     rw[e,getD_cons_succ] at h
     exact h)
  have d:nv (x::r)≠0:=by
   intro b;rw[nv] at b;rcases hne with h|h
   ·omega
   ·by_cases c:k=0
    ·subst c;simp at h;omega
    ·have j:nv r=0:=by omega
     rw[j,dig_zero] at a
     have p:r.length=0∨k=0:=by
      have:=congrArg List.length a;simp only[List.length_take,List.length_nil] at this;omega
     simp at hn;omega
  rw[List.take_succ_cons,a,dig_pos d]
  congr 1
  ·rw[nv];omega
  ·congr 1;rw[nv];omega
theorem dig_len{m:Nat}:∀k:Nat,m<4294967296^k→(dig m).length≤k:=by
 intro k
 induction k generalizing m with
 |zero=>
  intro h;have:m=0:=by simpa using h
  subst this;rw[dig_zero];simp
 |succ k ih=>
  intro h;by_cases a:m=0
  ·subst a;rw[dig_zero];simp
  ·rw[dig_pos a];have:=ih (m:=m/4294967296) (by rw[Nat.pow_succ] at h;exact Nat.div_lt_of_lt_mul (by rw[Nat.mul_comm];exact h));simp;omega
end words
end Go.Proofs.YtoepgdhiepedeaaGreatDoor
