import Derived.Test.YtoepgdhiepedeaaGreatDoorVVSls11
import Derived.Test.YtoepgdhiepedeaaGreatDoorVVSls13
import Derived.Test.YtoepgdhiepedeaaGreatDoorVVSls14
import Derived.Test.YtoepgdhiepedeaaGreatDoorVVSls16
import Derived.Test.YtoepgdhiepedeaaGreatDoorVVSls17
set_option linter.unusedVariables false
set_option linter.unusedSimpArgs false
set_option maxHeartbeats 4000000
set_option maxRecDepth 100000
namespace Go.Proofs.YtoepgdhiepedeaaGreatDoor
namespace vnd
open book (Ev ev0 Cm cm0 So so0 Sees)
open acc (Ac Tm Bi)
open ora (Pr)
open cell (Wr RowU)
open rcp (Rc rc0)
open Go.RowKit
def LoadPost(w:World)(t:Tm)(c:List Int)(e:Ending)(w':World):Prop:=∃p m cap xs bk f,e=.returned (.tuple #[.agg #[.slice p m cap],zI f])∧LoadIs t c bk f∧Sees w' p m xs bk∧m≤120∧zB w w'
structure Dk (w:World) (a:Option Addr) (n cap:Nat) (c:List Int):Prop where
 row:RowU w a n c
 nil:a=none→cap=0
 room:n≤cap
 bytes:n*4≤140737488351232
 wd:∀x∈c,0≤x∧x<4294967296
theorem Dk.below{w w':World}{a:Option Addr}{n cap:Nat}{c:List Int}(h:Dk w a n cap c)(hb:zB w w'):Dk w' a n cap c:=⟨h.row.below hb,h.nil,h.room,h.bytes,h.wd⟩
end vnd
namespace book
open Go.RowKit
def cellsE:List Ev→List Value
 |[]=>[]
 |x::l=>x.cl++cellsE l
theorem cellsE_len(l:List Ev):(cellsE l).length=l.length*13:=by
 induction l with
 |nil=>rfl
 |cons e l ih=>rw[cellsE,List.length_append,ih,List.length_cons];show 13+_=_;omega
theorem oneE(l:List Ev):∀u∈cellsE l,u.oneCell'=true:=by
 induction l with
 |nil=>intro u a;cases a
 |cons e l ih=>
  intro u a;rw[cellsE] at a;rcases List.mem_append.1 a with a|a
  ·simp only[Ev.cl,List.mem_cons,List.not_mem_nil,or_false] at a;rcases a with rfl|rfl|rfl|rfl|rfl|rfl|rfl|rfl|rfl|rfl|rfl|rfl|rfl<;>rfl
  ·exact ih u a
theorem cellsE_at(l:List Ev)(k j:Nat)(hk:k<l.length)(hj:j<13):(cellsE l)[k*13+j]?=(l.getD k ev0).cl[j]?:=by
 induction l generalizing k with
 |nil=>simp at hk
 |cons x l ih=>
  have a:x.cl.length=13:=rfl;cases k with
  |zero=>rw[Nat.zero_mul,Nat.zero_add,cellsE,List.getElem?_append_left (by omega)];rfl
  |succ k=>
   rw[show (k+1)*13+j=x.cl.length+(k*13+j) by omega,cellsE,List.getElem?_append_right (by omega),Nat.add_sub_cancel_left];exact ih k (by simpa using hk)
structure ECame (w:World) (a:Option Addr) (n cap:Nat) (l:List Ev):Prop where
 row:RowE w a n l
 nil:a=none→cap=0
 room:n≤cap
 bytes:n*104≤140737488351232
 wf:∀v∈l,wf13 v
theorem evI:(Tryz.prog.info? 44).map (λi=>(i.zero,i.size,i.bytes))=some (some (.agg ev0.cl.toArray),13,104):=by kernel_rfl
open acc (Ac Tm Bi APost BPost OweIs SellIs GrantIs RekeyIs)
def cuA(a:Ac)(dp:Option Addr)(dn dc:Nat)(sp:Option Addr)(sn sc:Nat):Cu:=⟨a.me,a.rv,a.nx,a.mo,a.bo,a.fr,dp,dn,dc,sp,sn,sc⟩
theorem cuA_num(a:Ac)(dp:Option Addr)(dn dc:Nat)(sp:Option Addr)(sn sc:Nat):Nums (cuA a dp dn dc sp sn sc) a:=⟨rfl,rfl,rfl,rfl,rfl,rfl⟩
def HapPost(w:World)(base:Nat)(t:Tm)(x:Cu)(c:Cm)(v:Ev)(e:Ending)(w':World):Prop:=∃x' c' f,e=.returned (.tuple #[Cu.v x',zI f])∧HapIs t c v c' f∧(f=0→Turned w w' base x x' c')∧w.grownBy w' x.sold.ownBlock
theorem grown_of{w w':World}(h:zB w w')(own:Option Nat):w.grownBy w' own:=⟨h.os,h.tape,h.output,h.size,λk a _=>h.block k a⟩
theorem acc_upd{w W:World}{g:Nat}{cs:Array Value}{ty:TypeId}{a:Option Addr}{n cap:Nat}{zs:List tar.Du}(h:tar.Came w a n cap zs)(hU:Upd w W g cs ty)(hne:0<n→∀x,a=some x→x.block≠g):tar.Came W a n cap zs:=by
 refine⟨⟨h.row.1,?_⟩,h.nil,h.room,h.bytes,h.wf⟩;rcases h.row.2 with e|⟨b,c,rfl,j⟩
 ·exact .inl e
 ·refine .inr ⟨b,c,rfl,λi k=>?_⟩;have f:=j i k;have d:b≠g:=hne (by omega) ⟨b,c,none⟩ rfl;rw[hU.cell ⟨b,c+i*2,none⟩ d rfl,hU.cell ⟨b,c+i*2+1,none⟩ d rfl];exact f
theorem drew_fresh{w:World}{base:Nat}{a:Option Addr}{n cap:Nat}{zs:List tar.Du}(h:deb.Fresh w base a n cap zs):deb.Fresh w.drew base a n cap zs:=h.below zb.drew
theorem bill_ne{l:Bi}{v:Ev}(h:l≠billOf v):¬ (l.id=v.id∧l.te=v.te∧l.de=v.de∧l.fe=v.fe∧l.pr=v.pr∧l.ch=v.ch∧l.un=v.un):=λ⟨h1,h2,h3,h4,h5,h6,h7⟩=>h (by
 cases l;unfold billOf;simp only at h1 h2 h3 h4 h5 h6 h7
 rw [h1,h2,h3,h4,h5,h6,h7])
theorem lo_upd{w W:World}{base g:Nat}{cs:Array Value}{t:TypeId}{v:Value}{l:List So}(h:Lo w base v l)(hU:Upd w W g cs t)(hg:∀k,v.ownBlock=some k→k≠g):Lo W base v l:=by
 refine⟨h.1,?_⟩;rcases h.2 with i|⟨c,a,b,d,e,f,rest⟩
 ·exact .inl i
 ·exact .inr ⟨c,a,b,d,e,by rw[hU.oth c (hg c (by rw[d];rfl))];exact f,rest⟩
theorem grown_upd{w w9 W:World}{g:Nat}{cs:Array Value}{t:TypeId}{own:Option Nat}(h:w.grownBy w9 own)(hU:Upd w9 W g cs t)(hg:w.heap.size≤g):w.grownBy W own:=by
 have a:=hU.bel w.heap.size w9 hg zb;exact⟨a.os.trans h.os,a.tape.trans h.tape,a.output.trans h.output,Nat.le_trans h.size (by rw[hU.size];exact zc),λk c b=>by rw[hU.oth k (by omega)];exact h.block k c b⟩
end book
namespace vnd
open cell (Wr RowU RowW)
open Go.RowKit
def WrGot(w:World)(R:List Wr→Int→Prop)(e:Ending)(w':World):Prop:=∃p m cp ls f,e=.returned (.tuple #[.slice p m cp,zI f])∧R ls f∧RowW w' p m ls∧(∀x,p=some x→w.heap.size≤x.block)∧m≤cp∧m≤100000∧zB w w'
end vnd
namespace rcp
open Go.RowKit
def Rc.cs(r:Rc):Array Value:=#[zI r.me,zI r.id,zI r.te,zI r.de,zI r.fe,zI r.pr,zI r.ch,zI r.un,.string ⟨r.tk.toArray⟩]
def Rc.v(r:Rc):Value:=.agg r.cs
end rcp
namespace acc
open tar (Du du0 Came RowD Ld PairT)
open Go.RowKit
theorem rowes(x:Ac)(p:Option Addr)(len cap:Nat)(q:Du)(w:World)(h:RowD w p len x.ds)(hl:len≤maxLen):Calls Tryz.prog 133 #[.agg #[zI x.me,zI x.rv,zI x.nx,zI x.mo,zI x.bo,zI x.fr,.slice p len cap],.agg #[zI q.a,zI q.b]] w λe w'=>APost w (OweIs x q) e w':=by
 have E:=h.1;have B:Hid (∀W,zC 47 #[zI q.a,zI 1,zI 1000000000] W λe w'=>e=.returned (.bool (decide (1≤q.a∧q.a≤1000000000)))∧w'=W):=λW=>cal.cin q.a 1 1000000000 W;have G:Hid (∀W,zC 47 #[zI q.b,zI 0,zI 10000] W λe w'=>e=.returned (.bool (decide (0≤q.b∧q.b≤10000)))∧w'=W):=λW=>cal.cin q.b 0 10000 W;by_cases S:AMay x
 ·have V:=zh S;have a3:=S.1;have aM:len≤8:=by have:=S.1.1;omega
  obtain⟨P,O,J,K,L,u,aA⟩:=sh3 w #[zI x.me,zI x.rv,zI x.nx,zI x.mo,zI x.bo,zI x.fr,.slice p len cap] 55 #[zI q.a,zI q.b] 42 #[zI 0,zI 0,zI 0,zI 0,zI 0,zI 0,zS] 55;have y:=zh (h.below u.o);go_enter Tryz.func133,Tryz.ntmps133;go_upto_region 1 with fail
  rw[O.o];have N:Hid (zC 44 #[.agg #[zI x.me,zI x.rv,zI x.nx,zI x.mo,zI x.bo,zI x.fr,.slice p len cap]] P λe w'=>e=.returned (.bool true)∧zB P w'):=ramay x p len cap _ y.o hl S;go_wp2_with refine zw ?_;refine N.o.mono ?_;rintro e F ⟨rfl,i⟩;obtain⟨m,g,X⟩:=zn3 i J K L;have M:=zh (y.o.below i);have s:=shB u i;have a6:=i.size;clear i;clear S;by_cases Q:1≤q.a∧q.a≤1000000000
  ·rw[decide_eq_true Q] at B;by_cases R:0≤q.b∧q.b≤10000
   ·rw[decide_eq_true R] at G;have T:=zy0 g;have a8:=zy1 g;go_wp2_with fail;refine(B.o _).mono ?_;rintro e I ⟨rfl,l⟩;obtain rfl:F=I:=l.symm;go_wp2_with fail;refine(G.o _).mono ?_;rintro e I ⟨rfl,l⟩;obtain rfl:F=I:=l.symm;clear T a8;by_cases h3:len<8
    ·have d3:decide (8≤(len:Int))=false:=decide_eq_false (by omega);have d4:decide (8≤len)=false:=decide_eq_false (by omega);have av:=zh (rcopyL x p len cap F M.o a3)
     have ax:Hid (deb.Mays (x.ds++[q])):=⟨by rw [List.length_append,E];show len+1≤8;omega,deb.fits_mem fun d hd=>by
      rcases List.mem_append.1 hd with hd|hd
      ·exact deb.mem_fits a3.2 d hd
      ·have e2:=List.mem_singleton.1 hd;subst e2
       exact ⟨⟨by omega,Q.2⟩,R⟩⟩
     have aC:x.ds.length≤1000000:=by omega
     have ay:Hid (OweIs x q ⟨x.me,x.rv,x.nx,x.mo,x.bo,x.fr,x.ds++[q]⟩ 0):=.inr (.inr (.inr ⟨V.o,⟨Q,R⟩,by rw[E];exact h3,rfl,rfl⟩));have a7:=zy6 m;go_wp2_with refine zw ?_;refine av.o.mono ?_;rintro e w3 ⟨t,c,rfl,az,a5,D⟩;obtain⟨z,A,k⟩:=zn3 D m g X;have aH:=zh (M.o.below D);have j:=shB s D;have aF:=D.size;clear D;clear a7;unfold Ac.v Ac.cs;have a0:=zh a5;clear az a5;have aw:Hid (Ld 42 (w3.alloc (.cells #[zI x.me,zI x.rv,zI x.nx,zI x.mo,zI x.bo,zI x.fr,.slice t len c] 55)) F.heap.size (.slice t len c) x.ds):=a0.o.alloc _;have aa:=zya z (.cells #[zI x.me,zI x.rv,zI x.nx,zI x.mo,zI x.bo,zI x.fr,.slice t len c] 55);have ab:=zya A (.cells #[zI x.me,zI x.rv,zI x.nx,zI x.mo,zI x.bo,zI x.fr,.slice t len c] 55);have ac:=zya k (.cells #[zI x.me,zI x.rv,zI x.nx,zI x.mo,zI x.bo,zI x.fr,.slice t len c] 55);have Y:=zye w3 #[zI x.me,zI x.rv,zI x.nx,zI x.mo,zI x.bo,zI x.fr,.slice t len c] 55;have a9:=zyf j (.cells #[zI x.me,zI x.rv,zI x.nx,zI x.mo,zI x.bo,zI x.fr,.slice t len c] 55);have aE:=(Blk.new w3 #[zI x.me,zI x.rv,zI x.nx,zI x.mo,zI x.bo,zI x.fr,.slice t len c] 55).lt;go_upto_region 8 with fail
     generalize (w3.alloc (.cells #[zI x.me,zI x.rv,zI x.nx,zI x.mo,zI x.bo,zI x.fr,.slice t len c] 55))=H at *;have C:Hid (Ld 42 (H.alloc (.cells #[zI q.a,zI q.b] 42)) F.heap.size (.slice t len c) x.ds):=aw.o.alloc _;have ar:=zyf a9 (.cells #[zI q.a,zI q.b] 42);have aN:=(Blk.new H #[zI q.a,zI q.b] 42).lt;have au:Hid ((H.alloc (.cells #[zI q.a,zI q.b] 42)).cell? ⟨H.heap.size,0,none⟩=some (zI q.a)∧(H.alloc (.cells #[zI q.a,zI q.b] 42)).cell? ⟨H.heap.size,1,none⟩=some (zI q.b)):=⟨(Blk.new H _ _).cell 0,(Blk.new H _ _).cell 1⟩
     have an:=zya aa (.cells #[zI q.a,zI q.b] 42);have ao:=zya ab (.cells #[zI q.a,zI q.b] 42);have aq:=zya ac (.cells #[zI q.a,zI q.b] 42);have ap:=zya Y (.cells #[zI q.a,zI q.b] 42);have aD:=zy6 Y;go_wp2_with (first|(at_builtin;refine tar.wp_pair deb.debtT rfl _ _ rfl F.heap.size H.heap.size (.slice t len c) x.ds q rfl rfl C.o au.o aC (by omega) ?_)|refine zw ?_)
     intro v5 w5 h5 n;have af:=zh (grown_blk an.o n (tar.own_far C.o (by omega)));have ag:=zh (grown_blk ao.o n (tar.own_far C.o (by omega)));have Z:=zh (grown_blk aq.o n (tar.own_far C.o (by omega)));have ah:Hid (Blk w5 (w3.heap.size) #[zI x.me,zI x.rv,zI x.nx,zI x.mo,zI x.bo,zI x.fr,.slice t len c] 55):=grown_blk ap.o n (λe=>by have:=(World.ownsRow.lt a0.o _ e.symm).2;omega);have ad:=zh (tar.own_bel C.o n ar.o (by omega) (by omega));have aG:=n.size;obtain⟨p5,c5,aB,a4⟩:=deb.ld_fresh h5 ax.o;subst aB;have a1:=zh (ld_ne h5 ah.o (by decide));have a2:=zh (ld_ne h5 Z.o (by decide));have ae:=zh a4;clear h5 n a4;clear aD;generalize (x.ds++[q]).length=n5 at *;go_wp2_with (first|refine zm ?_|refine zw ?_)
     intro W6 f;obtain⟨aI,aJ,aL⟩:=zk3 f af ag Z;have ai:=zk f ad;have aK:=zyb f;have aj:=zh (fresh_updN ae.o f a1.o);clear f;go_wp2_with (first|refine zs ?_|refine zw ?_)
     intro W7 f;have am:=zyb f;have ak:=zk f ai;have al:=zh (fresh_updN aj.o f a2.o);clear f;go_wp2_with fail;exact zr (.tuple #[.agg #[zI x.me,zI x.rv,zI x.nx,zI x.mo,zI x.bo,zI x.fr,.slice p5 n5 c5],zI 0]) (by simp[results,Tryz.results133,scl7 am,go_sem]) ⟨⟨x.me,x.rv,x.nx,x.mo,x.bo,x.fr,x.ds++[q]⟩,p5,n5,c5,_,rfl,ay.o,al.o.low (by omega),ak.o⟩
    ·have d3:decide (8≤(len:Int))=true:=decide_eq_true (by omega);have d4:decide (8≤len)=true:=decide_eq_true (by omega);have HV:Hid (OweIs x q ac0 16):=.inr (.inr (.inl ⟨V.o,⟨Q,R⟩,by rw[E];exact h3,rfl,rfl⟩));clear h3;have a7:=zy6 m;go_wp2_with (first|refine zs ?_|refine zw ?_)
     intro U f;obtain⟨z,A⟩:=zk2 f m g;have j:=zk f s;have k:=zyb f;have r:=f.size;clear f;go_wp2_with fail;exact zr (.tuple #[.agg #[zI 0,zI 0,zI 0,zI 0,zI 0,zI 0,zS],zI 16]) (by simp[results,Tryz.results133,scl7 k,go_sem]) ⟨ac0,none,0,0,_,rfl,HV.o,deb.fresh_nil _ _,j.o⟩
   ·rw[decide_eq_false R] at G;have HV:Hid (OweIs x q ac0 2):=.inr (.inl ⟨V.o,λhh=>R hh.2,rfl,rfl⟩);clear R;have T:=zy0 g;have a8:=zy1 g;go_wp2_with fail;refine(B.o _).mono ?_;rintro e I ⟨rfl,l⟩;obtain rfl:F=I:=l.symm;go_wp2_with fail;refine(G.o _).mono ?_;rintro e I ⟨rfl,l⟩;obtain rfl:F=I:=l.symm;go_wp2_with (first|refine zs ?_|refine zw ?_)
    intro U f;obtain⟨z,A⟩:=zk2 f m g;have j:=zk f s;have k:=zyb f;have r:=f.size;clear f;go_wp2_with fail;exact zr (.tuple #[.agg #[zI 0,zI 0,zI 0,zI 0,zI 0,zI 0,zS],zI 2]) (by simp[results,Tryz.results133,scl7 k,go_sem]) ⟨ac0,none,0,0,_,rfl,HV.o,deb.fresh_nil _ _,j.o⟩
  ·rw[decide_eq_false Q] at B;have HV:Hid (OweIs x q ac0 2):=.inr (.inl ⟨V.o,λhh=>Q hh.1,rfl,rfl⟩);clear Q;have T:=zy0 g;go_wp2_with fail;refine(B.o _).mono ?_;rintro e I ⟨rfl,l⟩;obtain rfl:F=I:=l.symm;go_wp2_with refine zs ?_;intro U f;obtain⟨z,A⟩:=zk2 f m g;have j:=zk f s;have k:=zyb f;have r:=f.size;clear f;go_wp2_with fail;exact zr (.tuple #[.agg #[zI 0,zI 0,zI 0,zI 0,zI 0,zI 0,zS],zI 2]) (by simp[results,Tryz.results133,scl7 k,go_sem]) ⟨ac0,none,0,0,_,rfl,HV.o,deb.fresh_nil _ _,j.o⟩
 ·have V:=zh S;obtain⟨P,O,J,K,L,u,aA⟩:=sh3 w #[zI x.me,zI x.rv,zI x.nx,zI x.mo,zI x.bo,zI x.fr,.slice p len cap] 55 #[zI q.a,zI q.b] 42 #[zI 0,zI 0,zI 0,zI 0,zI 0,zI 0,zS] 55;have y:=zh (h.below u.o);go_enter Tryz.func133,Tryz.ntmps133;go_upto_region 1 with fail
  rw[O.o];have N:Hid (zC 44 #[.agg #[zI x.me,zI x.rv,zI x.nx,zI x.mo,zI x.bo,zI x.fr,.slice p len cap]] P λe w'=>e=.returned (.bool false)∧zB P w'):=ranot x p len cap _ y.o hl S;go_wp2_with refine zw ?_;refine N.o.mono ?_;rintro e F ⟨rfl,i⟩;obtain⟨m,g,X⟩:=zn3 i J K L;have M:=zh (y.o.below i);have s:=shB u i;have a6:=i.size;clear i;go_wp2_with (first|refine zs ?_|refine zw ?_)
  intro U f;obtain⟨z,A⟩:=zk2 f m g;have j:=zk f s;have k:=zyb f;have r:=f.size;clear f;go_wp2_with fail;exact zr (.tuple #[.agg #[zI 0,zI 0,zI 0,zI 0,zI 0,zI 0,zS],zI 5]) (by simp[results,Tryz.results133,scl7 k,go_sem]) ⟨ac0,none,0,0,_,rfl,.inl ⟨V.o,rfl,rfl⟩,deb.fresh_nil _ _,j.o⟩
theorem ropen(m:Int)(w:World):Calls Tryz.prog 84 #[zI m] w λe w'=>APost w (OpenIs m) e w':=by
 have b:Hid (∀W,zC 47 #[zI m,zI 0,zI 49] W λe w'=>e=.returned (.bool (decide (0≤m∧m≤49)))∧w'=W):=λW=>cal.cin m 0 49 W;have j:=zye w #[zI 0,zI 0,zI 0,zI 0,zI 0,zI 0,zS] 55;have h:Hid (zB w (w.alloc (.cells #[zI 0,zI 0,zI 0,zI 0,zI 0,zI 0,zS] 55))):=(Below.refl w.heap.size w).alloc (by simp) _;by_cases g:0≤m∧m≤49
 ·rw[decide_eq_true g] at b;have i:=zh g;clear g;go_enter Tryz.func84,Tryz.ntmps84;go_wp2_with fail;refine(b.o _).mono ?_;rintro e l ⟨rfl,f⟩;subst f;go_wp2_with refine zs ?_;intro k d;have a:=zyb d;have c:=zk d h;clear d;go_wp2_with fail;exact zr (.tuple #[.agg #[zI m,zI 0,zI 1,zI 0,zI 0,zI (-1),zS],zI 0]) (by simp[results,Tryz.results84,zy0 a,zy1 a,zy2 a,zy3 a,zy4 a,zy5 a,zy6 a,go_sem]) ⟨⟨m,0,1,0,0,-1,[]⟩,none,0,0,_,rfl,.inl ⟨i.o,rfl,rfl⟩,deb.fresh_nil _ _,c.o⟩
 ·rw[decide_eq_false g] at b;have i:=zh g;clear g;go_enter Tryz.func84,Tryz.ntmps84;go_wp2_with fail;refine(b.o _).mono ?_;rintro e l ⟨rfl,f⟩;subst f;go_wp2_with refine zs ?_;intro k d;have a:=zyb d;have c:=zk d h;clear d;go_wp2_with fail;exact zr (.tuple #[.agg #[zI 0,zI 0,zI 0,zI 0,zI 0,zI 0,zS],zI 2]) (by simp[results,Tryz.results84,scl7 a,go_sem]) ⟨ac0,none,0,0,_,rfl,.inr ⟨i.o,rfl,rfl⟩,deb.fresh_nil _ _,c.o⟩
end acc
namespace cell
open Go.RowKit
theorem words_any(a:Option Addr)(len cap:Nat)(zs:List Int)(w:World)(hr:RowU w a len zs)(hn:a=none→cap=0)(hl:len*4≤140737488351232):
  Calls Tryz.prog 6 #[.slice a len cap] w λe w'=>GaveU w zs e w':=by
 obtain⟨C,A,i,l,m⟩:=info_parts info_u32;obtain⟨g,hr⟩:=hr;cases a with
 |none=>
  have f:=hn rfl;have y:len=0:=by rcases hr with h|⟨b,n,h,_⟩;exact h;cases h
  subst f y;obtain rfl:zs=[]:=List.eq_nil_of_length_eq_zero g;have p:∀w:World,(Builtin.append_ #[25,25] 25 #[zS,zS]).run Tryz.prog w=.ok (zS) w:=λw=>by kernel_rfl
  go_enter Tryz.func6,Tryz.ntmps6;go_wp2;go_ret;exact GaveU.mk (Ws.zero _ _) zb
 |some x=>
  go_enter Tryz.func6,Tryz.ntmps6
  go_wp2_with (first
   |(at_builtin;refine wpList_append_own _ rfl _ _ 25 rfl w.heap.size 83 C (.int .u32 0) 1 4 Tryz.underlying25 A i l m rfl (by decide) _ _ _ rfl (World.ownsRow_nil _ _ _ _) x len cap (zs.map (.int .u32)) rfl ?c0 ?c1 ?c2 ?c3 ?c4 ?c5 ?_)
   | go_in)
  case c0=>simp[g]
  case c5=>exact zc
  case c1=>
   intro j u d;rcases hr with h|⟨b,n,h,f⟩
   ·rw[List.getElem?_eq_none (by simp;omega)] at d;cases d
   ·obtain rfl:=Option.some.inj h;by_cases r:j<zs.length
    ·simp[List.getElem?_eq_getElem r] at d;subst d;have:=f j (by omega);simpa [Addr.add_lit,List.getD,List.getElem?_eq_getElem r] using this
    ·rw[List.getElem?_eq_none (by simp;omega)] at d;cases d
  case c2=>intro u d;obtain⟨z,_,rfl⟩:=List.mem_map.1 d;rfl
  case c3=>unfold maxLen;omega
  case c4=>omega
  intro D w' c q _;have t:Hid (Ws w' w.heap.size D zs):=by show w'.ownsRow _ _ _ _ _ _;rw[g];simpa using c
  have s:Hid (zB w w'):=zb.grown q zc (λk B=>by simp[Value.ownBlock] at B);clear c q;go_wp2;go_ret;exact GaveU.mk t.o s.o
end cell
section
open Go.RowKit
structure WQ (P : Program) (ops : Array Oper) (C : World → Prop) (Q : Act → Prop) (l : List Oper) (a : Act) : Prop where
 out : wpQuiet P ops C Q l a
variable{C : World → Prop}{ops : Array Oper}{Q : Act → Prop}{P : Program}{a : Act}
theorem wq_nil(h : Q a): WQ P ops C Q [] a := ⟨h⟩
theorem wq_step{o : Oper}{rest : List Oper}
  (h : ∀K : Act → Prop, (∀a, WQ P ops C Q rest a → K a) → if Region.wanted o (yielded ops a.tmps) then o.quiet P a C K else K (a.put o.dst undef)) : WQ P ops C Q (o::rest) a :=
 ⟨wpQuiet_step λK b => h K λa c => b a c.out⟩
theorem wq_skip{o : Oper}{rest : List Oper}(hw : Region.wanted o (yielded ops a.tmps) = false)(h : WQ P ops C Q rest (a.put o.dst undef)): WQ P ops C Q (o::rest) a := by
 refine⟨?_⟩
 unfold wpQuiet
 rw[if_neg (by rw[hw]; decide)]
 exact h.out
theorem wq_below{id : Nat}{Q : Exit → Act → World → Prop}{w : World}{l : List Oper}(hm : P.follows .mixedOrders = true)(hB : Region.lexB .any l.toArray = true)
  (h : WQ P l.toArray (λw' => ∃p : Regrown, w' = Sort.grow (redrawn w p.d) p.os) (λa' => ∀w', (∃p : Regrown, w' = Sort.grow (redrawn w p.d) p.os) → Q .normal a' w') l a) : (Code.region id l.toArray true).wp P Q a w :=
 wp_region_quiet_below hm hB h.out
end
namespace met
open Go.RowKit ora
def Alive(w:World)(a:Option Addr):Prop:=∀y,a=some y→y.block<w.heap.size
theorem Alive.none(w:World):Alive w none:=λy h=>by cases h
end met
namespace book
open Go.RowKit
def leftE(v:Ev):Ev:=if v.kd=2 then ⟨0,0,0,0,0,0,0,0,0,0,0,v.ow,v.bp⟩ else if v.kd=3 then ⟨0,0,0,0,v.te,v.de,v.fe,v.pr,v.ch,0,0,v.ow,v.bp⟩ else if v.kd=4 then ⟨0,0,v.mo,0,v.te,v.de,v.fe,v.pr,v.ch,v.un,0,v.ow,v.bp⟩ else if v.kd=5 then ⟨0,0,v.mo,v.id,v.te,v.de,v.fe,v.pr,v.ch,v.un,v.tg,0,0⟩ else ⟨0,0,v.mo,v.id,v.te,v.de,v.fe,v.pr,v.ch,v.un,v.tg,v.ow,v.bp⟩
def Numd(id tg:Int):Prop:=(1≤id∧id≤1048575)∧0≤tg∧tg≤65535
def Unt(un:Int):Prop:=1≤un∧un≤2097151
def Mon(mo:Int):Prop:=0≤mo∧mo≤2399
def Mony(te de fe pr ch:Int):Prop:=(1≤te∧te≤100000000)∧((0≤de∧de≤100000000)∧(0≤fe∧fe≤100000000)∧(0≤pr∧pr≤100000000)∧0≤ch∧ch≤100000000)∧de+fe+pr+ch=te
def Dbt(ow bp:Int):Prop:=(1≤ow∧ow≤1000000000)∧0≤bp∧bp≤10000
def KindR(v:Ev):Prop:=v.kd=1∨(v.kd=2∧Mon v.mo∧Numd v.id v.tg∧Unt v.un∧Mony v.te v.de v.fe v.pr v.ch)∨(v.kd=3∧Mon v.mo∧Numd v.id v.tg∧Unt v.un)∨(v.kd=4∧Numd v.id v.tg)∨(v.kd=5∧Dbt v.ow v.bp)
theorem may_iff(v:Ev):EMay v↔(0≤v.me∧v.me≤49)∧KindR v∧leftE v=ev0:=by
 obtain⟨a,m,n,l,q,j,k,p,i,s,r,o,g⟩:=v;unfold EMay KindR leftE ev0 Numd Unt Mon Mony Dbt;simp only;by_cases b:a=1
 ·subst b;simp
 by_cases d:a=2
 ·subst d;simp;intro _ _;constructor<;>intro h<;>omega
 by_cases e:a=3
 ·subst e;simp;intro _ _;constructor<;>intro h<;>omega
 by_cases f:a=4
 ·subst f;simp;intro _ _;constructor<;>intro h<;>omega
 by_cases c:a=5
 ·subst c;simp;intro _ _;constructor<;>intro h<;>omega
 constructor
 ·rintro⟨_,h|h|h⟩
  ·exact absurd h.1 b
  ·exact absurd h.1 c
  ·have:=h.1;omega
 ·rintro⟨_,h|h|h|h|h,_⟩
  ·exact absurd h b
  ·exact absurd h.1 d
  ·exact absurd h.1 e
  ·exact absurd h.1 f
  ·exact absurd h.1 c
variable{v:Ev}
theorem kind_2(h:v.kd=2):KindR v↔Mon v.mo∧Numd v.id v.tg∧Unt v.un∧Mony v.te v.de v.fe v.pr v.ch:=by simp[KindR,h]
theorem kind_3(h:v.kd=3):KindR v↔Mon v.mo∧Numd v.id v.tg∧Unt v.un:=by simp[KindR,h]
theorem kind_4(h:v.kd=4):KindR v↔Numd v.id v.tg:=by simp[KindR,h]
theorem kind_5(h:v.kd=5):KindR v↔Dbt v.ow v.bp:=by simp[KindR,h]
def YN(w:World)(P:Prop)(e:Ending)(w':World):Prop:=∃B,e=.returned (.bool B)∧(B=true↔P)∧zB w w'
theorem YN.yes{w w':World}{P:Prop}(h:P)(hb:zB w w'):YN w P (.returned (.bool true)) w':=⟨true,rfl,⟨λ_=>h,λ_=>rfl⟩,hb⟩
theorem YN.no{w w':World}{P:Prop}(h:¬ P)(hb:zB w w'):YN w P (.returned (.bool false)) w':=⟨false,rfl,⟨λq=>(by cases q),λq=>absurd q h⟩,hb⟩
end book
section
open Go.RowKit
theorem run_neOp{P:Program}{o:Oper}{a:Act}{w:World}(ty rt:TypeId)(x y:Operand)(ho:o.op=.binOp .neq ty x y rt)(ca cb:Array Value)(hx:a.eval x=.agg ca)(hy:a.eval y=.agg cb)(hg:P.eqGuardType P.depth ty=false)(b:Bool)
  (hr:(Op.equalIn 10000 ty (.agg ca) (.agg cb)).run P w=.ok b w):(execOp a.eval o).run P w=.ok (.value (.bool (!b))) w:=by
 have c:(Op.equal ty (.agg ca) (.agg cb)).run P w=.ok b w:=hr;unfold execOp;simp only[ho,hx,hy];have d:∀w':World,(program:Sem Program).run P w'=.ok P w':=λ_=>rfl;simp[eqGuard,hg,binOp,c,d,Sem.run_bind]
theorem wp_neE{P:Program}{ops:Array Oper}{rest:List Oper}{o:Oper}{a:Act}{w:World}{Q:Exit→Act→World→Prop}(hw:Region.wanted o (yielded ops a.tmps)=true)(ty rt:TypeId)(x y:Operand)(ho:o.op=.binOp .neq ty x y rt)(ca cb:Array Value)(hx:a.eval x=.agg ca)(hy:a.eval y=.agg cb)(hg:P.eqGuardType P.depth ty=false)(b:Bool)
  (hr:(Op.equalIn 10000 ty (.agg ca) (.agg cb)).run P w=.ok b w) (d:Nat) (hd:o.dst=some d) (h:wpList P ops Q rest (a.put (some d) (.bool (!b))) w):wpList P ops Q (o::rest) a w:=
 wpList_step λK c=>by
  rw[if_pos hw];exact wp_runOp d hd (run_neOp ty rt x y ho ca cb hx hy hg b hr) (c _ _ h)
end
namespace acc
open tar (Du du0 Came RowD Ld PairT)
open Go.RowKit
def RollR(x:Ac)(m:Int)(b0:Bi)(y:Ac)(b:Bi)(f:Int):Prop:=((¬ RMay x m∧RErr x m f∧y=x)∨(RMay x m∧y=rolled x m∧f=0))∧b=b0
theorem proll(g:Nat)(x:Ac)(b:Bi)(p:Option Addr)(len cap:Nat)(m:Int)(w:World)(hw:Blk w g (wcs x b p len cap) 132)(hd:deb.Fresh w (g+1) p len cap x.ds)(ha:AMay x):Calls Tryz.prog 98 #[.pointer (some ⟨g,0,none⟩),zI m] w λe w'=>DPost w g (RollR x m b) e w':=by
 have ab:=hw.lt;have D:=ha.2.2.2.2.1;have a7:=zh ha.1;obtain⟨k,r,l,a,y,j,s⟩:=x;obtain⟨E,G,B,C,F,A,H⟩:=b;simp only[] at D;have I:=zh hw;have T:=zh hd;have i:Hid (∀W,zC 66 #[zI 0,zI 2399,zI m] W λe w'=>e=.returned (.bool (decide (0≤m∧m≤2399)))∧w'=W):=λW=>awithin 0 2399 m W;have q3:=zy3 I;clear hw hd ha;by_cases t:0≤m∧m≤2399
 ·rw[decide_eq_true t] at i;by_cases O:m<a
  ·have d2:decide (m<a)=true:=decide_eq_true O;have J:Hid (RollR ⟨k,r,l,a,y,j,s⟩ m ⟨E,G,B,C,F,A,H⟩ ⟨k,r,l,a,y,j,s⟩ ⟨E,G,B,C,F,A,H⟩ 23):=⟨.inl ⟨λhh=>by have:a≤m:=hh.2;omega,.inr ⟨t,O,rfl⟩,rfl⟩,rfl⟩
   clear t O D;go_enter Tryz.func98,Tryz.ntmps98;go_wp2_with fail;refine(i.o _).mono ?_;rintro e N ⟨rfl,M⟩;subst N;go_wp2_with fail;go_ret;exact⟨_,_,p,len,cap,23,rfl,J.o,I.o,T.o,Chg.refl _ _⟩
  ·have d2:decide (m<a)=false:=decide_eq_false O;have Q:Hid (RMay ⟨k,r,l,a,y,j,s⟩ m):=⟨t,by show a≤m;omega⟩
   by_cases U:a<m
   ·have d3:decide (a<m)=true:=decide_eq_true U;have ac:IntKind.i64.wrap (m-a)=m-a:=by rw[IntKind.wrap_i64];omega
    have V:Hid (zC 144 #[.slice p len cap,zI (m-a)] w.drew λe w'=>deb.AgePost w.drew s (m-a) e w'):=deb.kage _ p len cap s (m-a) (fresh_drew T.o).came (tar.wf_mid (by omega) (by omega));have a8:Hid (0≤m-a∧m-a≤2400):=⟨by omega,by omega⟩
    have a9:Hid (¬ m=a):=by show ¬ _=_;omega
    clear t O U;go_enter Tryz.func98,Tryz.ntmps98;go_wp2_with fail;refine(i.o _).mono ?_;rintro e N ⟨rfl,M⟩;subst N;go_wp2_with fail;clear d2 d3 q3;have q6:=zy6 I;refine wp_region_held_drew (S:=λv=>v.cell? ⟨g,3,none⟩=some (zI a)) (by kernel_rfl) (show w.drew.cell? _=_ from I.o.cell 3) (λd=>?_);refine zt' 0 (.pointer (some ⟨g,0,none⟩)) ?_;refine zt' 1 (.pointer (some ⟨g,0,none⟩)) ?_;refine zt' 2 (.pointer (some ⟨g,0,none⟩)) ?_;refine zt' 3 (.pointer (some ⟨g,0,none⟩)) ?_;refine zt' 4 (.pointer (some ⟨g,6,none⟩)) ?_;refine zt' 6 (zI m) ?_;refine zt' 7 (.pointer (some ⟨g,0,none⟩)) ?_;refine zt' 8 (.pointer (some ⟨g,0,none⟩)) ?_;refine zt' 9 (.pointer (some ⟨g,0,none⟩)) ?_;refine zt' 10 (.pointer (some ⟨g,3,none⟩)) ?_;refine zu' 11 (zI a) rfl rfl (Or.inl ⟨by rfl,λv hv=>by have g0:=hv;clear hv;go_simp⟩) ?_;refine zt' 12 (zI (m-a)) ?_;refine zo 5 λK u=>?_;rw[if_pos (by rfl)];refine wp_runOp (v:=.slice p len cap) (w':=w.drew) 31 rfl (by clear u;go_simp) ?_;refine u.o _ _ (show w.drew.cell? _=_ from I.o.cell 3) (λd=>?_);clear u K q6;simp only[Act.put,zq];refine zo 13 λK u=>?_;rw[if_pos (by rfl)];refine wp_callOp 39 rfl (by clear u;go_simp) V.o ?_;rintro e w1 ⟨q,n,c,z,f,rfl,hz,hf,L⟩;obtain⟨rfl,R⟩:=hz.got a7.o a8.o;have P:=zh ((Blk.drew I.o 1).next L);have X:Hid (Chg w w1 g):=(Chg.of (bel_drew zb 1)).trans (.of L);have a1:=zh (hf.low (by show g+1≤w.heap.size;omega));have HZ:=zh R;refine⟨_,rfl,u.o _ _ (P.o.cell 3) (λd=>?_)⟩;clear u K hz hf L R;simp only[Act.put,zq];refine zt' 14 (.tuple #[.slice q n c,zI 0]) ?_;refine zt' 15 (.slice q n c) ?_;refine zt' 16 (zI 0) ?_;refine zt' 17 (.pointer (some ⟨g,0,none⟩)) ?_;refine zt' 18 (.pointer (some ⟨g,0,none⟩)) ?_;refine zt' 19 (.pointer (some ⟨g,6,none⟩)) ?_;refine zo 20 λK u=>?_;rw[if_pos (by rfl)];refine wp_letOp1 53 _ _ rfl g 6 rfl (.slice q n c) rfl rfl (by kernel_rfl) rfl #[zI k,zI r,zI l,zI a,zI y,zI j,.slice p len cap,zI E,zI G,zI B,zI C,zI F,zI A,zI H] 132 P.o (by simp) rfl ?_
    intro W2 h;have a5:=zyb h;have Y:=zh (X.o.trans (.upd h));have a2:=zh (fresh_chg a1.o (.upd h));clear h;refine u.o _ _ (a5.o.cell 3) (λd=>?_);clear u K;refine wpAnyH_done (by kernel_rfl) ?_ _;clear d;go_wp2_with refine zl ?_;intro W3 h;have aa:=zyb h;have Z:=zh (Y.o.trans (.upd h));have a3:=zh (fresh_chg a2.o (.upd h));clear h;go_wp2_with refine zl ?_;intro W4 h;have a6:=zyb h;have a0:=zh (Z.o.trans (.upd h));have a4:=zh (fresh_chg a3.o (.upd h));have J:Hid (RollR ⟨k,r,l,a,y,j,s⟩ m ⟨E,G,B,C,F,A,H⟩ ⟨k,r,l,m,0,j,z⟩ ⟨E,G,B,C,F,A,H⟩ 0):=⟨.inr ⟨Q.o,by unfold rolled;rw[if_neg a9.o,HZ.o],rfl⟩,rfl⟩
    clear h;go_wp2_with fail;go_ret;exact⟨⟨k,r,l,m,0,j,z⟩,_,q,n,c,0,rfl,J.o,a6.o,a4.o,a0.o⟩
   ·have d3:decide (a<m)=false:=decide_eq_false U;have J:Hid (RollR ⟨k,r,l,a,y,j,s⟩ m ⟨E,G,B,C,F,A,H⟩ ⟨k,r,l,a,y,j,s⟩ ⟨E,G,B,C,F,A,H⟩ 0):=⟨.inr ⟨Q.o,by unfold rolled;rw[if_pos (by show m=a;omega)],rfl⟩,rfl⟩
    clear t O U D;go_enter Tryz.func98,Tryz.ntmps98;go_wp2_with fail;refine(i.o _).mono ?_;rintro e N ⟨rfl,M⟩;subst N;go_wp2_with fail;go_ret;exact⟨_,_,p,len,cap,0,rfl,J.o,I.o,T.o,Chg.refl _ _⟩
 ·rw[decide_eq_false t] at i;have J:Hid (RollR ⟨k,r,l,a,y,j,s⟩ m ⟨E,G,B,C,F,A,H⟩ ⟨k,r,l,a,y,j,s⟩ ⟨E,G,B,C,F,A,H⟩ 2):=⟨.inl ⟨λhh=>t hh.1,.inl ⟨t,rfl⟩,rfl⟩,rfl⟩
  clear t D q3;go_enter Tryz.func98,Tryz.ntmps98;go_wp2_with fail;refine(i.o _).mono ?_;rintro e N ⟨rfl,M⟩;subst N;go_wp2_with fail;go_ret;exact⟨_,_,p,len,cap,2,rfl,J.o,I.o,T.o,Chg.refl _ _⟩
theorem kcheck:KcCheck:=by
 intro w t A lt z G;have h:=G.ts;unfold Tm.v;have g:Hid (∀W,zC 66 #[zI 0,zI 100000,zI t.ff] W λe l=>e=.returned (.bool (decide (0≤t.ff∧t.ff≤100000)))∧l=W):=λW=>awithin 0 100000 t.ff W;have i:Hid (∀W,zC 66 #[zI 0,zI 10000,zI t.fb] W λe l=>e=.returned (.bool (decide (0≤t.fb∧t.fb≤10000)))∧l=W):=λW=>awithin 0 10000 t.fb W;have j:Hid (∀W,zC 66 #[zI 0,zI 10000,zI t.db] W λe l=>e=.returned (.bool (decide (0≤t.db∧t.db≤10000)))∧l=W):=λW=>awithin 0 10000 t.db W;have k:Hid (∀W,zC 66 #[zI 0,zI 2097151,zI t.al] W λe l=>e=.returned (.bool (decide (0≤t.al∧t.al≤2097151)))∧l=W):=λW=>awithin 0 2097151 t.al W;obtain⟨F,E,u,s,-⟩:=sh1 w #[.slice A lt z,zI t.ff,zI t.fb,zI t.db,zI t.al] 24;have D:Hid (zC 101 #[.slice A lt z] F λe l=>tar.ErrPost F (tar.FaultIs t.ts) e l):=tar.kcheck _ A lt z t.ts (h.below s.o);have c0:F.cell? ⟨w.heap.size,0,none⟩=some (.slice A lt z):=u.o.cell 0;clear h G;go_enter Tryz.func97,Tryz.ntmps97;go_upto_region 1 with fail
 rw[E.o];go_wp2_with fail;refine D.o.mono ?_;rintro e K ⟨f,rfl,hf,m⟩;have c:=shB s m;have C:=shN u m;have B:Hid (tar.FaultIs t.ts f):=hf;clear hf m c0;obtain⟨c0,c1,c2,H,I⟩:=scl5 C;by_cases y:f=0
 ·have x:Hid (tar.Right t.ts):=B.o.ok.1 y;subst y;by_cases n:0≤t.ff∧t.ff≤100000
  ·rw[decide_eq_true n] at g;go_wp2_with fail;refine(g.o _).mono ?_;rintro e b ⟨rfl,a⟩;subst b;by_cases p:0≤t.fb∧t.fb≤10000
   ·rw[decide_eq_true p] at i;go_wp2_with fail;refine(i.o _).mono ?_;rintro e b ⟨rfl,a⟩;subst b;by_cases q:0≤t.db∧t.db≤10000
    ·rw[decide_eq_true q] at j;go_wp2_with fail;refine(j.o _).mono ?_;rintro e b ⟨rfl,a⟩;subst b;by_cases r:0≤t.al∧t.al≤2097151
     ·rw[decide_eq_true r] at k;go_wp2_with fail;refine(k.o _).mono ?_;rintro e b ⟨rfl,a⟩;subst b;have d:Hid (TFault t 0):=.inr (.inr ⟨⟨x.o,n,p,q,r⟩,rfl⟩);clear n p q r;go_wp2_with fail;go_ret;exact⟨0,rfl,d.o,c.o⟩
     ·rw[decide_eq_false r] at k;have d:Hid (TFault t 2):=.inr (.inl ⟨x.o,λh=>r h.2.2.2,rfl⟩);clear r;go_wp2_with fail;refine(k.o _).mono ?_;rintro e b ⟨rfl,a⟩;subst b;go_wp2_with fail
      all_goals first
       |(rename_i q1 q2;exact absurd q1 (by simp[undef]))
       |(go_ret;exact⟨2,rfl,d.o,c.o⟩)
    ·rw[decide_eq_false q] at j;have d:Hid (TFault t 2):=.inr (.inl ⟨x.o,λh=>q h.2.2.1,rfl⟩);clear q;go_wp2_with fail;refine(j.o _).mono ?_;rintro e b ⟨rfl,a⟩;subst b;go_wp2_with fail
     all_goals first
      |(rename_i q1 q2;exact absurd q1 (by simp[undef]))
      |(go_ret;exact⟨2,rfl,d.o,c.o⟩)
   ·rw[decide_eq_false p] at i;have d:Hid (TFault t 2):=.inr (.inl ⟨x.o,λh=>p h.2.1,rfl⟩);clear p;go_wp2_with fail;refine(i.o _).mono ?_;rintro e b ⟨rfl,a⟩;subst b;go_wp2_with fail
    all_goals first
     |(rename_i q1 q2;exact absurd q1 (by simp[undef]))
     |(go_ret;exact⟨2,rfl,d.o,c.o⟩)
  ·rw[decide_eq_false n] at g;have d:Hid (TFault t 2):=.inr (.inl ⟨x.o,λh=>n h.1,rfl⟩);clear n;go_wp2_with fail;refine(g.o _).mono ?_;rintro e b ⟨rfl,a⟩;subst b;go_wp2_with fail
   all_goals first
    |(rename_i q1 q2;exact absurd q1 (by simp[undef]))
    |(go_ret;exact⟨2,rfl,d.o,c.o⟩)
 ·have J:(f != 0)=true:=by simpa using y
  have d:Hid (TFault t f):=.inl ⟨λh=>y (B.o.ok.2 h),B.o⟩;clear y;go_wp2_with fail;go_ret;exact⟨f,rfl,d.o,c.o⟩
def BeginR(x:Ac)(t:Tm)(m:Int)(b0:Bi)(y:Ac)(b:Bi)(f:Int):Prop:=((¬ TRight t∧TFault t f∧y=x)∨(TRight t∧¬ RMay x m∧RErr x m f∧y=x)∨(TRight t∧RMay x m∧y=rolled x m∧f=0))∧b=b0
theorem pbegin(g:Nat)(x:Ac)(p:Option Addr)(len cap:Nat)(t:Tm)(pt:Option Addr)(lt ct:Nat)(b:Bi)(m:Int)(w:World)(hw:Blk w g (wcs x b p len cap) 132)(hd:deb.Fresh w (g+1) p len cap x.ds)(ha:AMay x)(ht:Came w pt lt ct t.ts)(hwf:wf4 t)(hfar:Far pt lt g):Calls Tryz.prog 65 #[.pointer (some ⟨g,0,none⟩),.agg #[.slice pt lt ct,zI t.ff,zI t.fb,zI t.db,zI t.al],zI m] w λe w'=>DPost w g (BeginR x t m b) e w':=by
 have R:=hw.lt;have C:Hid (∀W,zB w W→zC 97 #[.agg #[.slice pt lt ct,zI t.ff,zI t.fb,zI t.db,zI t.al]] W λe w'=>tar.ErrPost W (TFault t) e w'):=λW Q=>kcheck W t pt lt ct ⟨ht.below Q,hwf⟩;have E:Hid (∀W,Blk W g (wcs x b p len cap) 132→deb.Fresh W (g+1) p len cap x.ds→zC 98 #[.pointer (some ⟨g,0,none⟩),zI m] W λe w'=>DPost W g (RollR x m b) e w'):=λW l r=>proll g x b p len cap m W l r ha;have d:Hid (zB w (w.alloc (.cells #[.slice pt lt ct,zI t.ff,zI t.fb,zI t.db,zI t.al] 24))):=(Below.refl w.heap.size w).alloc (by simp) _;have O:=zye w #[.slice pt lt ct,zI t.ff,zI t.fb,zI t.db,zI t.al] 24;have B:Hid (Blk (w.alloc (.cells #[.slice pt lt ct,zI t.ff,zI t.fb,zI t.db,zI t.al] 24)) g (wcs x b p len cap) 132):=hw.alloc _;have A:=zh (hd.below d.o);clear hw hd ha ht hwf hfar;generalize s:(w.alloc (.cells #[.slice pt lt ct,zI t.ff,zI t.fb,zI t.db,zI t.al] 24))=T at *;have F:=zh s;clear s;go_enter Tryz.func65,Tryz.ntmps65;go_upto_region 1 with fail
 rw[F.o];go_wp2_with refine zw ?_;refine(C.o _ d.o).mono ?_;rintro e N ⟨f,rfl,hf,a⟩;have k:=shN B a;have j:=zh (A.o.below a);have i:Hid (Chg w N g):=.of (bel_step d.o a);have D:=zh hf;clear hf a;by_cases z:f=0
 ·subst z;have I:Hid (TRight t):=D.o.ok.1 rfl;go_wp2_with fail;refine(E.o _ k.o j.o).mono ?_;rintro e S ⟨y,P,q,n,c,f,rfl,⟨M,J⟩,L,u,K⟩
  have G:Hid (DPost w g (BeginR x t m b) (.returned (zI f)) S):=by
   refine⟨y,P,q,n,c,f,rfl,⟨?_,J⟩,L,u,i.o.trans K⟩;rcases M with⟨l,r,H⟩|⟨l,r,H⟩
   ·exact .inr (.inl ⟨I.o,l,r,H⟩)
   ·exact .inr (.inr ⟨I.o,l,r,H⟩)
  clear M J L u K;go_wp2_with fail;go_ret;exact G.o
 ·have U:(f != 0)=true:=by simpa using z
  have G:Hid (DPost w g (BeginR x t m b) (.returned (zI f)) N):=⟨x,b,p,len,cap,f,rfl,⟨.inl ⟨λh=>z (D.o.ok.2 h),D.o,rfl⟩,rfl⟩,k.o,j.o,i.o⟩
  clear z;go_wp2_with fail;go_ret;exact G.o
def NumPost(w:World)(g:Nat)(x:Ac)(b:Bi)(p:Option Addr)(len cap:Nat)(e:Ending)(w':World):Prop:=
 Chg w w' g∧((¬ x.nx≤1048575∧e=.returned (zI 20)∧Blk w' g (wcs x b p len cap) 132)∨(x.nx≤1048575∧e=.returned (zI 0)∧Blk w' g (wcs { x with nx:=x.nx+1 } { b with id:=x.nx } p len cap) 132))
theorem pnum(g:Nat)(x:Ac)(b:Bi)(p:Option Addr)(len cap:Nat)(w:World)(hw:Blk w g (wcs x b p len cap) 132)(hn:1≤x.nx∧x.nx≤1048576):Calls Tryz.prog 70 #[.pointer (some ⟨g,0,none⟩)] w λe w'=>NumPost w g x b p len cap e w':=by
 obtain⟨A,D,a,B,q,y,K⟩:=x;obtain⟨z,E,t,u,C,r,F⟩:=b;simp only[] at hn;have j:Hid (Blk w g #[zI A,zI D,zI a,zI B,zI q,zI y,.slice p len cap,zI z,zI E,zI t,zI u,zI C,zI r,zI F] 132):=hw;have I:=zy2 j;clear hw;by_cases m:a≤1048575
 ·have s:decide (1048575<a)=false:=decide_eq_false (by omega);have H:IntKind.i64.wrap (a+1)=a+1:=by rw[IntKind.wrap_i64];omega
  have f:Hid (a≤1048575):=m;go_enter Tryz.func70,Tryz.ntmps70;go_wp2_with (first|(refine wp_let1 rfl 3 _ _ rfl g 7 rfl .i64 a rfl (by kernel_rfl) #[zI A,zI D,zI a,zI B,zI q,zI y,.slice p len cap,zI z,zI E,zI t,zI u,zI C,zI r,zI F] 132 j.o (by simp) ?_)|fail)
  intro G c;have k:=zyb c;have h:Hid (Chg w G g):=.upd c;have n:=zy2 k;clear c I s;go_wp2_with refine zl ?_;intro J d;have l:=zyb d;have i:=zh (h.o.trans (.upd d));clear d n;go_wp2_with fail;go_ret;exact⟨i.o,.inr ⟨f.o,rfl,l.o⟩⟩
 ·have s:decide (1048575<a)=true:=decide_eq_true (by omega);have f:=zh m;clear m hn;go_enter Tryz.func70,Tryz.ntmps70;go_wp2_with fail;go_ret;exact⟨Chg.refl _ _,.inl ⟨Int.not_le.2 f.o,rfl,j.o⟩⟩
end acc
namespace deb
open tar (Du du0 Came RowD Ld ErrPost TwoPost PairT GaveD)
open Go.RowKit
theorem krec:KdRec:=by
 intro w a len ac c t bp l ai ad;have hr:=l.row;have ab:=zh (pshare a len ac c t bp w hr l.most);have I:=zh hr;clear l hr ai ad;go_enter Tryz.func67,Tryz.ntmps67;go_wp2_with fail;refine ab.o.mono ?_;rintro e P ⟨s,f,rfl,hf,Y⟩;have m:=zh Y;clear Y;rcases hf with⟨C,hf,rfl⟩|⟨C,⟨S,N,hg⟩|⟨S,rfl,rfl⟩⟩
 ·have ap:(f != 0)=true:=by simpa using λh=>C (hf.ok.1 h)
  have HN:=zh C;have HF:=zh hf;clear hf C;go_wp2_with fail;go_ret3;exact⟨none,0,0,[],0,f,rfl,.inl ⟨HN.o,HF.o,rfl,rfl⟩,fresh_nil _ _,m.o⟩
 ·subst hg;have HT:=zh S;have ah:=share_bd S;rw[← N] at ah;have T:=zh N;have Q:=zh C;have E:=zh (I.o.below m.o);have g:=zh E.o.1;have ag:len≤8:=by have:=C.1;have:=g.o;omega
  clear S N C;go_wp2_with fail;go_loopw [11,12,29] (λu v x wr=>∃(k:Nat)(V:Value),k≤len∧x=zI (k:Int)∧v=zI (max 0 (s-sumK c k))∧V=u∧Ld 42 wr P.heap.size V (recK c s k)∧zB P wr) (λ_ _ x _=>len-(intOf x).toNat)
  case atStart=>exact⟨0,_,Nat.zero_le _,rfl,by show _=Value.int .i64 (max 0 (s-0));rw[show max 0 (s-0)=s by omega],rfl,tar.Ld.zero _ _ _,zb⟩
  case round=>
   obtain⟨k,V,hk,rfl,rfl,hV,hu,X⟩:=hrel;subst hV;have G:=zh X;have HU:=zh hu;have O:=sumK_bd Q.o k (by rw[g.o];exact hk);by_cases L:k<len
   ·have af:decide ((k:Int)<(len:Int))=true:=by simp;omega
    obtain⟨b,D,rfl,a0,hc⟩:=E.o.at (by omega);have c0:wr.cell? ⟨b,D+k*2,none⟩=some (zI (c.getD k du0).a):=(X.cell (p:=⟨b,D+k*2,none⟩) a0).trans (hc k L).1;have c1:wr.cell? ⟨b,D+k*2+1,none⟩=some (zI (c.getD k du0).b):=(X.cell (p:=⟨b,D+k*2+1,none⟩) a0).trans (hc k L).2;have ho:=Q.o.2 k (by rw[g.o];exact L);have aq:=ho.1.1;have ar:=ho.1.2;have HN:=zh (sumK_next c k).symm;have HY:Hid (0<left (c.getD k du0).a (sumK c k+(c.getD k du0).a) s→recK c s (k+1)=recK c s k++[⟨left (c.getD k du0).a (sumK c k+(c.getD k du0).a) s,(c.getD k du0).b⟩]):=recK_yes c s k;have HZ:Hid (¬ 0<left (c.getD k du0).a (sumK c k+(c.getD k du0).a) s→recK c s (k+1)=recK c s k):=recK_no c s k;have ak:(recK c s k).length≤1000000:=by have:=recK_len c s k;omega
    clear hc X hu ho;generalize recK c s k=Z at *;generalize M:sumK c k=q at *;generalize (c.getD k du0).a=x at *;generalize (c.getD k du0).b=y at *;have am:=zye wr #[zI x,zI y] 42;generalize hR:max 0 (s-q)=R at *;have an:0≤R:=by omega
    have ao:R≤100000000:=by omega
    have al:=tar.run_min R x _ rfl;generalize hp:min R x=p at *;have au:0≤p:=by omega
    have av:p≤x:=by omega
    have aw:p≤R:=by omega
    by_cases B:0<x-p
    ·
     have H:Hid (R-p=max 0 (s-sumK c (k+1))):=by show _=_;rw[← HN.o];omega
     have ae:decide (0<x-p)=true:=decide_eq_true B;have A:left x (q+x) s=x-p:=by unfold left;omega
     rw[A] at HY;have K:Hid (recK c s (k+1)=Z++[⟨x-p,y⟩]):=HY.o B;clear A;clear M hR hp O;go_wp2_with refine zl ?_;intro z i;have r:=zyb i;have j:zB wr z:=i.bel _ _ zc (zb.alloc zc _);have n:=shB G j;have J:=zh (HU.o.next j);have d0:=zy0 r;have d1:=zy1 r;clear i j c0 c1;have F:=zyf n (.cells #[zI (x-p),zI y] 42);have U:Hid (Ld 42 (z.alloc (.cells #[zI (x-p),zI y] 42)) P.heap.size V Z):=J.o.alloc _;have a8:Hid ((z.alloc (.cells #[zI (x-p),zI y] 42)).cell? ⟨z.heap.size,0,none⟩=some (zI (x-p))∧(z.alloc (.cells #[zI (x-p),zI y] 42)).cell? ⟨z.heap.size,1,none⟩=some (zI y)):=⟨(Blk.new z _ _).cell 0,(Blk.new z _ _).cell 1⟩
     go_wp2_with (first
      |(at_builtin;refine tar.wp_pair debtT rfl _ _ rfl P.heap.size (z.heap.size) V Z ⟨x-p,y⟩ rfl rfl U.o a8.o ak F.o.size ?_)
      | fail)
     intro v3 w3 h3 a2;have a6:Hid (zB P w3):=tar.own_bel U.o a2 F.o zc F.o.size;have H3:=zh h3;clear h3 a2 d0 d1;go_wp2_with fail;go_roundw
     case rel=>exact⟨k+1,v3,by omega,by go_num,by rw[← H.o],by first|rfl|trivial,by rw[K.o];exact H3.o,a6.o⟩
     case measure=>simp[intOf];omega
    ·
     have H:Hid (R-p=max 0 (s-sumK c (k+1))):=by show _=_;rw[← HN.o];omega
     have ae:decide (0<x-p)=false:=decide_eq_false B;have A:¬ 0<left x (q+x) s:=by unfold left;omega
     have K:Hid (recK c s (k+1)=Z):=HZ.o A;clear A;clear M hR hp O;go_wp2_with refine zl ?_;intro z i;have r:=zyb i;have j:zB wr z:=i.bel _ _ zc (zb.alloc zc _);have n:=shB G j;have J:=zh (HU.o.next j);have d0:=zy0 r;have d1:=zy1 r;clear i j c0 c1;go_wp2_with fail;go_roundw
     case rel=>exact⟨k+1,V,by omega,by go_num,by rw[← H.o],by first|rfl|trivial,by rw[K.o];exact J.o,n.o⟩
     case measure=>simp[intOf];omega
   ·obtain rfl:k=len:=by omega
    have af:decide ((k:Int)<(k:Int))=false:=by simp
    have HV:Hid (sumK c k=sumD c):=by have:=sumK_all c;rw[g.o] at this;exact this
    have aa:Hid (recK c s k=recK c (t*bp/10000) c.length):=by show _=_;rw[g.o,T.o]
    have a4:Mays (recK c s k):=⟨Nat.le_trans (recK_len c s k) ag,fits_mem λd hd=>(recK_ok Q.o s k (by rw[g.o];exact zc) d hd).1⟩
    obtain⟨a3,W,aj,a1⟩:=ld_fresh hu a4;subst aj;have a9:=zh (a1.low m.o.size);have a7:=zh (m.o.trans (G.o.mono m.o.size));have HP:Hid (s-max 0 (s-sumK c k)=min (t*bp/10000) (sumD c)):=by show _=_;rw[← T.o,← HV.o];omega
    clear X hu a4 a1;generalize (recK c s k).length=a5 at *;generalize recK c s k=Z at *;generalize hq:max 0 (s-sumK c k)=q at *;have ax:0≤q:=by omega
    have M:q≤s:=by omega
    clear hq O;go_wp2_with fail;go_ret3;exact⟨a3,a5,W,Z,s-q,0,rfl,.inr (.inr ⟨Q.o,HT.o,rfl,aa.o,HP.o⟩),a9.o,a7.o⟩
 ·have Q:=zh C;have HT:=zh S;clear S C;go_wp2_with fail;go_ret3;exact⟨none,0,0,[],0,2,rfl,.inr (.inl ⟨Q.o,HT.o,rfl,rfl,rfl⟩),fresh_nil _ _,m.o⟩
end deb
namespace acc
open tar (Du)
open Go.RowKit
def KcSell:Prop:=∀(W:World)(x:Ac)(p:Option Addr)(len cap:Nat)(t:Tm)(pt:Option Addr)(lt ct:Nat)(te m:Int),ACame W x p len cap→TCame W t pt lt ct→(Lit.int .i64 te).wf=true→(Lit.int .i64 m).wf=true→zC 17 #[x.v p len cap,t.v pt lt ct,zI te,zI m] W λe w'=>BPost W (SellIs x t te m) e w'
def KcGrant:Prop:=∀(W:World)(x:Ac)(p:Option Addr)(len cap:Nat)(t:Tm)(pt:Option Addr)(lt ct:Nat)(m:Int),ACame W x p len cap→TCame W t pt lt ct→(Lit.int .i64 m).wf=true→zC 30 #[x.v p len cap,t.v pt lt ct,zI m] W λe w'=>BPost W (GrantIs x t m) e w'
open tar (du0 Came RowD Ld PairT)
theorem rest_bd{a:Ac}{t:Tm}{te m:Int}(h:Ready a t m)(h0:1≤te)(h1:te≤100000000):(0≤paid a t te m∧paid a t te m≤te)∧(0≤fee t te∧fee t te≤100100000)∧rest a t te m=te-paid a t te m-fee t te:=by
 obtain⟨b,⟨g,⟨c1,c2⟩,⟨c,d⟩,⟨e,f⟩,_⟩,r⟩:=h;have k:=mays_sum (rolled_may b r).1;have i:=rec_bd (te:=te) (db:=t.db) (by omega) h1 e f;have j:=rec_bd (te:=te) (db:=t.fb) (by omega) h1 c d;refine⟨⟨?_,?_⟩,⟨?_,?_⟩,rfl⟩
 ·show 0≤min (te*t.db/10000) _;omega
 ·show min (te*t.db/10000) _≤te;omega
 ·show 0≤t.ff+te*t.fb/10000;omega
 ·show t.ff+te*t.fb/10000≤_;omega
end acc
end Go.Proofs.YtoepgdhiepedeaaGreatDoor
