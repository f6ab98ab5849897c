import Derived.Test.YtoepgdhiepedeaaGreatDoorVVRys23
import Derived.Test.YtoepgdhiepedeaaGreatDoorVVRys26
import Derived.Test.YtoepgdhiepedeaaGreatDoorVVRys30
set_option linter.unusedVariables false
set_option linter.unusedSimpArgs false
set_option maxHeartbeats 4000000
set_option maxRecDepth 100000
namespace Go.Proofs.YtoepgdhiepedeaaGreatDoor
namespace book
open Go.RowKit
theorem ws_low{w:World}{base base':Nat}{v:Value}{l:List Int}(h:cell.Ws w base v l)(hb:base'≤base):cell.Ws w base' v l:=by
 refine⟨h.1,?_⟩;rcases h.2 with d|⟨g,a,b,e,c,rest⟩
 ·exact .inl d
 ·exact .inr ⟨g,a,b,e,Nat.le_trans hb c,rest⟩
def EncPost(w:World)(v:Ev)(e:Ending)(w':World):Prop:=∃V ws f,e=.returned (.tuple #[V,zI f])∧EncIs v ws f∧cell.Ws w' w.heap.size V ws∧zB w w'
theorem evL_step(v:Ev)(k:Nat)(hk:k<13):(evL v).take k++[(evL v).getD k 0]=(evL v).take (k+1):=by
 have a:k<(evL v).length:=by rw[evL_len];exact hk
 rw[List.take_succ_eq_append_getElem a];simp[List.getD,List.getElem?_eq_getElem a]
theorem rencoded(v:Ev)(w:World):Calls Tryz.prog 57 #[v.v] w λe w'=>EncPost w v e w':=by
 have Q:Hid (∀W,zC 83 #[.agg #[zI v.kd,zI v.me,zI v.mo,zI v.id,zI v.te,zI v.de,zI v.fe,zI v.pr,zI v.ch,zI v.un,zI v.tg,zI v.ow,zI v.bp]] W λe w'=>MayPost W v e w'):=λW=>rmay v W;have T:=zye w #[zI v.kd,zI v.me,zI v.mo,zI v.id,zI v.te,zI v.de,zI v.fe,zI v.pr,zI v.ch,zI v.un,zI v.tg,zI v.ow,zI v.bp] 44;have I:Hid (zB w (w.alloc (.cells #[zI v.kd,zI v.me,zI v.mo,zI v.id,zI v.te,zI v.de,zI v.fe,zI v.pr,zI v.ch,zI v.un,zI v.tg,zI v.ow,zI v.bp] 44))):=zb.alloc zc _;have ah:(w.alloc (.cells #[zI v.kd,zI v.me,zI v.mo,zI v.id,zI v.te,zI v.de,zI v.fe,zI v.pr,zI v.ch,zI v.un,zI v.tg,zI v.ow,zI v.bp] 44)).cell? ⟨w.heap.size,0,none⟩=some (zI v.kd):=(Blk.new w _ _).cell 0;have ai:(w.alloc (.cells #[zI v.kd,zI v.me,zI v.mo,zI v.id,zI v.te,zI v.de,zI v.fe,zI v.pr,zI v.ch,zI v.un,zI v.tg,zI v.ow,zI v.bp] 44)).cell? ⟨w.heap.size,1,none⟩=some (zI v.me):=(Blk.new w _ _).cell 1;have aj:(w.alloc (.cells #[zI v.kd,zI v.me,zI v.mo,zI v.id,zI v.te,zI v.de,zI v.fe,zI v.pr,zI v.ch,zI v.un,zI v.tg,zI v.ow,zI v.bp] 44)).cell? ⟨w.heap.size,2,none⟩=some (zI v.mo):=(Blk.new w _ _).cell 2;have ag:(w.alloc (.cells #[zI v.kd,zI v.me,zI v.mo,zI v.id,zI v.te,zI v.de,zI v.fe,zI v.pr,zI v.ch,zI v.un,zI v.tg,zI v.ow,zI v.bp] 44)).cell? ⟨w.heap.size,3,none⟩=some (zI v.id):=(Blk.new w _ _).cell 3;have am:(w.alloc (.cells #[zI v.kd,zI v.me,zI v.mo,zI v.id,zI v.te,zI v.de,zI v.fe,zI v.pr,zI v.ch,zI v.un,zI v.tg,zI v.ow,zI v.bp] 44)).cell? ⟨w.heap.size,4,none⟩=some (zI v.te):=(Blk.new w _ _).cell 4;have ae:(w.alloc (.cells #[zI v.kd,zI v.me,zI v.mo,zI v.id,zI v.te,zI v.de,zI v.fe,zI v.pr,zI v.ch,zI v.un,zI v.tg,zI v.ow,zI v.bp] 44)).cell? ⟨w.heap.size,5,none⟩=some (zI v.de):=(Blk.new w _ _).cell 5;have af:(w.alloc (.cells #[zI v.kd,zI v.me,zI v.mo,zI v.id,zI v.te,zI v.de,zI v.fe,zI v.pr,zI v.ch,zI v.un,zI v.tg,zI v.ow,zI v.bp] 44)).cell? ⟨w.heap.size,6,none⟩=some (zI v.fe):=(Blk.new w _ _).cell 6
 have al:(w.alloc (.cells #[zI v.kd,zI v.me,zI v.mo,zI v.id,zI v.te,zI v.de,zI v.fe,zI v.pr,zI v.ch,zI v.un,zI v.tg,zI v.ow,zI v.bp] 44)).cell? ⟨w.heap.size,7,none⟩=some (zI v.pr):=(Blk.new w _ _).cell 7;have ad:(w.alloc (.cells #[zI v.kd,zI v.me,zI v.mo,zI v.id,zI v.te,zI v.de,zI v.fe,zI v.pr,zI v.ch,zI v.un,zI v.tg,zI v.ow,zI v.bp] 44)).cell? ⟨w.heap.size,8,none⟩=some (zI v.ch):=(Blk.new w _ _).cell 8;have ao:(w.alloc (.cells #[zI v.kd,zI v.me,zI v.mo,zI v.id,zI v.te,zI v.de,zI v.fe,zI v.pr,zI v.ch,zI v.un,zI v.tg,zI v.ow,zI v.bp] 44)).cell? ⟨w.heap.size,9,none⟩=some (zI v.un):=(Blk.new w _ _).cell 9;have an:(w.alloc (.cells #[zI v.kd,zI v.me,zI v.mo,zI v.id,zI v.te,zI v.de,zI v.fe,zI v.pr,zI v.ch,zI v.un,zI v.tg,zI v.ow,zI v.bp] 44)).cell? ⟨w.heap.size,10,none⟩=some (zI v.tg):=(Blk.new w _ _).cell 10;have ak:(w.alloc (.cells #[zI v.kd,zI v.me,zI v.mo,zI v.id,zI v.te,zI v.de,zI v.fe,zI v.pr,zI v.ch,zI v.un,zI v.tg,zI v.ow,zI v.bp] 44)).cell? ⟨w.heap.size,11,none⟩=some (zI v.ow):=(Blk.new w _ _).cell 11;have ac:(w.alloc (.cells #[zI v.kd,zI v.me,zI v.mo,zI v.id,zI v.te,zI v.de,zI v.fe,zI v.pr,zI v.ch,zI v.un,zI v.tg,zI v.ow,zI v.bp] 44)).cell? ⟨w.heap.size,12,none⟩=some (zI v.bp):=(Blk.new w _ _).cell 12;unfold Ev.v;go_enter Tryz.func57,Tryz.ntmps57;go_wp2_with fail;refine(Q.o _).mono ?_;rintro e w1 ⟨B,rfl,G,t⟩;have a:=shN T t;have g:=shB I t;clear t ah ai aj ag am ae af al ad ao an ak ac;cases B with
 |false=>
  have M:Hid (EncIs v [] 5):=.inr ⟨λh=>absurd (G.2 h) (by decide),rfl,rfl⟩;clear G;go_wp2_with fail;go_ret2;exact⟨_,[],5,rfl,M.o,cell.Ws.zero _ _,g.o⟩
 |true=>
  have hm:EMay v:=G.1 rfl;have HM:Hid (EMay v):=hm;have R:Hid (∀x∈evL v,0≤x∧x<4294967296):=may_word hm;clear G hm;have m:=zy0 a;have n:=zy1 a;have p:=zy2 a;have a6:=zy3 a;have a8:=zy4 a;have a4:=zy5 a;have a5:=zy6 a;have a7:=zy7 a;have a3:=zy8 a;have a9:=zy9 a;have r:=zy10 a;have q:=zy11 a;have l:=zy12 a;obtain⟨W2,d,b,b,-⟩:=sh1 w1 #[zI v.id,zI v.te,zI v.de,zI v.fe,zI v.pr,zI v.ch,zI v.un] 33;have c:=shN a b.o;have J:=shB g b.o;go_upto_region 4 with fail
  rw[d.o];clear d b;generalize w1.heap.size=gb at *;clear a g m n p a6 a8 a4 a5 a7 a3 a9 r q l;have m:=zy0 c;have n:=zy1 c;have p:=zy2 c;have r:=zy10 c;have q:=zy11 c;have l:=zy12 c;have Z:=zy0 b;have a1:=zy1 b;have X:=zy2 b;have Y:=zy3 b;have a0:=zy4 b;have U:=zy5 b;have a2:=zy6 b;obtain⟨W3,d,A,b,-⟩:=sh1 W2 #[zI v.kd,zI v.me,zI v.mo,zI v.id,zI v.te,zI v.de,zI v.fe,zI v.pr,zI v.ch,zI v.un,zI v.tg,zI v.ow,zI v.bp] 3;have j:=shB J b.o;go_upto_region 7 with fail
  rw[d.o];clear d b;generalize W2.heap.size=gl at *;clear m n p r q l Z a1 X Y a0 U a2
  have N:Hid (∀k,k<13→(#[zI v.kd,zI v.me,zI v.mo,zI v.id,zI v.te,zI v.de,zI v.fe,zI v.pr,zI v.ch,zI v.un,zI v.tg,zI v.ow,zI v.bp]:Array Value)[k]?=some (zI ((evL v).getD k 0))):=λk hk=>by
   match k,hk with
   |0,_=>rfl
   |1,_=>rfl
   |2,_=>rfl
   |3,_=>rfl
   |4,_=>rfl
   |5,_=>rfl
   |6,_=>rfl
   |7,_=>rfl
   |8,_=>rfl
   |9,_=>rfl
   |10,_=>rfl
   |11,_=>rfl
   |12,_=>rfl
  go_loopw [6,7] (λu i wr=>∃(k:Nat)(V:Value),V=u∧k≤13∧i=zI (k:Int)∧cell.Ws wr W3.heap.size V ((evL v).take k)∧zB W3 wr) (λ_ i _=>13-(intOf i).toNat)
  case atStart=>exact⟨0,_,rfl,Nat.zero_le _,rfl,cell.Ws.zero _ _,zb⟩
  case round=>
   obtain⟨k,V,hV,hk,rfl,f,H⟩:=hrel;subst hV;have HO:=zh f;have F:=zh H;have ap:=zh A.o.lt;by_cases y:k<13
   ·have ab:decide ((k:Int)<13)=true:=by simp;omega
    have aa:=((A.o.next H).cell k).trans (N.o k y);have HD:=zh (evL_step v k y)
    have hz:=R.o ((evL v).getD k 0) (by
     have hl:k<(evL v).length:=by rw[evL_len];exact y
     rw [List.getD_eq_getElem?_getD,List.getElem?_eq_getElem hl];exact List.getElem_mem hl)
    obtain⟨ar,au⟩:=hz;have P:Hid (((evL v).take k).length≤1000000):=by show _≤_;rw[List.length_take,evL_len];omega
    clear f H;generalize (evL v).getD k 0=z at *;generalize (evL v).take k=fs at *;have HG:Hid ((wr.alloc (.cells #[.int .u32 z] 83)).cell? ⟨wr.heap.size,0,none⟩=some (.int .u32 z)):=(Blk.new wr _ _).cell 0;have C:Hid (cell.Ws (wr.alloc (.cells #[.int .u32 z] 83)) W3.heap.size V fs):=HO.o.alloc _;have D:Hid (W3.heap.size≤(wr.alloc (.cells #[.int .u32 z] 83)).heap.size):=cell.alloc_le F.o.size _;have aq:IntKind.u32.wrap z=z:=by rw[IntKind.wrap_u32];omega
    go_wp2_with (first
     |(at_builtin;refine cell.wp_word rfl _ _ rfl W3.heap.size wr.heap.size _ fs z rfl rfl C.o HG.o P.o D.o ?_)
     | fail)
    intro v' w4 s E;have O:Hid (cell.Ws w4 W3.heap.size v' ((evL v).take (k+1))):=by have:=HD.o;rw[this] at s;exact s
    have K:Hid (zB W3 w4):=cell.own_bel C.o E (F.o.alloc F.o.size _) zc D.o;clear s E;go_wp2_with fail;go_roundw
    case rel=>exact⟨k+1,_,rfl,by omega,by go_num,O.o,K.o⟩
    case measure=>simp[intOf];omega
   ·obtain rfl:k=13:=by omega
    have M:Hid (EncIs v (evL v) 0):=.inl ⟨HM.o,rfl,rfl⟩;have S:Hid (cell.Ws wr W3.heap.size V (evL v)):=by have:=HO.o;rw[List.take_of_length_le (by rw[evL_len];exact zc)] at this;exact this
    have L:=zh (j.o.trans (F.o.mono j.o.size));have ab:decide ((13:Int)<13)=false:=by decide
    clear f H;go_wp2_with fail;go_ret2;exact⟨V,evL v,0,rfl,M.o,ws_low S.o j.o.size,L.o⟩
open acc (Ac Tm Bi APost BPost TFault TRight OpenIs OweIs SellIs GrantIs RekeyIs wf6 ACame TCame fresh_updN fresh_drew came_lt)
def OwPost(w:World)(x:Ac)(d:tar.Du)(e:Ending)(w':World):Prop:=zB w w'∧((∃b pb lb cb,e=.returned (acc.Ac.v b pb lb cb)∧OweIs x d b 0∧deb.Fresh w' w.heap.size pb lb cb b.ds)∨∃b f,f≠0∧e=.panicked (thrown f)∧OweIs x d b f)
theorem bowing(x:Ac)(p:Option Addr)(len cap:Nat)(d:tar.Du)(w:World)(ha:ACame w x p len cap)(hd:(Lit.int .i64 d.a).wf=true∧(Lit.int .i64 d.b).wf=true):Calls Tryz.prog 154 #[.agg #[zI x.me,zI x.rv,zI x.nx,zI x.mo,zI x.bo,zI x.fr,.slice p len cap],.agg #[zI d.a,zI d.b]] w λe w'=>OwPost w x d e w':=by
 have L:Hid (∀(f:Int) (hf:f≠0) W,zC 164 #[zI f] W λe w'=>e=.panicked (thrown f)∧w'=W):=λf hf W=>insist_no f hf W;have M:Hid (∀W,zC 164 #[zI 0] W λe w'=>e=.returned (.tuple #[])∧w'=W):=λW=>insist_ok W;obtain⟨l,P,t,u,z,h,a3⟩:=sh3 w #[zI x.me,zI x.rv,zI x.nx,zI x.mo,zI x.bo,zI x.fr,.slice p len cap] 55 #[zI d.a,zI d.b] 42 #[zI 0,zI 0,zI 0,zI 0,zI 0,zI 0,zS] 55;have s:=zh (ha.below h.o);go_enter Tryz.func154,Tryz.ntmps154;go_upto_region 1 with fail
 rw[P.o];have O:Hid (zC 182 #[.agg #[zI x.me,zI x.rv,zI x.nx,zI x.mo,zI x.bo,zI x.fr,.slice p len cap],.agg #[zI d.a,zI d.b]] l λe w'=>APost l (OweIs x d) e w'):=acc.kowe _ x p len cap d s.o hd;clear hd ha;have N:=zh h.o.size;go_wp2_with refine zw ?_;refine O.o.mono ?_;rintro e w1 ⟨b,r,q,m,f,rfl,X,hf,g⟩;have a2:=g.size;have T:=zh X;have j:=zh hf;obtain⟨Y,B,C⟩:=zn3 g t u z;have A:=shB h g;clear X hf g;unfold acc.Ac.v acc.Ac.cs;go_wp2_with (first|refine zs ?_|refine zw ?_)
 intro U c;have D:=zyb c;obtain⟨E,Z⟩:=zk2 c B C;have i:=zk c A;have k:Hid (deb.Fresh U l.heap.size r q m b.ds):=fresh_updN j.o c (λQ y S=>by have f1:=j.o.new Q y S;omega);clear c;by_cases n:f=0
 case neg=>
  have I:=L.o f n;have J:=zh I;have K:=zh n;clear n;go_wp2_with refine zw ?_;refine(J.o _).mono ?_;rintro e V ⟨rfl,rfl⟩;exact⟨rfl,i.o,.inr ⟨b,f,K.o,rfl,T.o⟩⟩
 subst n;go_wp2_with refine zw ?_;refine(M.o _).mono ?_;rintro e V ⟨rfl,R⟩;obtain rfl:U=V:=R.symm;go_wp2_with (first|refine zs ?_|refine zw ?_)
 intro V2 c;obtain⟨a0,a1⟩:=zk2 c D E;have F:=zk c i;have G:=zyb c;have H:Hid (deb.Fresh V2 l.heap.size r q m b.ds):=fresh_updN k.o c (λQ y S=>by have f1:=k.o.new Q y S;omega);clear c;go_wp2_with fail;exact zr (.agg #[zI b.me,zI b.rv,zI b.nx,zI b.mo,zI b.bo,zI b.fr,.slice r q m]) (by simp[results,Tryz.results154,scl7 G,go_sem]) ⟨F.o,.inl ⟨b,r,q,m,rfl,T.o,H.o.low N.o⟩⟩
end book
namespace words
open Go.RowKit
theorem own_ru{w:World}{base:Nat}{v:Value}{n:Nat}{l:List Nat}(h:w.ownsRow base 83 1 v n (l.map λ(x:Nat)=>Value.int .u32 (x:Int)))(hl:l.length=n)(hlt:∀x∈l,x<4294967296):
  ∃a cap,v=.slice a n cap∧Ru w a n cap l:=by
 rcases h.2 with⟨rfl,rfl⟩|⟨g,cap,j,rfl,o,m,c,_,k,d⟩
 ·exact⟨none,0,rfl,hl,hlt,λ_=>rfl,zc,.inl rfl,λ_ _ _ e _=>by cases e⟩
 ·refine⟨_,cap,rfl,hl,hlt,(λe=>by cases e),c,.inr ⟨g,0,rfl,λi p=>?_⟩,λb f s e _=>by obtain⟨rfl,-,-⟩:=(by simpa using e:g=b∧0=f∧none=s);exact⟨_,_,m⟩⟩;have:=h.cellAt i (by omega);rw[Nat.zero_add,this];simp[List.getD,List.getElem?_eq_getElem (show i<l.length by omega)]
theorem twin_any(a:Option Addr)(n cap m:Nat)(w:World)(hr:Ru w a n cap (dig m))(hl:n≤100):
  Calls Tryz.prog 140 #[.slice a n cap] w λe w'=>Gives w m e w':=by
 obtain⟨H,E,s,t,y⟩:=info_parts info_u32;cases a with
 |none=>
  have r:=hr.nil rfl;have D:n=0:=by have:=hr.room;omega
  subst r D;have A:∀w:World,(Builtin.append_ #[25,25] 25 #[zS,zS]).run Tryz.prog w=.ok (zS) w:=λw=>by kernel_rfl
  have q:Hid (Gives w m (.returned (zS)) w):=Gives.mk hr zb;clear hr;go_enter Tryz.func140,Tryz.ntmps140;go_wp2;go_ret;exact q.o
 |some x=>
  have g:Hid (Ru w (some x) n cap (dig m)):=hr;clear hr;go_enter Tryz.func140,Tryz.ntmps140
  go_wp2_with (first
   |(at_builtin;refine wpList_append_own _ rfl _ _ 25 rfl w.heap.size 83 H (.int .u32 0) 1 4 Tryz.underlying25 E s t y rfl (by decide) _ _ _ rfl (World.ownsRow_nil _ _ _ _) x n cap ((dig m).map λ(x:Nat)=>Value.int .u32 (x:Int)) rfl ?c0 ?c1 ?c2 ?c3 ?c4 ?c5 ?_)
   | go_in)
  case c0=>simp[g.o.len]
  case c5=>exact zc
  case c1=>
   intro j u f;rcases g.o.cell with h|⟨b,I,h,r⟩
   ·rw[List.getElem?_eq_none (by simp[g.o.len];omega)] at f;cases f
   ·obtain rfl:=Option.some.inj h;by_cases p:j<(dig m).length
    ·simp[List.getElem?_eq_getElem p] at f;subst f;have:=r j (by rw[g.o.len] at p;exact p);simpa [Addr.add_lit,List.getD,List.getElem?_eq_getElem p] using this
    ·rw[List.getElem?_eq_none (by simp;omega)] at f;cases f
  case c2=>intro u f;obtain⟨z,_,rfl⟩:=List.mem_map.1 f;rfl
  case c3=>unfold maxLen;omega
  case c4=>omega
  intro J w' c B _;obtain⟨C,i,G,d⟩:=own_ru (l:=dig m) (n:=n) (by simpa using c) g.o.len g.o.lt;rw[G];have q:Hid (Gives w m (.returned (.slice C n i)) w'):=Gives.mk d (zb.grown B zc (λk F=>by simp[Value.ownBlock] at F));clear c B d;go_wp2;go_ret;exact q.o
def lenOf:Value→Nat
 | .slice _ n _=>n
 |_=>0
variable{base g cap L:Nat}{w:World}{xs:List Value}{f:Nat→Int}{v:Value}{n:Nat}
theorem own_len{base e k:Nat}(h:w.ownsRow base e k v n xs):lenOf v=n:=by
 rcases h.2 with⟨rfl,rfl⟩|⟨g,a,b,rfl,_⟩<;>rfl
theorem own_below{w w':World}{base e k:Nat}(h:w.ownsRow base e k v n xs)(hb:zB w w'):w'.ownsRow base e k v n xs:=
 ⟨h.1,h.2.imp id λ⟨g,cap,cur,h1,h2,h3,h4⟩=>⟨g,cap,cur,h1,h2,by rw[hb.block g (heap_lt h3)];exact h3,h4⟩⟩
theorem own_lt{base e k:Nat}(h:w.ownsRow base e k v n xs){g:Nat}(hg:v.ownBlock=some g):base≤g∧g<w.heap.size:=by
 rcases h.2 with⟨rfl,rfl⟩|⟨f,a,b,rfl,d,c,_⟩
 ·simp[Value.ownBlock] at hg
 ·simp[Value.ownBlock] at hg;subst hg;exact⟨d,heap_lt c⟩
theorem Ru.grown{w w':World}{a:Option Addr}{n cap:Nat}{l:List Nat}{row:Option Nat}(h:Ru w a n cap l)(hg:w.grownBy w' row)(hne:∀b off,a=some ⟨b,off,none⟩→some b≠row):Ru w' a n cap l:=by
 refine ⟨h.len,h.lt,h.nil,h.room,?_,fun b off s e f=>(h.typ b off s e f).same (hg.block b (h.typ b off s e f).lt (by
  rcases h.cell with d|⟨k,c,g,_⟩
  ·exact absurd d f
  ·rw[g] at e;obtain⟨rfl,rfl,rfl⟩:=(by simpa using e:k=b∧c=off∧none=s)
   exact hne _ _ g))⟩
 rcases h.cell with d|⟨b,off,rfl,m⟩
 ·exact .inl d
 ·refine .inr ⟨b,off,rfl,λi o=>?_⟩;have j:=m i o;rw[World.cell?_of_block (w:=w) (a:=⟨b,off+i,none⟩) (hg.block b (World.block_lt_of_cell? w _ j) (hne b off rfl))];exact j
def TextInv(m M:Nat)(ds:List Int):Prop:=M≤m∧((M=0∧ds≠[]∧decL m=ds.reverse)∨(0<M∧decL m=decL M++ds.reverse))
theorem text_more{m M:Nat}{ds:List Int}(h:TextInv m M ds)(h0:0<M):TextInv m (M/10) (ds++[48+((M%10:Nat):Int)]):=by
 obtain⟨c,h⟩:=h
 have b:decL m=decL M++ds.reverse:=by
  rcases h with h|h
  ·omega
  ·exact h.2
 refine⟨by omega,?_⟩;by_cases a:M<10
 ·left;refine⟨by omega,by simp,?_⟩;rw[b,decL_one a,Nat.mod_eq_of_lt a];simp
 ·right;refine⟨by omega,?_⟩;rw[b,decL_more a];simp
theorem text_len{m M:Nat}{ds:List Int}(h:TextInv m M ds)(h0:0<M):ds.length<(decL m).length:=by
 rcases h.2 with h|⟨_,h⟩
 ·omega
 ·rw[h];have:0<(decL M).length:=List.length_pos_iff.2 (decL_ne M);simp;omega
theorem dig_mono{M m:Nat}(h:M≤m):(dig M).length≤(dig m).length:=by
 rcases Nat.lt_or_ge (dig m).length (dig M).length with a|a
 ·have:=len_less a;omega
 ·exact a
theorem info_u8:(Tryz.prog.info? 5).map (λi=>(i.zero,i.size,i.bytes))=some (some (.int .u8 0),1,1):=by kernel_rfl
def RB(w:World)(base g cap L:Nat)(f:Nat→Int):Prop:=w.ownsRow base 5 1 (.slice (some ⟨g,0,none⟩) L cap) L ((List.range L).map λk=>Value.int .u8 (f k))
theorem RB.cell(h:RB w base g cap L f){i:Nat}(hi:i<L):w.cell? ⟨g,i,none⟩=some (.int .u8 (f i)):=by
 have:=World.ownsRow.cellAt h i (by omega);rw[this];simp[hi]
theorem RB.free(h:RB w base g cap L f)(i:Nat):w.frozen? ⟨g,i,none⟩=false:=World.ownsRow.frozenAt h i
theorem RB.set(h:RB w base g cap L f)(i:Nat)(v:Int):RB (w.setCell ⟨g,i,none⟩ (.int .u8 v)) base g cap L (updd f i v):=by
 have:=(World.ownsRow.stored h i (.int .u8 v)).1;unfold RB;rw[show ((List.range L).map λk=>Value.int .u8 (updd f i v k))=((List.range L).map λk=>Value.int .u8 (f k)).set i (.int .u8 v) from ?_]
 ·exact this
 ·apply List.ext_getElem?;intro k;by_cases a:k<L
  ·by_cases e:k=i
   ·subst e;simp[updd,a]
   ·rw[List.getElem?_set_ne (by omega)];simp[updd,a,e]
  ·rw[List.getElem?_eq_none (by simp;omega),List.getElem?_eq_none (by simp;omega)]
theorem conv_row(w:World)(base g cap L:Nat)(f:Nat→Int)(h:RB w base g cap L f):
  (convert 195 9 (.slice (some ⟨g,0,none⟩) L cap)).run Tryz.prog w=.ok (.string (strOf ((List.range L).map f))) w:=by
 rw[run_convert_bytes_string _ _ _ _ _ _ _ Tryz.underlying195 Tryz.underlying5 Tryz.underlying9,run_bytesToString _ _ _ _ ((List.range L).map f)]
 ·rfl
 ·have:=run_loadCells (P:=Tryz.prog) w ⟨g,0,none⟩ L (λi=> .int .u8 (f i)) (λj a=>by rw[Addr.add_lit,Nat.zero_add];exact h.cell (by omega));rw[this]
  congr 2
  simp
def Turned(L i:Nat)(d f:Nat→Int):Prop:=∀k,k<L→f k=if k<i∨L-1-i<k then d (L-1-k) else d k
theorem turned_step{L i:Nat}{d f:Nat→Int}(h:Turned L i d f)(hi:i<L-1-i):Turned L (i+1) d (updd (updd f i (f (L-1-i))) (L-1-i) (f i)):=by
 intro k l;have e:=h i (by omega);have g:=h (L-1-i) (by omega);have j:=h k l;rw[if_neg (by omega)] at e g;unfold updd;by_cases a:k=L-1-i
 ·rw[if_pos a,if_pos (by omega),e];congr 1;omega
 ·rw[if_neg a];by_cases b:k=i
  ·rw[if_pos b,if_pos (by omega),g];congr 1;omega
  ·rw[if_neg b,j];by_cases c:k<i∨L-1-i<k
   ·rw[if_pos c,if_pos (by omega)]
   ·rw[if_neg c,if_neg (by omega)]
theorem turned_end{L i:Nat}{d f:Nat→Int}(h:Turned L i d f)(hi:¬ i<L-1-i)(ds:List Int)(hL:ds.length=L)(hd:∀k,d k=ds.getD k 0):(List.range L).map f=ds.reverse:=by
 apply List.ext_getElem (by simp[hL]);intro k a g;have b:k<L:=by simpa using a
 rw[List.getElem_reverse,List.getElem_map,List.getElem_range,h k b]
 have e:d (L-1-k)=ds[ds.length-1-k]:=by
  subst hL;rw[hd];simp[List.getD,List.getElem?_eq_getElem (show ds.length-1-k<ds.length by omega)]
 by_cases c:k<i∨L-1-i<k
 ·rw[if_pos c,e]
 ·rw[if_neg c,← e];congr 1;omega
def StrPost(w:World)(m:Nat)(e:Ending)(w':World):Prop:=e=.returned (.string (strOf (decL m)))∧zB w w'
theorem bg_at{w w':World}{z:Nat}{v:Value}(h:w.heap[z]?=some (.cells #[.bool false,v] 218 (0,0)))(hb:zB w w'):w'.cell? ⟨z,0,none⟩=some (.bool false)∧w'.cell? ⟨z,1,none⟩=some v:=by
 have:=ob_cells (w:=w') (z:=z) (s:=false) (v:=v) (by rw[hb.block z (heap_lt h)];exact h);exact⟨this.1,this.2.1⟩
theorem text_any(z m:Nat)(w:World)(hg:Bg w z m)(h0:0<m)(hl:(dig m).length≤100)(hd:(decL m).length≤100):
  Calls Tryz.prog 95 #[.pointer (some ⟨z,0,none⟩),zI 10] w λe w'=>StrPost w m e w':=by
 obtain⟨i0,hi,a8,a9,aa⟩:=info_parts info_u8;obtain⟨a,n,c,O,hr⟩:=hg
 have aB:n≠0:=by
  intro e;have:=hr.len;rw[e] at this;have:=dig_nil (List.eq_nil_of_length_eq_zero this);omega
 have an:n≤100:=by have:=hr.len;omega
 have HR:Hid (Ru w a n c (dig m)):=hr;have HZ:Hid (w.heap[z]?=some (.cells #[.bool false,.slice a n c] 218 (0,0))):=O;obtain⟨c0,c1⟩:=bg_at O (Below.refl _ w);have aC:((n:Int)==0)=false:=beq_eq_false_iff_ne.2 (by omega);clear hr O;go_enter Tryz.func95,Tryz.ntmps95;go_wp2_with fail;refine(twin_any a n c m w HR.o an).mono ?_;rintro e w1 ⟨a1,n1,k1,rfl,a7,Z⟩;have ag:Hid (Ru w1 a1 n1 k1 (dig m)):=a7;have ab:Hid (zB w w1):=Z;clear a7 Z c0 c1;go_wp2_with fail;go_loopw [5,6] (λG av wr=>∃(V:Value)(M:Nat)(d:List Int)(a:Option Addr)(n c:Nat),V=G∧av=.slice a n c∧Ru wr a n c (dig M)∧wr.ownsRow w.heap.size 5 1 G d.length (d.map (Value.int .u8))∧zB w wr∧TextInv m M d) (λG _ _=>100-lenOf G)
 case atStart=>exact⟨_,m,[],a1,n1,k1,rfl,rfl,ag.o,World.ownsRow_nil _ _ _ _,ab.o,zc,.inr ⟨h0,by simp⟩⟩
 case round=>
  obtain⟨G,M,d,a2,R,k2,N,rfl,s,q,D,t⟩:=hrel;subst N;by_cases hM:M=0
  ·subst hM;have a6:R=0:=by have:=s.len;rw[dig_zero] at this;simpa using this.symm
   subst a6
   obtain⟨hdn,hde⟩:d≠[]∧decL m=d.reverse:=by
    rcases t.2 with h|h
    ·exact h.2
    ·omega
   have X:0<d.length:=List.length_pos_iff.2 hdn;have ak:d.length≤100:=by rw[hde] at hd;simpa using hd
   obtain⟨g,B,N,a5,aw⟩:=q.form X;subst N;obtain⟨L,hLL⟩:∃L,d.length=L:=⟨_,rfl⟩
   have W:Hid (RB wr w.heap.size g B L (λk=>d.getD k 0)):=by
    have e:d.map (Value.int .u8)=(List.range L).map λk=>Value.int .u8 (d.getD k 0):=by
     apply List.ext_getElem (by simp[hLL]);intro k h1 h2;simp[List.getD,List.getElem?_eq_getElem (show k<d.length by simpa using h1)]
    have C:RB wr w.heap.size g B L (λk=>d.getD k 0):=by
     unfold RB;rw[← e,← hLL];exact q
    exact C
   rw[hLL] at X ak;rw[hLL];obtain⟨c0,c1⟩:=bg_at HZ.o D;have HB:Hid (zB w wr):=D;have HD:Hid (decL m=d.reverse∧d.length=L):=⟨hde,hLL⟩
   clear q D t hde hdn hLL s hd hi a8 a9 aa;go_wp2_with fail;go_loopw [8,9] (λiv jv wr=>∃(i:Nat)(f:Nat→Int),i≤L∧iv=zI (i:Int)∧jv=zI ((L:Int)-1-(i:Int))∧i≤(L-i)+1∧RB wr w.heap.size g B L f∧zB w wr∧Turned L i (λk=>d.getD k 0) f) (λiv _ _=>L-(intOf iv).toNat)
   case atStart=>exact⟨0,_,Nat.zero_le _,rfl,by congr 1;omega,by omega,W.o,HB.o,λk hk=>by rw[if_neg (by omega)]⟩
   case round=>
    obtain⟨i,f,ax,rfl,rfl,ay,l,p,I⟩:=hrel;by_cases H:i<L-1-i
    ·have ej:(L:Int)-1-(i:Int)=((L-1-i:Nat):Int):=by omega
     have r0:=l.cell (i:=i) (by omega);have r1:=l.cell (i:=L-1-i) (by omega);have f0:=l.free i;have f1:=l.free (L-1-i);have HT:Hid (Turned L (i+1) (λk=>d.getD k 0) (updd (updd f i (f (L-1-i))) (L-1-i) (f i))):=turned_step I H;have HN:Hid (RB ((wr.setCell ⟨g,i,none⟩ (.int .u8 (f (L-1-i)))).setCell ⟨g,L-1-i,none⟩ (.int .u8 (f i))) w.heap.size g B L (updd (updd f i (f (L-1-i))) (L-1-i) (f i))):=(l.set _ _).set _ _;have S:Hid (zB w ((wr.setCell ⟨g,i,none⟩ (.int .u8 (f (L-1-i)))).setCell ⟨g,L-1-i,none⟩ (.int .u8 (f i)))):=below_set (below_set p _ _ _ a5) _ _ _ a5;have HJ:Hid (((L-1-i:Nat):Int)-1=(L:Int)-1-((i+1:Nat):Int)):=(by omega:((L-1-i:Nat):Int)-1=(L:Int)-1-((i+1:Nat):Int))
     rw[ej];have az:L-1-i<L:=by omega
     have ao:i<L-1-i:=H;have r2:=(l.set i (f (L-1-i))).cell (i:=L-1-i) (by omega);have f2:=(l.set i (f (L-1-i))).free (L-1-i);clear l p I ej H;obtain⟨x,hx⟩:∃x,f i=x:=⟨_,rfl⟩
     obtain⟨y,hy⟩:∃y,f (L-1-i)=y:=⟨_,rfl⟩
     rw[hx,hy] at HT HN S;rw[hx] at r0;rw[hy] at r1 r2 f2;clear hx hy;generalize updd f i y (L-1-i)=yy at r2;generalize aA:L-1-i=j at *;go_wp2_with fail;go_roundw
     case rel=>exact⟨i+1,_,by omega,by go_num,by rw[HJ.o],by omega,HN.o,S.o,HT.o⟩
     case measure=>simp[intOf];omega
    ·have aq:¬ (i:Int)<(L:Int)-1-(i:Int):=by omega
     have al:=conv_row wr w.heap.size g B L f l;rw[turned_end I H d HD.o.2 λ_=>rfl,← HD.o.1] at al;have A:Hid (zB w wr):=p;clear l p I;go_wp2_with fail;go_ret;exact⟨rfl,A.o⟩
  ·have Y:0<M:=by omega
   have a6:R≠0:=by
    intro e;have:=s.len;rw[e] at this;have:=dig_nil (List.eq_nil_of_length_eq_zero this);omega
   have am:R≤100:=by have:=s.len;have:=dig_mono t.1;omega
   have au:d.length<100:=by have:=text_len t Y;omega
   have aj:Hid (TextInv m (M/10) (d++[48+((M%10:Nat):Int)])):=text_more t Y;have ai:Hid (Ru wr a2 R k2 (dig M)):=s;have T:Hid (wr.ownsRow w.heap.size 5 1 G d.length (d.map (Value.int .u8))):=q;have ac:Hid (zB w wr):=D;have ap:0<(R:Int):=by omega
   clear s q D t hM;go_wp2_with fail;refine(small_any a2 R k2 10 (dig M) wr ai.o am (by omega) (by omega)).mono ?_;rintro e w3 ⟨a3,n3,k3,rfl,P,p,a4⟩;rw[nv_dig] at P;rw[nv_dig];have ar:M%10<10:=Nat.mod_lt _ (by decide);generalize aF:M%10=r at *;have K:Hid (w3.ownsRow w.heap.size 5 1 G d.length (d.map (Value.int .u8))):=own_below T.o p
   have U:Hid (Ru w3 a3 n3 k3 (dig (M / 10))∧∀ b Q,a3=some ⟨b,Q,none⟩→some b≠G.ownBlock):=⟨P,fun b Q e h=>by
    have h1:=own_lt T.o h.symm;have h2:=a4 b Q e
    omega⟩
   have A:=shB ac p;have aD:(r:Int)<10:=by omega
   have aE:(48+(r:Int))%256=48+(r:Int):=by omega
   clear P p a4
   go_wp2_with (first
    | (at_builtin;refine wpList_append_lies _ rfl _ _ 195 rfl w.heap.size 5 i0 (.int .u8 0) 1 1 Tryz.underlying195 hi a8 a9 aa rfl (by decide) _ _ _ rfl (K.o.alloc _) ⟨w3.heap.size,0,none⟩ 1 1 [.int .u8 (48+(r:Int))] rfl rfl ?c1 ?c2 (by decide) ?c3 ?c4 ?c5 _ rfl ?_))
   case c1=>
    intro j u hj
    match j,hj with
    |0,hj=>simp at hj;subst hj;simp[Addr.add]
   case c2=>intro u hu;simp at hu;subst hu;rfl
   case c3=>unfold maxLen;omega
   case c4=>omega
   case c5=>have:=A.o.size;simp;omega
   intro g4 J w4 F E _ _
   have af:Hid (w4.ownsRow w.heap.size 5 1 (.slice (some ⟨g4,0,none⟩) (d.length+1) J) (d++[48+(r:Int)]).length ((d++[48+(r:Int)]).map (Value.int .u8))):=by
    have C:w4.ownsRow w.heap.size 5 1 (.slice (some ⟨g4,0,none⟩) (d.length+1) J) (d++[48+(r:Int)]).length ((d++[48+(r:Int)]).map (Value.int .u8)):=by
     simpa using F
    exact C
   have ah:Hid (Ru w4 a3 n3 k3 (dig (M/10))):=(U.o.1.below ((Below.refl _ w3).alloc zc _)).grown E U.o.2
   have ad:Hid (zB w w4):=by
    have a0:=A.o.alloc (A.o.size) (.cells #[.int .u8 (48+(r:Int))] 5);exact a0.grown E a0.size (λk hk=>(own_lt K.o hk).1)
   have ae:Hid (lenOf G=d.length):=own_len K.o;clear F E;go_wp2_with fail;go_roundw
   case rel=>exact⟨_,M/10,_,a3,n3,k3,rfl,rfl,ah.o,af.o,ad.o,aj.o⟩
   case measure=>rw[ae.o];simp[lenOf];omega
end words
end Go.Proofs.YtoepgdhiepedeaaGreatDoor
