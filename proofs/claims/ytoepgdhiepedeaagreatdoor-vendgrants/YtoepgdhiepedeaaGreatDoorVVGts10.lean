import Derived.Test.YtoepgdhiepedeaaGreatDoorVVGts2
import Derived.Test.YtoepgdhiepedeaaGreatDoorVVGts8
set_option linter.unusedVariables false
set_option linter.unusedSimpArgs false
set_option maxHeartbeats 4000000
set_option maxRecDepth 100000
namespace Go.Proofs.YtoepgdhiepedeaaGreatDoor
namespace book
open Go.RowKit
structure Cu where
 me:Int
 rv:Int
 nx:Int
 mo:Int
 bo:Int
 fr:Int
 dp:Option Addr
 dn:Nat
 dc:Nat
 sp:Option Addr
 sn:Nat
 sc:Nat
def cu0:Cu:=⟨0,0,0,0,0,0,none,0,0,none,0,0⟩
def Cu.cs(x:Cu):List Value:=[zI x.me,zI x.rv,zI x.nx,zI x.mo,zI x.bo,zI x.fr,.slice x.dp x.dn x.dc,.slice x.sp x.sn x.sc]
def cellsC:List Cu→List Value
 |[]=>[]
 |x::l=>x.cs++cellsC l
theorem cellsC_len(l:List Cu):(cellsC l).length=l.length*8:=by
 induction l with
 |nil=>rfl
 |cons e l ih=>rw[cellsC,List.length_append,ih,List.length_cons];show 8+_=_;omega
theorem cellsC_app(l m:List Cu):cellsC (l++m)=cellsC l++cellsC m:=by
 induction l with
 |nil=>rfl
 |cons e l ih=>rw[List.cons_append,cellsC,cellsC,ih,List.append_assoc]
theorem oneC(l:List Cu):∀u∈cellsC l,u.oneCell'=true:=by
 induction l with
 |nil=>intro u a;cases a
 |cons e l ih=>
  intro u a;rw[cellsC] at a;rcases List.mem_append.1 a with a|a
  ·simp only[Cu.cs,List.mem_cons,List.not_mem_nil,or_false] at a;rcases a with rfl|rfl|rfl|rfl|rfl|rfl|rfl|rfl<;>rfl
  ·exact ih u a
theorem cellsC_at(l:List Cu)(k j:Nat)(hk:k<l.length)(hj:j<8):(cellsC l)[k*8+j]?=(l.getD k cu0).cs[j]?:=by
 induction l generalizing k with
 |nil=>simp at hk
 |cons x l ih=>
  have a:x.cs.length=8:=rfl;cases k with
  |zero=>rw[Nat.zero_mul,Nat.zero_add,cellsC,List.getElem?_append_left (by omega)];rfl
  |succ k=>
   rw[show (k+1)*8+j=x.cs.length+(k*8+j) by omega,cellsC,List.getElem?_append_right (by omega),Nat.add_sub_cancel_left];exact ih k (by simpa using hk)
def RowC(w:World)(a:Option Addr)(n:Nat)(l:List Cu):Prop:=l.length=n∧(n=0∨∃b off,a=some ⟨b,off,none⟩∧b<w.heap.size∧∀i j,i<n→j<8→w.cell? ⟨b,off+i*8+j,none⟩=(l.getD i cu0).cs[j]?)
variable{l:List Cu}
theorem RowC.below{w w':World}{a:Option Addr}{n:Nat}(h:RowC w a n l)(hb:zB w w'):RowC w' a n l:=by
 refine⟨h.1,?_⟩;rcases h.2 with e|⟨b,c,rfl,d,f⟩
 ·exact .inl e
 ·exact .inr ⟨b,c,rfl,Nat.lt_of_lt_of_le d hb.size,λi j g k=>(hb.cell (p:=⟨b,c+i*8+j,none⟩) d).trans (f i j g k)⟩
def Lc(w:World)(base:Nat)(v:Value)(l:List Cu):Prop:=w.ownsRow base 71 8 v l.length (cellsC l)
theorem Lc.zero(w:World)(base:Nat):Lc w base (zS) []:=World.ownsRow_nil _ _ _ _
theorem Lc.next{w w':World}{base:Nat}{v:Value}(h:Lc w base v l)(hb:zB w w'):Lc w' base v l:=by
 refine⟨h.1,?_⟩;rcases h.2 with e|⟨g,a,b,f,d,c,rest⟩
 ·exact .inl e
 ·exact .inr ⟨g,a,b,f,d,Blk.next c hb,rest⟩
theorem Lc.row{w:World}{base:Nat}{v:Value}(h:Lc w base v l):∃a cap,v=.slice a l.length cap∧RowC w a l.length l∧(a=none→cap=0)∧l.length≤cap:=by
 rcases h.2 with⟨b,c⟩|⟨g,cap,d,b,_,k,f,_⟩
 ·exact⟨none,0,by rw[c];exact b,⟨rfl,.inl c⟩,λ_=>rfl,by omega⟩
 ·subst b;refine⟨_,cap,rfl,⟨rfl,.inr ⟨g,0,rfl,Blk.lt k,λi j m n=>?_⟩⟩,(λh=>by cases h),f⟩;have e:=World.ownsRow.cellAt h (i*8+j) (by omega);rw[Nat.zero_add,e];exact cellsC_at l i j m n
theorem custI:(Tryz.prog.info? 71).map (λi=>(i.zero,i.size,i.bytes))=some (some (.agg cu0.cs.toArray),8,96):=by kernel_rfl
theorem step_cust{w:World}{o:Oper}{a:Act}{K:Act→World→Prop}{Q:Exit→Act→World→Prop}(s x:Operand)
  (ho:o.op=.call { callee:=.builtin .append,args:=#[s,x],argTypes:=#[63,63] })
  (base G:Nat) (v:Value) (l:List Cu) (r:Cu) (hs:a.eval s=v) (hx:a.eval x=.slice (some ⟨G,0,none⟩) 1 1) (hv:Lc w base v l) (hu:Blk w G r.cs.toArray 71) (hn:l.length≤2000000) (hbase:base≤w.heap.size)
  (h:∀v' w',Lc w' base v' (l++[r])→w.grownBy w' v.ownBlock→(v'.ownBlock=v.ownBlock∨v'.ownBlock=some w.heap.size)→K (a.put o.dst v') w'):Oper.wp Tryz.prog o a w K Q:=by
 obtain⟨n,k,b,c,d⟩:=info_parts custI
 obtain ⟨v',w',m,f,g,_,i⟩:=run_append_own_at (P:=Tryz.prog) w base 63 o.type 71 n (.agg cu0.cs.toArray) 8 96 Tryz.underlying63 k b c d rfl (by decide) v l.length (cellsC l) hv ⟨G,0,none⟩ 1 1 (cellsC [r]) (by rw [cellsC_len];rfl) (by
  intro j u e;rw[Addr.add_lit,Nat.zero_add,hu.cell j];rw[cellsC,cellsC,List.append_nil] at e
  simpa using e) (oneC [r]) (by unfold maxLen;omega) (by omega) hbase
 unfold Oper.wp execOp;simp only[ho,resolve,invoke,builtin,Sem.run_bind,Sem.run_pure,Result.andThen_ok,List.map_toArray,List.map_cons,List.map_nil,hs,hx,m];refine h v' w' ?_ g i;unfold Lc;rw[List.length_append,cellsC_app];exact f
def FindIs(l:List Cu)(me at_ f:Int):Prop:=(∃k,k<l.length∧(l.getD k cu0).me=me∧(∀j,j<k→(l.getD j cu0).me≠me)∧at_=(k:Int)∧f=0)∨((∀j,j<l.length→(l.getD j cu0).me≠me)∧at_=0∧f=18)
def FoundIs(l:List Cu)(me at_:Int):Prop:=(∃k,k<l.length∧(l.getD k cu0).me=me∧(∀j,j<k→(l.getD j cu0).me≠me)∧at_=(k:Int))∨((∀j,j<l.length→(l.getD j cu0).me≠me)∧at_=-1)
end book
namespace acc
open tar (Du du0 Came RowD Ld PairT)
open Go.RowKit
variable{p:Option Addr}{l:List Du}{new:Array Value}{len cap:Nat}{w W:World}{t:TypeId}{g base:Nat}
theorem row_upd{g:Nat}{len:Nat}(h:RowD w p len l)(hU:Upd w W g new t)(hg:0<len→∀x,p=some x→x.block≠g):RowD W p len l:=by
 refine⟨h.1,?_⟩;rcases h.2 with d|⟨b,a,rfl,e⟩
 ·exact .inl d
 ·refine .inr ⟨b,a,rfl,λi f=>?_⟩;have c:b≠g:=hg (by omega) _ rfl;rw[hU.cell ⟨b,a+i*2,none⟩ c rfl,hU.cell ⟨b,a+i*2+1,none⟩ c rfl];exact e i f
theorem came_upd{g:Nat}(h:Came w p len cap l)(hU:Upd w W g new t)(hg:0<len→∀x,p=some x→x.block≠g):Came W p len cap l:=⟨row_upd h.row hU hg,h.nil,h.room,h.bytes,h.wf⟩
theorem fresh_upd(h:deb.Fresh w base p len cap l)(hU:Upd w W g new t)(hg:g<base):deb.Fresh W base p len cap l:=⟨came_upd h.came hU (λa x b=>by have:=h.new a x b;omega),h.new⟩
theorem fresh_updN(h:deb.Fresh w base p len cap l)(hU:Upd w W g new t)(hg:0<len→∀x,p=some x→x.block≠g):deb.Fresh W base p len cap l:=⟨came_upd h.came hU hg,h.new⟩
theorem fresh_drew{w:World}{base:Nat}(h:deb.Fresh w base p len cap l):deb.Fresh w.drew base p len cap l:=⟨⟨h.came.row,h.came.nil,h.came.room,h.came.bytes,h.came.wf⟩,h.new⟩
theorem ld_upd{T:TypeId}{v:Value}(h:Ld T w base v l)(hU:Upd w W g new t)(hg:g<base):Ld T W base v l:=by
 refine⟨h.1,?_⟩;rcases h.2 with d|⟨q,a,b,f,e,c,rest⟩
 ·exact .inl d
 ·exact .inr ⟨q,a,b,f,e,hU.keep c (by omega),rest⟩
theorem ld_ne{T t:TypeId}{w:World}{base G n cap:Nat}{a:Option Addr}{cs:Array Value}(h:Ld T w base (.slice a n cap) l)(hB:Blk w G cs t)(ht:t≠T):0<n→∀x,a=some x→x.block≠G:=λm x j e=>by
 rcases h.2 with⟨c,_⟩|⟨q,k,d,c,o,i,_⟩
 ·injection c with h1 h2 h3
  omega
 ·injection c with h1 h2 h3
  rw[j] at h1;have g:=Option.some.inj h1;subst g;have f:=e;subst f;have b:=i;unfold Blk at hB b;rw[hB] at b;injection b with h5
  injection h5 with _ h6
  exact ht h6
theorem came_lt{w:World}(h:Came w p len cap l):0<len→∀x,p=some x→x.block<w.heap.size:=λd x a=>by
 obtain⟨b,f,e,c,_⟩:=h.row.at d;rw[e] at a;cases a;exact c
end acc
namespace cell
open Go.RowKit
def GaveU(w:World)(zs:List Int)(e:Ending)(w':World):Prop:=∃v,e=.returned v∧Ws w' w.heap.size v zs∧zB w w'
theorem GaveU.mk{w w':World}{zs:List Int}{v:Value}(h1:Ws w' w.heap.size v zs)(h2:zB w w'):GaveU w zs (.returned v) w':=⟨v,rfl,h1,h2⟩
end cell
namespace book
open Go.RowKit
def leftE(v:Ev):Ev:=if v.kd=2 then ⟨0,0,0,0,0,0,0,0,0,0,0,v.ow,v.bp⟩ else if v.kd=3 then ⟨0,0,0,0,v.te,v.de,v.fe,v.pr,v.ch,0,0,v.ow,v.bp⟩ else if v.kd=4 then ⟨0,0,v.mo,0,v.te,v.de,v.fe,v.pr,v.ch,v.un,0,v.ow,v.bp⟩ else if v.kd=5 then ⟨0,0,v.mo,v.id,v.te,v.de,v.fe,v.pr,v.ch,v.un,v.tg,0,0⟩ else ⟨0,0,v.mo,v.id,v.te,v.de,v.fe,v.pr,v.ch,v.un,v.tg,v.ow,v.bp⟩
def Numd(id tg:Int):Prop:=(1≤id∧id≤1048575)∧0≤tg∧tg≤65535
def Unt(un:Int):Prop:=1≤un∧un≤2097151
def Mon(mo:Int):Prop:=0≤mo∧mo≤2399
def Mony(te de fe pr ch:Int):Prop:=(1≤te∧te≤100000000)∧((0≤de∧de≤100000000)∧(0≤fe∧fe≤100000000)∧(0≤pr∧pr≤100000000)∧0≤ch∧ch≤100000000)∧de+fe+pr+ch=te
def Dbt(ow bp:Int):Prop:=(1≤ow∧ow≤1000000000)∧0≤bp∧bp≤10000
def KindR(v:Ev):Prop:=v.kd=1∨(v.kd=2∧Mon v.mo∧Numd v.id v.tg∧Unt v.un∧Mony v.te v.de v.fe v.pr v.ch)∨(v.kd=3∧Mon v.mo∧Numd v.id v.tg∧Unt v.un)∨(v.kd=4∧Numd v.id v.tg)∨(v.kd=5∧Dbt v.ow v.bp)
theorem may_iff(v:Ev):EMay v↔(0≤v.me∧v.me≤49)∧KindR v∧leftE v=ev0:=by
 obtain⟨a,m,n,l,q,j,k,p,i,s,r,o,g⟩:=v;unfold EMay KindR leftE ev0 Numd Unt Mon Mony Dbt;simp only;by_cases b:a=1
 ·subst b;simp
 by_cases d:a=2
 ·subst d;simp;intro _ _;constructor<;>intro h<;>omega
 by_cases e:a=3
 ·subst e;simp;intro _ _;constructor<;>intro h<;>omega
 by_cases f:a=4
 ·subst f;simp;intro _ _;constructor<;>intro h<;>omega
 by_cases c:a=5
 ·subst c;simp;intro _ _;constructor<;>intro h<;>omega
 constructor
 ·rintro⟨_,h|h|h⟩
  ·exact absurd h.1 b
  ·exact absurd h.1 c
  ·have:=h.1;omega
 ·rintro⟨_,h|h|h|h|h,_⟩
  ·exact absurd h b
  ·exact absurd h.1 d
  ·exact absurd h.1 e
  ·exact absurd h.1 f
  ·exact absurd h.1 c
variable{v:Ev}
theorem kind_2(h:v.kd=2):KindR v↔Mon v.mo∧Numd v.id v.tg∧Unt v.un∧Mony v.te v.de v.fe v.pr v.ch:=by simp[KindR,h]
theorem kind_3(h:v.kd=3):KindR v↔Mon v.mo∧Numd v.id v.tg∧Unt v.un:=by simp[KindR,h]
theorem kind_4(h:v.kd=4):KindR v↔Numd v.id v.tg:=by simp[KindR,h]
theorem kind_5(h:v.kd=5):KindR v↔Dbt v.ow v.bp:=by simp[KindR,h]
def YN(w:World)(P:Prop)(e:Ending)(w':World):Prop:=∃B,e=.returned (.bool B)∧(B=true↔P)∧zB w w'
theorem YN.yes{w w':World}{P:Prop}(h:P)(hb:zB w w'):YN w P (.returned (.bool true)) w':=⟨true,rfl,⟨λ_=>h,λ_=>rfl⟩,hb⟩
theorem YN.no{w w':World}{P:Prop}(h:¬ P)(hb:zB w w'):YN w P (.returned (.bool false)) w':=⟨false,rfl,⟨λq=>(by cases q),λq=>absurd q h⟩,hb⟩
end book
namespace deb
open tar (Du du0 Came TwoPost)
open Go.RowKit
def KdAge:Prop:=∀(W:World)(a:Option Addr)(len cap:Nat)(ls:List Du)(m:Int),Came W a len cap ls→(Lit.int .i64 m).wf=true→zC 144 #[.slice a len cap,zI m] W λe w'=>AgePost W ls m e w'
open tar (RowD Ld ErrPost PairT GaveD)
theorem grow_more{b x:Int}(hx:0≤x)(hx1:x≤1000000000)(hb:0≤b):grow b x=x+min (x*b/10000) (1000000000-x):=by
 unfold grow;have:=Int.mul_nonneg hx hb;generalize x*b=p at *;omega
theorem pgrowth(x b:Int)(w:World)(hx:0≤x∧x≤1000000000)(hb:0≤b∧b≤10000):Calls Tryz.prog 180 #[.agg #[zI x,zI b]] w λe w'=>e=.returned (zI (min (x*b/10000) (1000000000-x)))∧zB w w':=by
 have g:Hid (∀W,zC 68 #[zI x,zI b] W λe w'=>e=.returned (.tuple #[zI (x*b/10000),zI 0])∧zB W w'):=λW=>cents.part_yes x b W hx.1 (by omega) hb.1 hb.2;have c:Hid (Blk (w.alloc (.cells #[zI x,zI b] 42)) w.heap.size #[zI x,zI b] 42):=Blk.new w _ _;have f:Hid (zB w (w.alloc (.cells #[zI x,zI b] 42))):=zb.alloc zc _;obtain⟨j,k⟩:=hx;clear hb;have h:=tar.run_min (x*b/10000) (1000000000-x) _ rfl;generalize x*b/10000=q at *;generalize min q (1000000000-x)=m at *;go_enter Tryz.func180,Tryz.ntmps180;go_wp2_with fail;refine(g.o _).mono ?_;rintro e i ⟨rfl,a⟩;have d:=shB f a;have c0:i.cell? ⟨w.heap.size,0,none⟩=some (zI x):=(c.o.next a).cell 0;have c1:i.cell? ⟨w.heap.size,1,none⟩=some (zI b):=(c.o.next a).cell 1;clear a;go_wp2_with fail;go_ret;exact⟨rfl,d.o⟩
end deb
namespace tar
variable{l:List Du}
theorem ov_before(h:Right l)(x y z:Int)(k j:Nat)(hk:k<l.length)(hj:j<k)(hy:low l k≤y)(hz:low l k≤z):ov (low l j) (l.getD j du0).a x z=ov (low l j) (l.getD j du0).a x y:=by
 have b:=low_mono h (j+1) k (by omega) (by omega);rw[low_next] at b;unfold ov;omega
theorem costK_before(h:Right l)(x y z:Int)(k j:Nat)(hk:k<l.length)(hj:j≤k)(hy:low l k≤y)(hz:low l k≤z):costK l x z j=costK l x y j:=by
 induction j with
 |zero=>rfl
 |succ j ih=>rw[costK_next,costK_next,ih (by omega),ov_before h x y z k j hk (by omega) hy hz]
theorem costK_behind(h:Right l)(x z:Int)(k j:Nat)(hkj:k≤j)(hj:j≤l.length)(hz:z≤low l k):costK l x z j=costK l x z k:=by
 induction j with
 |zero=>
  have:k=0:=by omega
  subst this;rfl
 |succ j ih=>
  by_cases e:k=j+1
  ·subst e;rfl
  ·have b:=ih (by omega) (by omega);have c:=low_mono h k j (by omega) (by omega);rw[costK_next,b,show ov (low l j) (l.getD j du0).a x z=0 by unfold ov;omega];omega
theorem cost_part(h:Right l)(x y:Int)(hx:0≤x)(hxy:x≤y)(k:Nat)(hk:k<l.length)(q:Int)(hq:0≤q)(hq2:q≤ov (low l k) (l.getD k du0).a x y)(hp:0<ov (low l k) (l.getD k du0).a x y):
  cost l x (x+(manyK l x y k+q))=costK l x y k+q*(l.getD k du0).b:=by
 have c:=many_eq h x y hx hxy k (by omega);have g:=h.rise k hk;have i:=h.low_pos k (by omega);have d:low l k≤y:=by unfold ov at hp;omega
 have f:low l k≤x+(manyK l x y k+q):=by rw[c];omega
 have e:x+(manyK l x y k+q)≤low l (k+1):=by rw[c,low_next];unfold ov at hq2 hp;omega
 unfold cost;rw[costK_behind h x _ (k+1) l.length (by omega) zc e,costK_next,costK_before h x y _ k k hk zc d f];rw[show ov (low l k) (l.getD k du0).a x (x+(manyK l x y k+q))=q by rw[c];unfold ov at hq2 hp ⊢;omega]
theorem bill_at(l:List Du)(x y:Int)(n:Nat)(p:List Tr)(t:Tr)(h:p++[t] <+: billK l x y n):∃k,k<n∧p=billK l x y k∧0<ov (low l k) (l.getD k du0).a x y∧t=⟨ov (low l k) (l.getD k du0).a x y,(l.getD k du0).b,ov (low l k) (l.getD k du0).a x y*(l.getD k du0).b⟩:=by
 induction n with
 |zero=>
  have:=h.length_le;simp[billK] at this
 |succ n ih=>
  by_cases c:0<ov (low l n) (l.getD n du0).a x y
  ·rw[billK_yes l x y n c] at h;rcases List.prefix_concat_iff.1 h with h|h
   ·obtain⟨d,e⟩:=List.append_inj' h rfl;exact⟨n,by omega,d,c,by simpa using e⟩
   ·obtain⟨k,a,b⟩:=ih h;exact⟨k,by omega,b⟩
  ·rw[billK_no l x y n c] at h;obtain⟨k,a,b⟩:=ih h;exact⟨k,by omega,b⟩
theorem top_bd{x:Int}(hx:0≤x∧x≤10000000):0≤Top x∧x+Top x≤10000000:=by unfold Top;omega
theorem most_all(h:Right l)(x m:Int)(hx:0≤x∧x≤10000000)(hm:sumC (billK l x (x+Top x) l.length)≤m):MostOf l x m (sumA (billK l x (x+Top x) l.length))∧sumC (billK l x (x+Top x) l.length)=cost l x (x+sumA (billK l x (x+Top x) l.length)):=by
 have c:=top_bd hx;have b:=bill_sums l x (x+Top x) l.length;have d:=many_all h x (x+Top x) hx.1 (by omega) c.2;have e:sumA (billK l x (x+Top x) l.length)=Top x:=by rw[b.1,d];omega
 have a:sumC (billK l x (x+Top x) l.length)=cost l x (x+Top x):=b.2;rw[e,a];rw[a] at hm;exact⟨⟨⟨c.1,Int.le_refl _⟩,hm,.inl rfl⟩,rfl⟩
theorem most_cut(h:Right l)(x m q:Int)(hx:0≤x∧x≤10000000)(p:List Tr)(t:Tr)(hpre:p++[t] <+: billK l x (x+Top x) l.length)(hq0:0≤q)(hq:q<t.a)(h1:sumC p+q*t.b≤m)(h2:m<sumC p+(q+1)*t.b):
  MostOf l x m (sumA p+q)∧sumC p+q*t.b=cost l x (x+(sumA p+q)):=by
 have n:=top_bd hx;obtain⟨k,f,rfl,g,rfl⟩:=bill_at l x (x+Top x) l.length p t hpre;have d:=bill_sums l x (x+Top x) k;rw[d.1,d.2];rw[d.2] at h1 h2;dsimp only at hq h1 h2 ⊢;have e:=cost_part h x (x+Top x) hx.1 (by omega) k f q hq0 (by omega) g;have i:=cost_part h x (x+Top x) hx.1 (by omega) k f (q+1) (by omega) (by omega) g;have j:=many_bd h x (x+Top x) hx.1 (by omega) k (by omega);have c:=many_bd h x (x+Top x) hx.1 (by omega) (k+1) (by omega);rw[many_next] at c;rw[e];refine⟨⟨⟨by omega,by omega⟩,by rw[e];exact h1,.inr ?_⟩,rfl⟩;rw[show manyK l x (x+Top x) k+q+1=manyK l x (x+Top x) k+(q+1) by omega,i];exact h2
theorem sums_bd(l:List Tr)(h:∀t∈l,LineOk t):(0≤sumA l∧sumA l≤(l.length:Int)*10000000)∧0≤sumC l:=by
 induction l with
 |nil=>exact⟨⟨Int.le_refl _,Int.le_refl _⟩,Int.le_refl _⟩
 |cons t l ih=>
  have m:=ih λx j=>h x (List.mem_cons_of_mem _ j);obtain⟨k,b,d,f,g⟩:=h t List.mem_cons_self;have i:=prod_bd (show 0≤t.a by omega) b d f;rw[← g] at i;have e:((t::l).length:Int)=(l.length:Int)+1:=by simp
  rw[e,Int.add_mul];exact⟨⟨by show 0≤t.a+sumA l;omega,by show t.a+sumA l≤_;omega⟩,by show 0≤t.c+sumC l;omega⟩
theorem quo_bd{d p q:Int}(hd:0≤d)(hp:1≤p)(hq:d/p=q):0≤q∧q*p≤d∧d<(q+1)*p∧q≤d:=by
 subst hq;have b:=Int.ediv_nonneg hd (show 0≤p by omega);have a:=Int.mul_ediv_self_le (x:=d) (k:=p) (by omega);have c:=Int.lt_mul_ediv_self_add (x:=d) (k:=p) (by omega);have e:d/p≤d:=Int.ediv_le_self _ hd;rw[Int.mul_comm] at a c;exact⟨b,a,by rw[Int.add_mul];omega,e⟩
theorem snoc_one{p:List Ln}{t:Ln}:lns (p++[t])=lns p++[t.1]:=by rw[lns_app];rfl
theorem sums_one(p:List Ln)(t:Ln):sumA (lns (p++[t]))=sumA (lns p)+t.1.a∧sumC (lns (p++[t]))=sumC (lns p)+t.1.c:=by
 rw[snoc_one,sumA_app,sumC_app];exact⟨by show _+(t.1.a+0)=_;omega,by show _+(t.1.c+0)=_;omega⟩
end tar
section
open Go.RowKit
variable{P:Program}{F:Fence}{n:Nat}
theorem operIn_round(hro:F.round=none)(l:Nat){o:Oper}(hd:∀c,o.op ≠ .defer c){a:Act}{w:World}{K K':Act→World→Prop}{Q:Exit→Act→World→Prop}(hK:∀a w,K a w→K' a w)(h:o.wpIn F n P a w K Q):o.wpIn (F.inRound l) n P a w K' Q:=by
 have d:=Oper.wpIn_mono hK h;unfold Oper.wpIn at *;refine⟨d.1,?_⟩;have b:=d.2;rw[hro,Oper.semAt_none] at b;rw[Fence.inRound_round,Oper.semAt_some l _ _ hd];generalize (execOp a.eval o).run P w=r at *;cases r with
 |ok x w'=>cases x<;>exact b
 |halt x w'=>cases x<;>exact b
theorem opsIn_round{ops:Array Oper}{Q:Exit→Act→World→Prop}(hro:F.round=none)(l:Nat)(hd:∀(i:Nat)(o:Oper),ops[i]?=some o→∀c,o.op ≠ .defer c):∀(s:List Nat)(a:Act)(w:World),wpOpsIn F n P ops Q s a w→wpOpsIn (F.inRound l) n P ops Q s a w
 |[],_,_,h=>h
 |i::s,a,w,h=>by
  unfold wpOpsIn at h ⊢;cases hi:ops[i]? with
  |none=>rw[hi] at h;exact opsIn_round hro l hd s a w h
  |some o=>
   rw[hi] at h;dsimp only at h ⊢;by_cases hw:Region.wanted o (yielded ops a.tmps)=true
   ·rw[if_pos hw] at h ⊢;exact operIn_round hro l (hd i o hi) (λa w h=>opsIn_round hro l hd s a w h) h
   ·rw[if_neg hw] at h ⊢;exact⟨h.1,opsIn_round hro l hd s _ w h.2⟩
def noDefer(l:List Oper):Bool:=l.all λo=>match o.op with | .defer _=>false|_=>true
theorem noDefer_spec{l:List Oper}(h:noDefer l=true)(i:Nat)(o:Oper)(ho:l.toArray[i]?=some o)(c:Call):o.op ≠ .defer c:=by
 intro e
 have b:o∈l:=by
  have:l[i]?=some o:=by simpa using ho
  exact List.mem_of_getElem? this
 have a:=List.all_eq_true.1 h o b;rw[e] at a;exact Bool.noConfusion a
theorem round_quiet{id:Nat}{Q:Exit→Act→World→Prop}{a:Act}{w:World}{l:List Oper}{r:Nat}(hro:F.round=none)(hm:P.follows .mixedOrders=true)(hB:Region.lexB .any l.toArray=true)(hd:noDefer l=true)
  (h:wpQuietIn F n P l.toArray (λw'=>∃n,w'=w.drewN n) (λa'=>∀w',(∃n,w'=w.drewN n)→Q .normal a' w') l a):(Code.region id l.toArray true).wpIn (F.inRound r) n P Q a w:=by
 simp only[Region.lexB,Bool.and_eq_true] at hB;refine wpIn_region_draw λt=>opsIn_round hro r (noDefer_spec hd) _ _ _ ?_;simp only[Region.schedule,hm,Bool.true_or,if_true];refine wpAnyIn_sound _ t _ a _ ?_;refine wpAnyIn_of_quiet (C:=λw'=>∃n,w'=w.drewN n) (Q:=λa'=>∀w',(∃n,w'=w.drewN n)→Q .normal a' w') hro (λ_ w' b h=>h w' b) _ _ _ _ ⟨1,rfl⟩ ?_;have:=wpAnyQIn_lex (F:=F) (n:=n) (C:=λw'=>∃n,w'=w.drewN n) (md:=.any) hB.1 l 0 (Array.replicate l.toArray.size false) a (by simp) (by simpa using hB.2) h;simpa using this
end
namespace deb
open tar (Du du0 Came TwoPost)
open Go.RowKit
def KdTotal:Prop:=∀(W:World)(a:Option Addr)(len cap:Nat)(ls:List Du),Came W a len cap ls→zC 96 #[.slice a len cap] W λe w'=>TwoPost W (OwedIs ls) e w'
end deb
namespace acc
open tar (Du)
open Go.RowKit
def KcOwe:Prop:=∀(W:World)(x:Ac)(p:Option Addr)(len cap:Nat)(q:Du),ACame W x p len cap→(Lit.int .i64 q.a).wf=true∧(Lit.int .i64 q.b).wf=true→zC 182 #[x.v p len cap,.agg #[zI q.a,zI q.b]] W λe w'=>APost W (OweIs x q) e w'
end acc
end Go.Proofs.YtoepgdhiepedeaaGreatDoor
