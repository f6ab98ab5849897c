import Derived.Test.YtoepgdhiepedeaaGreatDoorVVGts4
import Derived.Test.YtoepgdhiepedeaaGreatDoorVVGts5
set_option linter.unusedVariables false
set_option linter.unusedSimpArgs false
set_option maxHeartbeats 4000000
set_option maxRecDepth 100000
namespace Go.Proofs.YtoepgdhiepedeaaGreatDoor
namespace book
structure So where
 id:Int
 cl:Int
 am:Int
 tg:Int
 rv:Int
def so0:So:=⟨0,0,0,0,0⟩
end book
namespace tar
open Go.RowKit
def RowL(w:World)(a:Option Addr)(len:Nat)(ls:List Tr):Prop:=
 ls.length=len∧(len=0∨∃b off,a=some ⟨b,off,none⟩∧∀i,i<len→w.cell? ⟨b,off+i*3,none⟩=some (zI (ls.getD i tr0).a)∧w.cell? ⟨b,off+i*3+1,none⟩=some (zI (ls.getD i tr0).b)∧w.cell? ⟨b,off+i*3+2,none⟩=some (zI (ls.getD i tr0).c))
theorem RowL.at{w:World}{a:Option Addr}{n:Nat}{zs:List Tr}(h:RowL w a n zs)(h0:0<n):∃b off,a=some ⟨b,off,none⟩∧b<w.heap.size∧∀i,i<n→w.cell? ⟨b,off+i*3,none⟩=some (zI (zs.getD i tr0).a)∧w.cell? ⟨b,off+i*3+1,none⟩=some (zI (zs.getD i tr0).b)∧w.cell? ⟨b,off+i*3+2,none⟩=some (zI (zs.getD i tr0).c):=by
 rcases h.2 with e|⟨b,off,rfl,d⟩
 ·omega
 ·exact⟨b,off,rfl,World.block_lt_of_cell? w _ (d 0 h0).1,d⟩
def ErrPost(w:World)(R:Int→Prop)(e:Ending)(w':World):Prop:=∃f,e=.returned (zI f)∧R f∧zB w w'
def ValPost(w:World)(z:Int)(e:Ending)(w':World):Prop:=e=.returned (zI z)∧zB w w'
def TwoPost(w:World)(R:Int→Int→Prop)(e:Ending)(w':World):Prop:=∃p f,e=.returned (.tuple #[zI p,zI f])∧R p f∧zB w w'
def ThreePost(w:World)(R:Int→Int→Int→Prop)(e:Ending)(w':World):Prop:=∃u p f,e=.returned (.tuple #[zI u,zI p,zI f])∧R u p f∧zB w w'
structure Came (w:World) (a:Option Addr) (len cap:Nat) (ls:List Du):Prop where
 row:RowD w a len ls
 nil:a=none→cap=0
 room:len≤cap
 bytes:len*16≤140737488351232
 wf:∀x∈ls,(Lit.int .i64 x.a).wf=true∧(Lit.int .i64 x.b).wf=true
theorem Came.below{w w':World}{a:Option Addr}{len cap:Nat}{ls:List Du}(h:Came w a len cap ls)(hb:zB w w'):Came w' a len cap ls:=⟨h.row.below hb,h.nil,h.room,h.bytes,h.wf⟩
theorem Came.most{w:World}{a:Option Addr}{len cap:Nat}{ls:List Du}(h:Came w a len cap ls):len≤maxLen:=by have:=h.bytes;unfold maxLen;omega
theorem Ld.came{T:TypeId}{w:World}{base:Nat}{v:Value}{l:List Du}(h:Ld T w base v l)(hl:l.length*16≤140737488351232)(hw:∀x∈l,(Lit.int .i64 x.a).wf=true∧(Lit.int .i64 x.b).wf=true):∃a cap,v=.slice a l.length cap∧Came w a l.length cap l:=by
 obtain⟨a,cap,f,e,d,c,_⟩:=h.row;exact⟨a,cap,f,e,d,c,hl,hw⟩
def GaveD(T:TypeId)(w:World)(zs:List Du)(e:Ending)(w':World):Prop:=∃v,e=.returned v∧Ld T w' w.heap.size v zs∧zB w w'
theorem GaveD.mk{T:TypeId}{w w':World}{zs:List Du}{v:Value}(h1:Ld T w' w.heap.size v zs)(h2:zB w w'):GaveD T w zs (.returned v) w':=⟨v,rfl,h1,h2⟩
theorem wf_mid{z:Int}(h0:0≤z)(h1:z≤4000000000000):(Lit.int .i64 z).wf=true:=by
 have h1:IntKind.i64.min≤z:=by
  have e:IntKind.i64.min=-9223372036854775808:=by decide
  omega
 have a:z≤IntKind.i64.max:=by
  have e:IntKind.i64.max=9223372036854775807:=by decide
  omega
 show (decide (IntKind.i64.min≤z)&&decide (z≤IntKind.i64.max))=true;rw[Bool.and_eq_true];exact⟨decide_eq_true h1,decide_eq_true a⟩
theorem MostIs.got{l:List Du}{x m u p e:Int}(h:MostIs l x m u p e)(hR:Right l)(hM:MayMost x m):e=0∧MostOf l x m u∧p=cost l x (x+u):=by
 rcases h with⟨a,_⟩|⟨_,b,_⟩|⟨_,_,c,d⟩
 ·exact absurd hR a
 ·exact absurd hM b
 ·exact⟨c,d⟩
end tar
namespace deb
open tar (Du du0 Came RowD Ld ErrPost TwoPost PairT GaveD)
open Go.RowKit
structure Fresh (w:World) (base:Nat) (a:Option Addr) (len cap:Nat) (ls:List Du):Prop where
 came:Came w a len cap ls
 new:0<len→∀x,a=some x→base≤x.block
def RecPost(w:World)(l:List Du)(t bp:Int)(e:Ending)(w':World):Prop:=∃a len cap z p f,e=.returned (.tuple #[.slice a len cap,zI p,zI f])∧RecIs l t bp z p f∧Fresh w' w.heap.size a len cap z∧zB w w'
def AgePost(w:World)(l:List Du)(m:Int)(e:Ending)(w':World):Prop:=∃a len cap z f,e=.returned (.tuple #[.slice a len cap,zI f])∧AgeIs l m z f∧Fresh w' w.heap.size a len cap z∧zB w w'
variable{a:Option Addr}{l:List Du}{base:Nat}{w:World}{T:TypeId}
theorem Mays.wf(h:Mays l):∀x∈l,(Lit.int .i64 x.a).wf=true∧(Lit.int .i64 x.b).wf=true:=λx e=>by
 obtain⟨⟨c,f⟩,d,g⟩:=mem_fits h.2 x e;exact⟨tar.wf_mid c (by omega),tar.wf_mid d (by omega)⟩
theorem ld_mays{v:Value}(h:Ld T w base v l)(hm:Mays l):∃a cap,v=.slice a l.length cap∧Came w a l.length cap l:=h.came (by have:=hm.1;omega) hm.wf
theorem ld_new{n cap:Nat}(h:Ld T w base (.slice a n cap) l):0<n→∀x,a=some x→base≤x.block:=λc x b=>by
 subst b;exact(World.ownsRow.lt h x.block rfl).1
theorem ld_fresh{v:Value}(h:Ld T w base v l)(hm:Mays l):∃a cap,v=.slice a l.length cap∧Fresh w base a l.length cap l:=by
 obtain⟨a,cap,rfl,b⟩:=ld_mays h hm;exact⟨a,cap,rfl,b,ld_new h⟩
theorem Fresh.low{base base':Nat}{len cap:Nat}{ls:List Du}(h:Fresh w base a len cap ls)(hb:base'≤base):Fresh w base' a len cap ls:=⟨h.came,λb x c=>Nat.le_trans hb (h.new b x c)⟩
theorem Fresh.below{w w':World}{len cap:Nat}{ls:List Du}(h:Fresh w base a len cap ls)(hb:zB w w'):Fresh w' base a len cap ls:=⟨h.came.below hb,h.new⟩
theorem came_nil(w:World):Came w none 0 0 []:=⟨tar.RowD.nil _ _,λ_=>rfl,zc,by omega,λx a=>by cases a⟩
theorem fresh_nil(w:World)(base:Nat):Fresh w base none 0 0 []:=⟨came_nil w,λh=>absurd h (Nat.lt_irrefl _)⟩
end deb
namespace check
open Go.RowKit
theorem len_eq(s:ByteArray):s.data.toList.length=s.size:=Array.length_toList
end check
namespace book
open Go.RowKit
def Ev.v(x:Ev):Value:=.agg #[zI x.kd,zI x.me,zI x.mo,zI x.id,zI x.te,zI x.de,zI x.fe,zI x.pr,zI x.ch,zI x.un,zI x.tg,zI x.ow,zI x.bp]
def Ev.cs(x:Ev):Array Value:=#[zI x.kd,zI x.me,zI x.mo,zI x.id,zI x.te,zI x.de,zI x.fe,zI x.pr,zI x.ch,zI x.un,zI x.tg,zI x.ow,zI x.bp]
def wf13(x:Ev):Prop:=(Lit.int .i64 x.kd).wf=true∧(Lit.int .i64 x.me).wf=true∧(Lit.int .i64 x.mo).wf=true∧(Lit.int .i64 x.id).wf=true∧(Lit.int .i64 x.te).wf=true∧(Lit.int .i64 x.de).wf=true∧(Lit.int .i64 x.fe).wf=true∧(Lit.int .i64 x.pr).wf=true∧(Lit.int .i64 x.ch).wf=true∧(Lit.int .i64 x.un).wf=true∧(Lit.int .i64 x.tg).wf=true∧(Lit.int .i64 x.ow).wf=true∧(Lit.int .i64 x.bp).wf=true
theorem wf_may{x:Ev}(h:EMay x):wf13 x:=by
 have a:=may_word h
 have q:∀z,0≤z∧z<4294967296→(Lit.int .i64 z).wf=true:=λz b=>by
  simp only[Lit.wf,Bool.and_eq_true,decide_eq_true_eq];rw[show IntKind.i64.min=-9223372036854775808 from by decide,show IntKind.i64.max=9223372036854775807 from by decide];omega
 exact⟨q _ (a _ (by simp[evL])),q _ (a _ (by simp[evL])),q _ (a _ (by simp[evL])),q _ (a _ (by simp[evL])),q _ (a _ (by simp[evL])),q _ (a _ (by simp[evL])),q _ (a _ (by simp[evL])),q _ (a _ (by simp[evL])),q _ (a _ (by simp[evL])),q _ (a _ (by simp[evL])),q _ (a _ (by simp[evL])),q _ (a _ (by simp[evL])),q _ (a _ (by simp[evL]))⟩
end book
namespace disk
open Go.RowKit
structure Sli where
 a:Option Addr
 n:Nat
 c:Nat
def Sli.v(s:Sli):Value:=.slice s.a s.n s.c
def sl0:Sli:=⟨none,0,0⟩
def cellsR(l:List Sli):List Value:=l.map Sli.v
theorem oneR(l:List Sli):∀u∈cellsR l,u.oneCell'=true:=λu a=>by
 obtain⟨s,_,rfl⟩:=List.mem_map.1 a;rfl
def Lr(T:TypeId)(w:World)(base:Nat)(v:Value)(l:List Sli):Prop:=w.ownsRow base T 1 v l.length (cellsR l)
theorem Lr.zero(T:TypeId)(w:World)(base:Nat):Lr T w base (zS) []:=World.ownsRow_nil _ _ _ _
variable{l:List Sli}{zs:List (List Int)}{T:TypeId}{base:Nat}{w:World}
theorem Lr.alloc{v:Value}(h:Lr T w base v l)(o:Obj):Lr T (w.alloc o) base v l:=World.ownsRow.alloc h o
theorem Lr.next{w w':World}{v:Value}(h:Lr T w base v l)(hb:zB w w'):Lr T w' base v l:=by
 refine⟨h.1,?_⟩;rcases h.2 with e|⟨g,a,b,f,d,c,rest⟩
 ·exact .inl e
 ·exact .inr ⟨g,a,b,f,d,Blk.next c hb,rest⟩
theorem Lr.row{v:Value}(h:Lr T w base v l)(h0:0<l.length):∃g cap,v=.slice (some ⟨g,0,none⟩) l.length cap∧base≤g∧g<w.heap.size∧l.length≤cap∧∀i,i<l.length→w.cell? ⟨g,i,none⟩=some (l.getD i sl0).v:=by
 rcases h.2 with⟨a,k⟩|⟨g,cap,b,a,f,e,d,_⟩
 ·omega
 ·subst a;refine⟨g,cap,rfl,f,Blk.lt e,d,λi j=>?_⟩;have c:=World.ownsRow.cellAt h i (by omega);rw[c];simp[cellsR,List.getD,j]
theorem Lr.len{v:Value}(h:Lr T w base v l):∃a cap,v=.slice a l.length cap:=by
 rcases h.2 with⟨b,d⟩|⟨g,cap,c,b,_⟩
 ·exact⟨none,0,by rw[d];exact b⟩
 ·exact⟨_,cap,b⟩
structure SliT (P:Program) (T S:TypeId):Prop where
 info:(P.info? T).map (λi=>(i.zero,i.size,i.bytes))=some (some (sl0.v),1,24)
 under:P.underlying S=some (.slice T)
theorem wp_sli{P:Program}{T S:TypeId}(hP:SliT P T S){w:World}{ops:Array Oper}{rest:List Oper}{o:Oper}{a:Act}{Q:Exit→Act→World→Prop}(hgd:o.guard=none)(s x:Operand)
  (ho:o.op=.call { callee:=.builtin .append,args:=#[s,x],argTypes:=#[S,S] })
  (base G:Nat) (v:Value) (l:List Sli) (r:Sli) (hs:a.eval s=v) (hx:a.eval x=.slice (some ⟨G,0,none⟩) 1 1) (hv:Lr T w base v l) (hu:w.cell? ⟨G,0,none⟩=some r.v) (hn:l.length≤1000000) (hbase:base≤w.heap.size)
  (h:∀v' w',Lr T w' base v' (l++[r])→w.grownBy w' v.ownBlock→(v'.ownBlock=v.ownBlock∨v'.ownBlock=some w.heap.size)→wpList P ops Q rest (a.put o.dst v') w'):wpList P ops Q (o::rest) a w:=by
 obtain⟨m,k,c,d,e⟩:=info_parts hP.info;refine wpList_append_own_at w hgd s x S ho base T m (sl0.v) 1 24 hP.under k c d e rfl (by decide) v l.length (cellsR l) hs hv ⟨G,0,none⟩ 1 1 (cellsR [r]) hx rfl ?_ (oneR [r]) (by unfold maxLen;omega) (by omega) hbase ?_
 ·intro j u b
  match j,b with
  |0,b=>simp[cellsR] at b;subst b;simpa [Addr.add] using hu
  |j+1,b=>simp[cellsR] at b
 intro v' w' f g _ i;refine h v' w' ?_ g i;unfold Lr;rw[List.length_append];unfold cellsR at *;rw[List.map_append];exact f
def Recs(w:World)(own:Option Nat)(l:List Sli)(zs:List (List Int)):Prop:=l.length=zs.length∧∀i,i<l.length→(∃b off,(l.getD i sl0).a=some ⟨b,off,none⟩∧b<w.heap.size∧some b≠own)∧cell.RowU w (l.getD i sl0).a (l.getD i sl0).n (zs.getD i [])
theorem Recs.nil(w:World)(own:Option Nat):Recs w own [] []:=⟨rfl,λi a=>by cases a⟩
theorem Recs.below{w w':World}{own:Option Nat}(h:Recs w own l zs)(hb:zB w w'):Recs w' own l zs:=⟨h.1,λi g=>by
 obtain⟨⟨b,a,c,d,e⟩,f⟩:=h.2 i g
 exact ⟨⟨b,a,c,Nat.lt_of_lt_of_le d hb.size,e⟩,f.below hb⟩⟩
theorem Recs.snoc{own:Option Nat}(h:Recs w own l zs){s:Sli}{z:List Int}(hs:(∃b off,s.a=some ⟨b,off,none⟩∧b<w.heap.size∧some b≠own)∧cell.RowU w s.a s.n z):Recs w own (l++[s]) (zs++[z]):=by
 refine⟨by rw[List.length_append,List.length_append,h.1];rfl,λi g=>?_⟩;by_cases f:i<l.length
 ·have d:(l++[s]).getD i sl0=l.getD i sl0:=by simp[List.getD,List.getElem?_append_left f]
  have e:(zs++[z]).getD i []=zs.getD i []:=by simp[List.getD,List.getElem?_append_left (show i<zs.length from h.1▸f)]
  rw[d,e];exact h.2 i f
 ·have c:i=l.length:=by simp at g;omega
  have d:(l++[s]).getD i sl0=s:=by rw[c];simp[List.getD]
  have e:(zs++[z]).getD i []=z:=by rw[c,h.1];simp[List.getD]
  rw[d,e];exact hs
theorem Recs.grown{w w':World}{own own':Option Nat}(h:Recs w own l zs)(hg:w.grownBy w' own)(ho:own'=own∨own'=some w.heap.size):Recs w' own' l zs:=⟨h.1,λi d=>by
 obtain⟨⟨b,f,c,j,k⟩,m⟩:=h.2 i d;have q:=hg.block b j k;refine⟨⟨b,f,c,Nat.lt_of_lt_of_le j hg.size,?_⟩,m.1,?_⟩
 ·rcases ho with rfl|rfl
  ·exact k
  ·intro e;have:=Option.some.inj e;omega
 ·rcases m.2 with p|⟨n,a,e,r⟩
  ·exact .inl p
  ·rw[c] at e;have g:=Option.some.inj e;have o:b=n:=congrArg Addr.block g;subst o;refine .inr ⟨b,a,by rw[c,g],λi d=>?_⟩;rw[← r i d]
   simp [World.cell?,q]⟩
end disk
namespace cell
open Go.RowKit
def arr(zs:List Int):Array Value:=(zs.map (Value.int .u32)).toArray
theorem arr_set(zs:List Int)(i:Nat)(v:Int):(arr zs).setIfInBounds i (.int .u32 v)=arr (zs.set i v):=by
 unfold arr;apply Array.ext';simp[List.map_set]
theorem Blk.rowU{w:World}{G n:Nat}{zs:List Int}{t:TypeId}(h:Blk w G (arr zs) t)(hn:zs.length=n):RowU w (some ⟨G,0,none⟩) n zs:=by
 refine⟨hn,.inr ⟨G,0,rfl,λi a=>?_⟩⟩;rw[Nat.zero_add,h.cell i];unfold arr;simp[List.getD,show i<zs.length by omega]
theorem Blk.word{w:World}{G:Nat}{zs:List Int}{t:TypeId}(h:Blk w G (arr zs) t)(i:Nat)(hi:i<zs.length):w.cell? ⟨G,i,none⟩=some (.int .u32 (zs.getD i 0)):=by
 rw[h.cell i];unfold arr;simp[List.getD,hi]
theorem made_zero(n:Nat):madeCells (Value.int .u32 0).cells (n*1)=arr (List.replicate n 0):=by
 unfold madeCells arr;apply Array.ext';simp[Value.cells];apply List.ext_getElem
 ·simp
 ·intro i a b;simp[Nat.mod_one]
theorem make_u32(n:Nat)(h:n≤100000)(w:World):(Instr.makeSlice 25 (zI (n:Int)) (zI (n:Int))).run Tryz.prog w=.ok (.slice (some ⟨w.heap.size,0,none⟩) n n) (w.alloc (.cells (arr (List.replicate n 0)) 83)):=by
 obtain⟨e,d,a,b,c⟩:=info_parts info_u32;have:=run_make (P:=Tryz.prog) w 25 83 e (.int .u32 0) Tryz.underlying25 d a .i64 .i64 n n (by omega) (by omega) (by rw[c];omega) (by omega);rw[b] at this;simp only[Int.toNat_natCast] at this;rw[made_zero] at this;exact this
end cell
namespace disk
open Go.RowKit cell
theorem length_any(a:Option Addr)(n cap p:Nat)(c:List Int)(w:World)(h:RowU w a n c)(hn:n≤2048)(hp:p≤n)(hw:∀x∈c,0≤x∧x<4294967296):
  Calls Tryz.prog 132 #[.slice a n cap,zI (p:Int)] w λe w'=>e=.returned (zI (lenAt c p))∧w'=w:=by
 have l:=h.1;by_cases r:p=n
 ·have j:lenAt c p=0:=by unfold lenAt;rw[if_pos (.inl (by omega))]
  rw[j];have q:((p:Int)==(n:Int))=true:=by simp;omega
  clear j h hw l hp;go_enter Tryz.func132,Tryz.ntmps132;go_wp2_with fail;go_ret;exact⟨rfl,rfl⟩
 ·obtain⟨b,o,rfl,u,m⟩:=h.at (by omega);have c0:=m p (by omega);have t:p<n:=by omega
  have q:((p:Int)==(n:Int))=false:=by simp;omega
  have j:=hw (c.getD p 0) (by rw[List.getD_eq_getElem?_getD,List.getElem?_eq_getElem (by omega)];exact List.getElem_mem _);have i:Hid (lenAt c p=if p=c.length∨c.getD p 0=0 then 0 else if 64<c.getD p 0 then -1 else if (c.length:Int)≤p+c.getD p 0 then -1 else c.getD p 0):=rfl;have g:Hid (c.length=n):=l;generalize c.getD p 0=z at *;obtain⟨B,C⟩:=j;clear h hw m u hp r l;by_cases f:z=0
  ·have d:lenAt c p=0:=by rw[i.o,if_pos (.inr f)]
   rw[d];subst f;clear d;go_enter Tryz.func132,Tryz.ntmps132;go_wp2_with fail;go_ret;exact⟨rfl,rfl⟩
  ·have y:(z==0)=false:=by simpa using f
   by_cases k:64<z
   ·have d:lenAt c p=-1:=by rw[i.o,if_neg (by have:=g.o;omega),if_pos k]
    rw[d];clear d f;go_enter Tryz.func132,Tryz.ntmps132;go_wp2_with fail;go_ret;exact⟨rfl,rfl⟩
   ·have s:z≤64:=by omega
    by_cases A:(n:Int)≤p+z
    ·have d:lenAt c p=-1:=by rw[i.o,if_neg (by have:=g.o;omega),if_neg k,if_pos (by have:=g.o;omega)]
     rw[d];clear d f;go_enter Tryz.func132,Tryz.ntmps132;go_wp2_with fail;go_ret;exact⟨rfl,rfl⟩
    ·have d:lenAt c p=z:=by rw[i.o,if_neg (by have:=g.o;omega),if_neg k,if_neg (by have:=g.o;omega)]
     rw[d];clear d f;go_enter Tryz.func132,Tryz.ntmps132;go_wp2_with fail;go_ret;exact⟨rfl,rfl⟩
end disk
namespace cell
open Go.RowKit
def RowW(w:World)(a:Option Addr)(len:Nat)(ls:List Wr):Prop:=
 ls.length=len∧(len=0∨∃b off,a=some ⟨b,off,none⟩∧∀i,i<len→w.cell? ⟨b,off+i*2,none⟩=some (zI (ls.getD i wr0).p)∧w.cell? ⟨b,off+i*2+1,none⟩=some (.int .u32 (ls.getD i wr0).d))
theorem RowW.below{w w':World}{a:Option Addr}{n:Nat}{zs:List Wr}(h:RowW w a n zs)(hb:zB w w'):RowW w' a n zs:=by
 refine⟨h.1,?_⟩;rcases h.2 with e|⟨b,c,rfl,f⟩
 ·exact .inl e
 ·refine .inr ⟨b,c,rfl,λi g=>?_⟩;have d:=f i g;rw[hb.cell (p:=⟨b,c+i*2,none⟩) (World.block_lt_of_cell? w _ d.1),hb.cell (p:=⟨b,c+i*2+1,none⟩) (World.block_lt_of_cell? w _ d.2)];exact d
theorem RowW.nil(w:World)(a:Option Addr):RowW w a 0 []:=⟨rfl,.inl rfl⟩
variable{w:World}
theorem RowW.at{a:Option Addr}{n:Nat}{zs:List Wr}(h:RowW w a n zs)(h0:0<n):∃b off,a=some ⟨b,off,none⟩∧b<w.heap.size∧∀i,i<n→w.cell? ⟨b,off+i*2,none⟩=some (zI (zs.getD i wr0).p)∧w.cell? ⟨b,off+i*2+1,none⟩=some (.int .u32 (zs.getD i wr0).d):=by
 rcases h.2 with e|⟨b,off,rfl,c⟩
 ·omega
 ·exact⟨b,off,rfl,World.block_lt_of_cell? w _ (c 0 h0).1,c⟩
def cellsW:List Wr→List Value
 |[]=>[]
 |e::l=>zI e.p :: .int .u32 e.d::cellsW l
theorem cellsW_app(l m:List Wr):cellsW (l++m)=cellsW l++cellsW m:=by
 induction l with
 |nil=>rfl
 |cons e l ih=>simp[cellsW,ih]
theorem oneW(l:List Wr):∀u∈cellsW l,u.oneCell'=true:=by
 induction l with
 |nil=>intro u a;cases a
 |cons e l ih=>
  intro u a;simp only[cellsW,List.mem_cons] at a;rcases a with rfl|rfl|a
  ·rfl
  ·rfl
  ·exact ih u a
theorem cellsW_at(l:List Wr)(k:Nat)(hk:k<l.length):(cellsW l)[k*2]?=some (zI (l.getD k wr0).p)∧(cellsW l)[k*2+1]?=some (.int .u32 (l.getD k wr0).d):=by
 induction l generalizing k with
 |nil=>simp at hk
 |cons x l ih=>
  cases k with
  |zero=>exact⟨rfl,rfl⟩
  |succ k=>
   rw[show (k+1)*2=k*2+1+1 by omega];have:=ih k (by simpa using hk);simpa [cellsW] using this
def Lw(w:World)(base:Nat)(v:Value)(l:List Wr):Prop:=w.ownsRow base 85 2 v l.length (cellsW l)
theorem Lw.zero(w:World)(base:Nat):Lw w base (zS) []:=World.ownsRow_nil _ _ _ _
theorem Lw.alloc{base:Nat}{v:Value}{l:List Wr}(h:Lw w base v l)(o:Obj):Lw (w.alloc o) base v l:=World.ownsRow.alloc h o
theorem Lw.row{base:Nat}{v:Value}{l:List Wr}(h:Lw w base v l):∃a cap,v=.slice a l.length cap∧RowW w a l.length l∧(a=none→cap=0)∧l.length≤cap∧(∀x,a=some x→x.off=0∧x.spot=none):=by
 rcases h.2 with⟨b,c⟩|⟨g,cap,d,b,_,_,j,_⟩
 ·exact⟨none,0,by rw[c];exact b,⟨rfl,.inl c⟩,λ_=>rfl,by omega,λx h=>by cases h⟩
 ·subst b;refine⟨_,cap,rfl,⟨rfl,.inr ⟨g,0,rfl,λi k=>?_⟩⟩,(λh=>by cases h),j,λx h=>by cases h;exact⟨rfl,rfl⟩⟩;have e:=World.ownsRow.cellAt h (i*2) (by omega);have f:=World.ownsRow.cellAt h (i*2+1) (by omega);rw[Nat.zero_add,e,f];exact cellsW_at l i k
theorem info_wr:(Tryz.prog.info? 85).map (λi=>(i.zero,i.size,i.bytes))=some (some (.agg #[zI 0,.int .u32 0]),2,16):=by kernel_rfl
theorem wp_write{ops:Array Oper}{rest:List Oper}{o:Oper}{a:Act}{Q:Exit→Act→World→Prop}(hgd:o.guard=none)(s x:Operand)
  (ho:o.op=.call { callee:=.builtin .append,args:=#[s,x],argTypes:=#[31,31] })
  (base G:Nat) (v:Value) (l:List Wr) (r:Wr) (hs:a.eval s=v) (hx:a.eval x=.slice (some ⟨G,0,none⟩) 1 1) (hv:Lw w base v l) (hu:w.cell? ⟨G,0,none⟩=some (zI r.p)∧w.cell? ⟨G,1,none⟩=some (.int .u32 r.d)) (hn:l.length≤1000000) (hbase:base≤w.heap.size)
  (h:∀v' w',Lw w' base v' (l++[r])→w.grownBy w' v.ownBlock→wpList Tryz.prog ops Q rest (a.put o.dst v') w'):wpList Tryz.prog ops Q (o::rest) a w:=by
 obtain⟨m,k,c,e,f⟩:=info_parts info_wr;refine wpList_append_own w hgd s x 31 ho base 85 m (.agg #[zI 0,.int .u32 0]) 2 16 Tryz.underlying31 k c e f rfl (by decide) v l.length (cellsW l) hs hv ⟨G,0,none⟩ 1 1 (cellsW [r]) hx rfl ?_ (oneW [r]) (by unfold maxLen;omega) (by omega) hbase ?_
 ·intro j u b
  match j,b with
  |0,b=>simp[cellsW] at b;subst b;simpa [Addr.add] using hu.1
  |1,b=>simp[cellsW] at b;subst b;simpa [Addr.add] using hu.2
  |j+2,b=>simp[cellsW] at b
 intro v' w' g i _;refine h v' w' ?_ i;unfold Lw;rw[List.length_append,cellsW_app];exact g
end cell
namespace disk
open Go.RowKit cell
def Reads(w:World)(a:Option Addr)(n:Nat)(zs:List (List Int)):Prop:=
 zs.length=n∧(n=0∨∃b off,a=some ⟨b,off,none⟩∧b<w.heap.size∧∀i,i<n→∃s:Sli,w.cell? ⟨b,off+i,none⟩=some s.v∧RowU w s.a s.n (zs.getD i [])∧s.n≤100000)
def ReadsF(w:World)(base:Nat)(a:Option Addr)(n:Nat)(zs:List (List Int)):Prop:=
 zs.length=n∧(n=0∨∃b off,a=some ⟨b,off,none⟩∧base≤b∧b<w.heap.size∧∀i,i<n→∃s:Sli,w.cell? ⟨b,off+i,none⟩=some s.v∧RowU w s.a s.n (zs.getD i [])∧(s.n≤100000∧s.n≤s.c∧(s.a=none→s.c=0))∧∀x,s.a=some x→base≤x.block)
theorem ReadsF.reads{w:World}{base:Nat}{a:Option Addr}{n:Nat}{zs:List (List Int)}(h:ReadsF w base a n zs):Reads w a n zs:=by
 refine⟨h.1,?_⟩;rcases h.2 with d|⟨b,c,rfl,_,l,j⟩
 ·exact .inl d
 ·exact .inr ⟨b,c,rfl,l,λi k=>by obtain⟨s,e,f,g,_⟩:=j i k;exact⟨s,e,f,g.1⟩⟩
def RepNew(w:World)(c:List Int)(e:Ending)(w':World):Prop:=
 ∃a n cap out x f,e=.returned (.tuple #[.slice a n cap,zI x,zI f])∧ReadsF w' w.heap.size a n out∧n≤100000∧RepIs c out x f∧zB w w'
def AppGot(w:World)(c r:List Int)(e:Ending)(w':World):Prop:=
 ∃a n cap ls f,e=.returned (.tuple #[.slice a n cap,zI f])∧RowW w' a n ls∧(∀x,a=some x→w.heap.size≤x.block)∧n≤cap∧n≤100000∧AppIs c r ls f∧zB w w'
end disk
namespace ora
open Go.RowKit
set_option maxRecDepth 100000
def Told(w : World)(P : Prop)(e : Ending)(w' : World): Prop := ∃r : Bool, e=.returned (.bool r) ∧ (r = true ↔ P) ∧ zB w w'
variable{l : List Pr}{a : Option Addr}{n cap : Nat}{w w' : World}
theorem Told.yes{P : Prop}(h : P)(hb : zB w w'): Told w P (.returned (.bool true)) w' := ⟨true, rfl, by simp[h], hb⟩
theorem Told.no{P : Prop}(h : ¬ P)(hb : zB w w'): Told w P (.returned (.bool false)) w' := ⟨false, rfl, by simp[h], hb⟩
def TagPost(w : World)(l : List Pr)(m r b : Int)(e : Ending)(w' : World): Prop :=
 zB w w' ∧ ((∃i : Nat, At l m r b i ∧ e=.returned (.int .i64 (i : Int))) ∨ (No l m r b ∧ e=.returned (.int .i64 (-1))))
structure Bo (w wr : World) (a : Option Addr) (n cap : Nat) (l : List Pr) : Prop where
 box : Blk wr w.heap.size #[.slice a n cap] 28
 row : RowP wr a n l
 bel : zB w wr
theorem Bo.next{w wr w' : World}(h : Bo w wr a n cap l)(hb : zB wr w'): Bo w w' a n cap l := ⟨h.box.next hb, h.row.below hb, bel_step h.bel hb⟩
theorem Bo.alloc{w wr : World}(h : Bo w wr a n cap l)(o : Obj): Bo w (wr.alloc o) a n cap l := h.next (zb.alloc zc _)
theorem Bo.new{w : World}(h : RowP w a n l): Bo w (w.alloc (.cells #[.slice a n cap] 28)) a n cap l :=
 ⟨Blk.new w _ _, h.below (zb.alloc zc _), zb.alloc zc _⟩
def GaveO(w : World)(l : List Pr)(e : Ending)(w' : World): Prop := ∃v, e=.returned (.agg #[v]) ∧ Pw w' w.heap.size v l ∧ zB w w'
theorem take_nextP(l : List Pr)(k : Nat)(h : k<l.length): l.take k ++ [⟨(l.getD k pr0).m, (l.getD k pr0).r, (l.getD k pr0).b, (l.getD k pr0).t⟩] = l.take (k + 1) := by
 rw[List.take_succ_eq_append_getElem h]
 congr 2
 simp[List.getD, List.getElem?_eq_getElem h]
structure Bi (w wr : World) (a : Option Addr) (n cap : Nat) (l : List Pr) : Prop where
 bo : Bo w wr a n cap l
 out : Blk wr (w.heap.size + 1) #[.slice none 0 0] 28
theorem Bi.next{w wr w' : World}(h : Bi w wr a n cap l)(hb : zB wr w'): Bi w w' a n cap l := ⟨h.bo.next hb, h.out.next hb⟩
theorem Bi.alloc{w wr : World}(h : Bi w wr a n cap l)(o : Obj): Bi w (wr.alloc o) a n cap l := h.next (zb.alloc zc _)
theorem Pw.put2{w : World}{base G : Nat}{v : Value}{cs : Array Value}{t : TypeId}(h : Pw w base v l)(hB : Blk w G cs t)(ht : t≠87)(i : Nat)(u : Value): Pw (w.setCell ⟨G, i, none⟩ u) base v l := by
 refine⟨h.1, ?_⟩
 rcases h.2 with f|⟨g, a, b, j, d, c, rest⟩
 ·exact .inl f
 ·refine .inr ⟨g, a, b, j, d, Blk.other c i u (λe => ?_), rest⟩
  subst e
  have := hB.symm.trans c
  simp only[Option.some.injEq, Obj.cells.injEq] at this
  exact ht this.2.1
structure Came (w : World) (a : Option Addr) (n cap : Nat) (l : List Pr) : Prop where
 row : RowP w a n l
 nil : a = none → cap = 0
 le : n ≤ cap
 small : n * 32 ≤ 140737488351232
theorem Came.below(h : Came w a n cap l)(hb : zB w w'): Came w' a n cap l := ⟨h.row.below hb, h.nil, h.le, h.small⟩
def Copied(w : World)(n : Nat)(l : List Pr)(e : Ending)(w' : World): Prop := ∃a' cap', e=.returned (.agg #[.slice a' n cap']) ∧ Came w' a' n cap' l ∧ zB w w'
theorem few_small{m r b d : Int}{ls : List Pr}{x c : Int}(h : IssueIs l m r b d ls x c): ls.length ≤ 500 := by
 rcases h with⟨_, rfl, _⟩|⟨_, _, rfl, _⟩|⟨a, _, _, rfl, _⟩|⟨_, _, _, _, rfl, _⟩|⟨_, _, _, e, rfl, _⟩
 ·decide
 ·decide
 ·exact a.few
 ·decide
 ·rw[List.length_append]; simp; omega
def wfP(p : Pr): Prop := (Lit.int .i64 p.m).wf = true ∧ (Lit.int .i64 p.r).wf = true ∧ (Lit.int .i64 p.b).wf = true ∧ (Lit.int .i64 p.t).wf = true
def RowA(w : World)(a : Option Addr)(len : Nat)(ps : List Pr): Prop :=
 ∀i, i<len → ∃b off, a = some ⟨b, off, none⟩ ∧ PrAt w b (off + i * 4) (ps.getD i pr0) ∧ wfP (ps.getD i pr0)
end ora
namespace deb
open tar (Du du0 Came RowD Ld ErrPost TwoPost PairT GaveD)
open Go.RowKit
theorem rfault(a:Option Addr)(n cap:Nat)(ls:List Du)(w:World)(hr:RowD w a n ls)(hn:n≤maxLen):Calls Tryz.prog 86 #[.slice a n cap] w λe w'=>∃f,e=.returned (zI f)∧FaultIs ls f∧w'=w:=by
 have d:=hr.1;have E:Hid (∀x W,zC 47 #[zI x,zI 0,zI 1000000000] W λe w'=>e=.returned (.bool (decide (0≤x∧x≤1000000000)))∧w'=W):=λx W=>cal.cin x 0 1000000000 W;have D:Hid (∀x W,zC 47 #[zI x,zI 0,zI 10000] W λe w'=>e=.returned (.bool (decide (0≤x∧x≤10000)))∧w'=W):=λx W=>cal.cin x 0 10000 W;have M:n≤9223372036854775807:=by unfold maxLen at hn;omega
 by_cases J:n≤8
 ·have s:Hid (ls.length≤8):=by show _≤_;rw[d];exact J
  have H:decide (8<(n:Int))=false:=decide_eq_false (by omega);have r:Hid (RowD w a n ls):=hr;have g:Hid (ls.length=n):=d;clear hr hn d;go_enter Tryz.func86,Tryz.ntmps86;go_wp2_with fail;go_loopw [3] (λx wr=>∃k:Nat,k≤n∧x=zI (k:Int)∧(∀i,i<k→Ok1 (ls.getD i du0))∧wr=w) (λx _=>n-(intOf x).toNat)
  case atStart=>exact⟨0,Nat.zero_le _,rfl,λi t=>absurd t (Nat.not_lt_zero _),rfl⟩
  case round=>
   obtain⟨k,P,rfl,hf,N⟩:=hrel;have K:Hid (∀i,i<k→Ok1 (ls.getD i du0)):=hf;subst wr;clear hf;by_cases l:k<n
   ·have I:decide ((k:Int)<(n:Int))=true:=by simp;omega
    obtain⟨b,O,rfl,L,G⟩:=r.o.at (by omega);have c0:=(G k l).1;have c1:=(G k l).2;have z:=E.o (ls.getD k du0).a;have u:=D.o (ls.getD k du0).b;clear G;by_cases p:0≤(ls.getD k du0).a∧(ls.getD k du0).a≤1000000000
    ·rw[decide_eq_true p] at z;have j:Hid (∀W,zC 47 #[zI (ls.getD k du0).a,zI 0,zI 1000000000] W λe w'=>e=.returned (.bool true)∧w'=W):=z;by_cases q:0≤(ls.getD k du0).b∧(ls.getD k du0).b≤10000
     ·rw[decide_eq_true q] at u
      have B:Hid (∀i,i<k+1→Ok1 (ls.getD i du0)):=λi t=>by
       by_cases e:i=k
       ·subst e;exact⟨p,q⟩
       ·exact K.o i (by omega)
      have m:Hid (∀W,zC 47 #[zI (ls.getD k du0).b,zI 0,zI 10000] W λe w'=>e=.returned (.bool true)∧w'=W):=u;clear p q;generalize (ls.getD k du0).a=x at *;generalize (ls.getD k du0).b=y at *;go_wp2_with fail;refine(j.o _).mono ?_;rintro e A ⟨rfl,c⟩;subst c;go_wp2_with fail;refine(m.o _).mono ?_;rintro e A ⟨rfl,c⟩;subst c;go_wp2_with fail;go_roundw
      case rel=>exact⟨k+1,by omega,by go_num,B.o,by first|rfl|trivial⟩
      case measure=>simp[intOf];omega
     ·rw[decide_eq_false q] at u;have F:Hid (¬ DFits ls):=λh=>q (h k (by rw[g.o];exact l)).2;have m:Hid (∀W,zC 47 #[zI (ls.getD k du0).b,zI 0,zI 10000] W λe w'=>e=.returned (.bool false)∧w'=W):=u;clear p q;generalize (ls.getD k du0).a=x at *;generalize (ls.getD k du0).b=y at *;go_wp2_with fail;refine(j.o _).mono ?_;rintro e A ⟨rfl,c⟩;subst c;go_wp2_with fail;refine(m.o _).mono ?_;rintro e A ⟨rfl,c⟩;subst c;go_wp2_with fail;go_ret;exact⟨_,rfl,.inr (.inl ⟨s.o,F.o,rfl⟩),rfl⟩
    ·rw[decide_eq_false p] at z;have F:Hid (¬ DFits ls):=λh=>p (h k (by rw[g.o];exact l)).1;have j:Hid (∀W,zC 47 #[zI (ls.getD k du0).a,zI 0,zI 1000000000] W λe w'=>e=.returned (.bool false)∧w'=W):=z;clear p;generalize (ls.getD k du0).a=x at *;generalize (ls.getD k du0).b=y at *;go_wp2_with fail;refine(j.o _).mono ?_;rintro e A ⟨rfl,c⟩;subst c;go_wp2_with fail;go_ret;exact⟨_,rfl,.inr (.inl ⟨s.o,F.o,rfl⟩),rfl⟩
   ·obtain rfl:k=n:=by omega
    have I:decide ((k:Int)<(k:Int))=false:=by simp
    have C:Hid (DFits ls):=λi t=>K.o i (by rw[g.o] at t;exact t);go_wp2_with fail;go_ret;exact⟨_,rfl,.inr (.inr ⟨⟨s.o,C.o⟩,rfl⟩),rfl⟩
 ·have s:Hid (¬ ls.length≤8):=by show ¬ _≤_;rw[d];exact J
  have H:decide (8<(n:Int))=true:=decide_eq_true (by omega);clear J hr d hn;go_enter Tryz.func86,Tryz.ntmps86;go_wp2_with fail;go_ret;exact⟨_,rfl,.inl ⟨s.o,rfl⟩,rfl⟩
end deb
namespace token
open Go.RowKit
theorem bel_box(w:World)(o:Obj):zB w (w.alloc o):=zb.alloc zc o
end token
namespace words
open Go.RowKit
theorem cutWord_any(B:Nat)(n:Int)(w:World)(hc:w.cell? ⟨B,0,none⟩=some (.int .u64 n))(hf:w.frozen? ⟨B,0,none⟩=false):
  Calls Tryz.prog 167 #[.pointer (some ⟨B,0,none⟩)] w λe w'=>e=.returned (.int .u32 (n%4294967296))∧w'=w.setCell ⟨B,0,none⟩ (.int .u64 (n/4294967296)):=by
 go_enter Tryz.func167,Tryz.ntmps167;go_wp2;go_ret;exact⟨rfl,rfl⟩
theorem timesStep_any(B M:Nat)(n x m:Int)(w:World)(hc:w.cell? ⟨B,0,none⟩=some (.int .u64 n))(hf:w.frozen? ⟨B,0,none⟩=false)(hm:w.cell? ⟨M,0,none⟩=some (.int .u32 m))(h0:0≤n)(h1:n<4294967296)(x0:0≤x)(x1:x<4294967296)(m0:0≤m)(m1:m<4294967296):
  Calls Tryz.prog 166 #[.int .u32 x,.pointer (some ⟨B,0,none⟩),.pointer (some ⟨M,0,none⟩)] w λe w'=>e=.returned (.int .u32 ((n+x*m)%4294967296))∧Acc w w' B (.int .u64 ((n+x*m)/4294967296)):=by
 have a:Acc w w B (.int .u64 n):=Acc.refl hc hf;have b:Hid (Acc w w B (.int .u64 n)):=a;obtain⟨c,d⟩:=prod_bd x0 x1 m0 m1;clear a;go_enter Tryz.func166,Tryz.ntmps166;go_wp2_with fail;refine(cutWord_any B (n+x*m) _ (by apply World.cell?_setCell_same;exact hc) (by rw[World.frozen?_setCell];exact hf)).mono ?_;rintro e w' ⟨rfl,rfl⟩;go_wp2_with fail;go_ret;exact⟨rfl,(b.o.set _).set _⟩
abbrev wv(w:W3):Value:=.agg #[.int .u32 w.a,.int .u32 w.b,.int .u32 w.c]
end words
namespace disk
open Go.RowKit cell
def KReplay:Prop:=∀(W:World)(a:Option Addr)(n cap:Nat)(c:List Int),RowU W a n c→(a=none→cap=0)→n≤cap→n*4≤140737488351232→(∀x∈c,0≤x∧x<4294967296)→zC 104 #[.slice a n cap] W λe w'=>RepNew W c e w'
end disk
namespace tar
open Go.RowKit
def KtCheck:Prop:=∀(W:World)(a:Option Addr)(len cap:Nat)(ls:List Du),Came W a len cap ls→zC 101 #[.slice a len cap] W λe w'=>ErrPost W (FaultIs ls) e w'
abbrev Ln:={ t:Tr // LineOk t }
def encL(t:Ln):Array Value:=#[.agg #[zI t.1.a,zI t.1.b,zI t.1.c]]
def lns(l:List Ln):List Tr:=l.map (λt=>t.1)
theorem lns_app(l m:List Ln):lns (l++m)=lns l++lns m:=by unfold lns;rw[List.map_append]
theorem lns_len(l:List Ln):(lns l).length=l.length:=by unfold lns;rw[List.length_map]
theorem lns_ok(l:List Ln):∀t∈lns l,LineOk t:=λt a=>by
 unfold lns at a;obtain⟨s,_,rfl⟩:=List.mem_map.1 a;exact s.2
def Kq(n lo hi:Nat)(W W':World):Prop:=Below n W W'∧∀j,lo≤j→j<hi→W'.heap[j]?=W.heap[j]?
theorem Kq.trans{n lo hi:Nat}{A B C:World}(h:Kq n lo hi A B)(k:Kq n lo hi B C):Kq n lo hi A C:=⟨h.1.trans k.1,λj a b=>(k.2 j a b).trans (h.2 j a b)⟩
variable{l:List Du}
theorem nxt_yes(h:Right l)(x y:Int)(hx:0≤x)(hxy:x≤y)(k:Nat)(hk:k<l.length)(hp:0<min (l.getD k du0).a y-(x+manyK l x y k)):min (l.getD k du0).a y-(x+manyK l x y k)=ov (low l k) (l.getD k du0).a x y:=by
 have b:=many_eq h x y hx hxy k (by omega);have c:=h.rise k hk;have d:=h.low_pos k (by omega);rw[b] at hp ⊢;unfold ov;omega
theorem nxt_no(h:Right l)(x y:Int)(hx:0≤x)(hxy:x≤y)(k:Nat)(hk:k<l.length)(hp:¬ 0<min (l.getD k du0).a y-(x+manyK l x y k)):ov (low l k) (l.getD k du0).a x y=0:=by
 have b:=many_eq h x y hx hxy k (by omega);have c:=h.rise k hk;have d:=h.low_pos k (by omega);rw[b] at hp;unfold ov;omega
theorem many_next(l:List Du)(x y:Int)(k:Nat):manyK l x y (k+1)=manyK l x y k+ov (low l k) (l.getD k du0).a x y:=rfl
theorem many_bd(h:Right l)(x y:Int)(hx:0≤x)(hxy:x≤y)(k:Nat)(hk:k≤l.length):0≤manyK l x y k∧manyK l x y k≤y-x:=by
 rw[many_eq h x y hx hxy k hk];omega
theorem line_ok(h:Right l)(x y:Int)(k:Nat)(hk:k<l.length)(hp:0<ov (low l k) (l.getD k du0).a x y):LineOk ⟨ov (low l k) (l.getD k du0).a x y,(l.getD k du0).b,ov (low l k) (l.getD k du0).a x y*(l.getD k du0).b⟩:=by
 have c:=h.price k hk;have d:=h.upto k hk;have e:=h.low_pos k (by omega);exact⟨by show 1≤ov _ _ _ _;omega,ov_le _ _ _ _ e d.2,c.1,c.2,rfl⟩
theorem bill_prefix(l:List Du)(x y:Int)(k m:Nat)(hkm:k≤m):billK l x y k <+: billK l x y m:=by
 induction m with
 |zero=>
  have:k=0:=by omega
  subst this;exact List.prefix_refl _
 |succ m ih=>
  by_cases e:k=m+1
  ·subst e;exact List.prefix_refl _
  ·exact(ih (by omega)).trans (List.prefix_append (billK l x y m) (if 0<ov (low l m) (l.getD m du0).a x y then [⟨ov (low l m) (l.getD m du0).a x y,(l.getD m du0).b,ov (low l m) (l.getD m du0).a x y*(l.getD m du0).b⟩] else []))
end tar
end Go.Proofs.YtoepgdhiepedeaaGreatDoor
