import Derived.Test.YtoepgdhiepedeaaGreatDoorVVSls2
import Derived.Test.YtoepgdhiepedeaaGreatDoorVVSls4
import Derived.Test.YtoepgdhiepedeaaGreatDoorVVSls5
set_option linter.unusedVariables false
set_option linter.unusedSimpArgs false
set_option maxHeartbeats 4000000
set_option maxRecDepth 100000
namespace Go.Proofs.YtoepgdhiepedeaaGreatDoor
namespace words
def decF:Nat→Nat→List Int
 |0,u=>[48+(u:Int)]
 |k+1,u=>if u<10 then [48+(u:Int)] else decF k (u/10)++[48+((u%10:Nat):Int)]
def decL(u:Nat):List Int:=decF u u
theorem decF_same:∀(k j u:Nat),u≤k→u≤j→decF k u=decF j u:=by
 intro k
 induction k with
 |zero=>
  intro j u b c;have:u=0:=by omega
  subst this;cases j with
  |zero=>rfl
  |succ j=>simp[decF]
 |succ k ih=>
  intro j u b c;by_cases a:u<10
  ·cases j with
   |zero=>
    have:u=0:=by omega
    subst this;simp[decF]
   |succ j=>rw[decF,decF,if_pos a,if_pos a]
  ·obtain⟨j',rfl⟩:∃j',j=j'+1:=⟨j-1,by omega⟩
   rw[decF,decF,if_neg a,if_neg a,ih j' (u/10) (by omega) (by omega)]
theorem decL_one{u:Nat}(h:u<10):decL u=[48+(u:Int)]:=by
 unfold decL;cases u with
 |zero=>rfl
 |succ k=>rw[decF,if_pos h]
theorem decL_more{u:Nat}(h:¬ u<10):decL u=decL (u/10)++[48+((u%10:Nat):Int)]:=by
 obtain⟨k,rfl⟩:∃k,u=k+1:=⟨u-1,by omega⟩
 unfold decL;rw[decF,if_neg h,decF_same k _ _ (by omega) zc]
theorem decL_ne(u:Nat):decL u≠[]:=by
 by_cases h:u<10
 ·rw[decL_one h];simp
 ·rw[decL_more h];simp
theorem decL_len(k:Nat):∀u:Nat,u<10^(k+1)→1≤(decL u).length∧(decL u).length≤k+1:=by
 induction k with
 |zero=>intro u h;rw[decL_one (by omega)];simp
 |succ k ih=>
  intro u h;by_cases a:u<10
  ·rw[decL_one a];simp
  ·rw[decL_more a];have:=ih (u/10) (by rw[Nat.pow_succ] at h;omega);simp;omega
theorem decL_len29(u:Nat)(h:(u:Int)<top):1≤(decL u).length∧(decL u).length≤29:=decL_len 28 u (by unfold top at h;omega)
end words
namespace check
open Go.RowKit
theorem len_eq(s:ByteArray):s.data.toList.length=s.size:=Array.length_toList
end check
namespace disk
open cell
theorem it_short(c:List Int)(k:Nat):∀z∈(itD c k).1,z.length≤64:=by
 induction k with
 |zero=>intro z a;cases a
 |succ k ih=>
  intro z a;by_cases h:0<lenAt c (itD c k).2
  ·rw[it_live h] at a;rcases List.mem_append.1 a with a|a
   ·exact ih z a
   ·obtain rfl:=List.mem_singleton.1 a;obtain⟨_,_,b,_⟩:=len_pos h;unfold recAt;rw[List.length_take];omega
  ·rw[it_dead h 1] at a;exact ih z a
theorem it_count(c:List Int)(k:Nat):(itD c k).1.length≤(itD c k).2:=by
 induction k with
 |zero=>exact zc
 |succ k ih=>
  by_cases h:0<lenAt c (itD c k).2
  ·rw[it_live h];show ((itD c k).1++[_]).length≤(itD c k).2+_+1;rw[List.length_append];simp only[List.length_cons,List.length_nil];omega
  ·rw[it_dead h 1];exact ih
theorem rep_few{c:List Int}{o:List (List Int)}{x f:Int}(h:RepIs c o x f):o.length≤2048∧∀z∈o,z.length≤64:=by
 rcases h with⟨_,rfl,_⟩|⟨_,_,rfl,_⟩|⟨b,_,rfl,_⟩
 ·exact⟨Nat.zero_le _,λz a=>by cases a⟩
 ·exact⟨Nat.zero_le _,λz a=>by cases a⟩
 ·exact⟨Nat.le_trans (it_count c _) (Nat.le_trans (it_bound c _).1 b.2),it_short c _⟩
theorem app_few{c r:List Int}{l:List Wr}{f:Int}(h:AppIs c r l f):l.length≤66:=by
 rcases h with⟨_,rfl,_⟩|⟨_,_,rfl,_⟩|⟨_,_,_,rfl,_⟩|⟨_,_,_,_,rfl,_⟩|⟨a,_,_,_,rfl,_⟩
 ·exact Nat.zero_le _
 ·exact Nat.zero_le _
 ·exact Nat.zero_le _
 ·exact Nat.zero_le _
 ·rw[app_len];have:=a.2;split<;>omega
end disk
namespace book
open Go.RowKit
def Ev.v(x:Ev):Value:=.agg #[zI x.kd,zI x.me,zI x.mo,zI x.id,zI x.te,zI x.de,zI x.fe,zI x.pr,zI x.ch,zI x.un,zI x.tg,zI x.ow,zI x.bp]
def Ev.cs(x:Ev):Array Value:=#[zI x.kd,zI x.me,zI x.mo,zI x.id,zI x.te,zI x.de,zI x.fe,zI x.pr,zI x.ch,zI x.un,zI x.tg,zI x.ow,zI x.bp]
def wf13(x:Ev):Prop:=(Lit.int .i64 x.kd).wf=true∧(Lit.int .i64 x.me).wf=true∧(Lit.int .i64 x.mo).wf=true∧(Lit.int .i64 x.id).wf=true∧(Lit.int .i64 x.te).wf=true∧(Lit.int .i64 x.de).wf=true∧(Lit.int .i64 x.fe).wf=true∧(Lit.int .i64 x.pr).wf=true∧(Lit.int .i64 x.ch).wf=true∧(Lit.int .i64 x.un).wf=true∧(Lit.int .i64 x.tg).wf=true∧(Lit.int .i64 x.ow).wf=true∧(Lit.int .i64 x.bp).wf=true
theorem wf_may{x:Ev}(h:EMay x):wf13 x:=by
 have a:=may_word h
 have q:∀z,0≤z∧z<4294967296→(Lit.int .i64 z).wf=true:=λz b=>by
  simp only[Lit.wf,Bool.and_eq_true,decide_eq_true_eq];rw[show IntKind.i64.min=-9223372036854775808 from by decide,show IntKind.i64.max=9223372036854775807 from by decide];omega
 exact⟨q _ (a _ (by simp[evL])),q _ (a _ (by simp[evL])),q _ (a _ (by simp[evL])),q _ (a _ (by simp[evL])),q _ (a _ (by simp[evL])),q _ (a _ (by simp[evL])),q _ (a _ (by simp[evL])),q _ (a _ (by simp[evL])),q _ (a _ (by simp[evL])),q _ (a _ (by simp[evL])),q _ (a _ (by simp[evL])),q _ (a _ (by simp[evL])),q _ (a _ (by simp[evL]))⟩
end book
namespace disk
open Go.RowKit
structure Sli where
 a:Option Addr
 n:Nat
 c:Nat
def Sli.v(s:Sli):Value:=.slice s.a s.n s.c
def sl0:Sli:=⟨none,0,0⟩
def cellsR(l:List Sli):List Value:=l.map Sli.v
theorem oneR(l:List Sli):∀u∈cellsR l,u.oneCell'=true:=λu a=>by
 obtain⟨s,_,rfl⟩:=List.mem_map.1 a;rfl
def Lr(T:TypeId)(w:World)(base:Nat)(v:Value)(l:List Sli):Prop:=w.ownsRow base T 1 v l.length (cellsR l)
theorem Lr.zero(T:TypeId)(w:World)(base:Nat):Lr T w base (zS) []:=World.ownsRow_nil _ _ _ _
variable{l:List Sli}{zs:List (List Int)}{T:TypeId}{base:Nat}{w:World}
theorem Lr.alloc{v:Value}(h:Lr T w base v l)(o:Obj):Lr T (w.alloc o) base v l:=World.ownsRow.alloc h o
theorem Lr.next{w w':World}{v:Value}(h:Lr T w base v l)(hb:zB w w'):Lr T w' base v l:=by
 refine⟨h.1,?_⟩;rcases h.2 with e|⟨g,a,b,f,d,c,rest⟩
 ·exact .inl e
 ·exact .inr ⟨g,a,b,f,d,Blk.next c hb,rest⟩
theorem Lr.row{v:Value}(h:Lr T w base v l)(h0:0<l.length):∃g cap,v=.slice (some ⟨g,0,none⟩) l.length cap∧base≤g∧g<w.heap.size∧l.length≤cap∧∀i,i<l.length→w.cell? ⟨g,i,none⟩=some (l.getD i sl0).v:=by
 rcases h.2 with⟨a,k⟩|⟨g,cap,b,a,f,e,d,_⟩
 ·omega
 ·subst a;refine⟨g,cap,rfl,f,Blk.lt e,d,λi j=>?_⟩;have c:=World.ownsRow.cellAt h i (by omega);rw[c];simp[cellsR,List.getD,j]
theorem Lr.len{v:Value}(h:Lr T w base v l):∃a cap,v=.slice a l.length cap:=by
 rcases h.2 with⟨b,d⟩|⟨g,cap,c,b,_⟩
 ·exact⟨none,0,by rw[d];exact b⟩
 ·exact⟨_,cap,b⟩
structure SliT (P:Program) (T S:TypeId):Prop where
 info:(P.info? T).map (λi=>(i.zero,i.size,i.bytes))=some (some (sl0.v),1,24)
 under:P.underlying S=some (.slice T)
theorem wp_sli{P:Program}{T S:TypeId}(hP:SliT P T S){w:World}{ops:Array Oper}{rest:List Oper}{o:Oper}{a:Act}{Q:Exit→Act→World→Prop}(hgd:o.guard=none)(s x:Operand)
  (ho:o.op=.call { callee:=.builtin .append,args:=#[s,x],argTypes:=#[S,S] })
  (base G:Nat) (v:Value) (l:List Sli) (r:Sli) (hs:a.eval s=v) (hx:a.eval x=.slice (some ⟨G,0,none⟩) 1 1) (hv:Lr T w base v l) (hu:w.cell? ⟨G,0,none⟩=some r.v) (hn:l.length≤1000000) (hbase:base≤w.heap.size)
  (h:∀v' w',Lr T w' base v' (l++[r])→w.grownBy w' v.ownBlock→(v'.ownBlock=v.ownBlock∨v'.ownBlock=some w.heap.size)→wpList P ops Q rest (a.put o.dst v') w'):wpList P ops Q (o::rest) a w:=by
 obtain⟨m,k,c,d,e⟩:=info_parts hP.info;refine wpList_append_own_at w hgd s x S ho base T m (sl0.v) 1 24 hP.under k c d e rfl (by decide) v l.length (cellsR l) hs hv ⟨G,0,none⟩ 1 1 (cellsR [r]) hx rfl ?_ (oneR [r]) (by unfold maxLen;omega) (by omega) hbase ?_
 ·intro j u b
  match j,b with
  |0,b=>simp[cellsR] at b;subst b;simpa [Addr.add] using hu
  |j+1,b=>simp[cellsR] at b
 intro v' w' f g _ i;refine h v' w' ?_ g i;unfold Lr;rw[List.length_append];unfold cellsR at *;rw[List.map_append];exact f
def Recs(w:World)(own:Option Nat)(l:List Sli)(zs:List (List Int)):Prop:=l.length=zs.length∧∀i,i<l.length→(∃b off,(l.getD i sl0).a=some ⟨b,off,none⟩∧b<w.heap.size∧some b≠own)∧cell.RowU w (l.getD i sl0).a (l.getD i sl0).n (zs.getD i [])
theorem Recs.nil(w:World)(own:Option Nat):Recs w own [] []:=⟨rfl,λi a=>by cases a⟩
theorem Recs.below{w w':World}{own:Option Nat}(h:Recs w own l zs)(hb:zB w w'):Recs w' own l zs:=⟨h.1,λi g=>by
 obtain⟨⟨b,a,c,d,e⟩,f⟩:=h.2 i g
 exact ⟨⟨b,a,c,Nat.lt_of_lt_of_le d hb.size,e⟩,f.below hb⟩⟩
theorem Recs.snoc{own:Option Nat}(h:Recs w own l zs){s:Sli}{z:List Int}(hs:(∃b off,s.a=some ⟨b,off,none⟩∧b<w.heap.size∧some b≠own)∧cell.RowU w s.a s.n z):Recs w own (l++[s]) (zs++[z]):=by
 refine⟨by rw[List.length_append,List.length_append,h.1];rfl,λi g=>?_⟩;by_cases f:i<l.length
 ·have d:(l++[s]).getD i sl0=l.getD i sl0:=by simp[List.getD,List.getElem?_append_left f]
  have e:(zs++[z]).getD i []=zs.getD i []:=by simp[List.getD,List.getElem?_append_left (show i<zs.length from h.1▸f)]
  rw[d,e];exact h.2 i f
 ·have c:i=l.length:=by simp at g;omega
  have d:(l++[s]).getD i sl0=s:=by rw[c];simp[List.getD]
  have e:(zs++[z]).getD i []=z:=by rw[c,h.1];simp[List.getD]
  rw[d,e];exact hs
theorem Recs.grown{w w':World}{own own':Option Nat}(h:Recs w own l zs)(hg:w.grownBy w' own)(ho:own'=own∨own'=some w.heap.size):Recs w' own' l zs:=⟨h.1,λi d=>by
 obtain⟨⟨b,f,c,j,k⟩,m⟩:=h.2 i d;have q:=hg.block b j k;refine⟨⟨b,f,c,Nat.lt_of_lt_of_le j hg.size,?_⟩,m.1,?_⟩
 ·rcases ho with rfl|rfl
  ·exact k
  ·intro e;have:=Option.some.inj e;omega
 ·rcases m.2 with p|⟨n,a,e,r⟩
  ·exact .inl p
  ·rw[c] at e;have g:=Option.some.inj e;have o:b=n:=congrArg Addr.block g;subst o;refine .inr ⟨b,a,by rw[c,g],λi d=>?_⟩;rw[← r i d]
   simp [World.cell?,q]⟩
end disk
namespace cell
open Go.RowKit
def arr(zs:List Int):Array Value:=(zs.map (Value.int .u32)).toArray
theorem arr_set(zs:List Int)(i:Nat)(v:Int):(arr zs).setIfInBounds i (.int .u32 v)=arr (zs.set i v):=by
 unfold arr;apply Array.ext';simp[List.map_set]
theorem Blk.rowU{w:World}{G n:Nat}{zs:List Int}{t:TypeId}(h:Blk w G (arr zs) t)(hn:zs.length=n):RowU w (some ⟨G,0,none⟩) n zs:=by
 refine⟨hn,.inr ⟨G,0,rfl,λi a=>?_⟩⟩;rw[Nat.zero_add,h.cell i];unfold arr;simp[List.getD,show i<zs.length by omega]
theorem Blk.word{w:World}{G:Nat}{zs:List Int}{t:TypeId}(h:Blk w G (arr zs) t)(i:Nat)(hi:i<zs.length):w.cell? ⟨G,i,none⟩=some (.int .u32 (zs.getD i 0)):=by
 rw[h.cell i];unfold arr;simp[List.getD,hi]
theorem made_zero(n:Nat):madeCells (Value.int .u32 0).cells (n*1)=arr (List.replicate n 0):=by
 unfold madeCells arr;apply Array.ext';simp[Value.cells];apply List.ext_getElem
 ·simp
 ·intro i a b;simp[Nat.mod_one]
theorem make_u32(n:Nat)(h:n≤100000)(w:World):(Instr.makeSlice 25 (zI (n:Int)) (zI (n:Int))).run Tryz.prog w=.ok (.slice (some ⟨w.heap.size,0,none⟩) n n) (w.alloc (.cells (arr (List.replicate n 0)) 83)):=by
 obtain⟨e,d,a,b,c⟩:=info_parts info_u32;have:=run_make (P:=Tryz.prog) w 25 83 e (.int .u32 0) Tryz.underlying25 d a .i64 .i64 n n (by omega) (by omega) (by rw[c];omega) (by omega);rw[b] at this;simp only[Int.toNat_natCast] at this;rw[made_zero] at this;exact this
end cell
namespace cal
open Go.RowKit
theorem cin(n lo hi:Int)(w:World):Calls Tryz.prog 47 #[zI n,zI lo,zI hi] w λe w'=>e=.returned (.bool (decide (lo≤n∧n≤hi)))∧w'=w:=by
 by_cases b:lo≤n
 ·by_cases c:n≤hi
  ·have a:decide (lo≤n∧n≤hi)=true:=by simp;omega
   rw[a];clear a;go_enter Tryz.func47,Tryz.ntmps47;go_wp2;go_ret;exact⟨rfl,rfl⟩
  ·have a:decide (lo≤n∧n≤hi)=false:=by simp;omega
   have d:decide (n≤hi)=false:=by simp;omega
   rw[a];clear a c;go_enter Tryz.func47,Tryz.ntmps47;go_wp2;go_ret;exact⟨rfl,rfl⟩
 ·have a:decide (lo≤n∧n≤hi)=false:=by simp;omega
  have d:decide (lo≤n)=false:=by simp;omega
  rw[a];clear a b;go_enter Tryz.func47,Tryz.ntmps47;go_wp2;go_ret;exact⟨rfl,rfl⟩
end cal
namespace disk
open Go.RowKit cell
def Reads(w:World)(a:Option Addr)(n:Nat)(zs:List (List Int)):Prop:=
 zs.length=n∧(n=0∨∃b off,a=some ⟨b,off,none⟩∧b<w.heap.size∧∀i,i<n→∃s:Sli,w.cell? ⟨b,off+i,none⟩=some s.v∧RowU w s.a s.n (zs.getD i [])∧s.n≤100000)
def ReadsF(w:World)(base:Nat)(a:Option Addr)(n:Nat)(zs:List (List Int)):Prop:=
 zs.length=n∧(n=0∨∃b off,a=some ⟨b,off,none⟩∧base≤b∧b<w.heap.size∧∀i,i<n→∃s:Sli,w.cell? ⟨b,off+i,none⟩=some s.v∧RowU w s.a s.n (zs.getD i [])∧(s.n≤100000∧s.n≤s.c∧(s.a=none→s.c=0))∧∀x,s.a=some x→base≤x.block)
theorem ReadsF.reads{w:World}{base:Nat}{a:Option Addr}{n:Nat}{zs:List (List Int)}(h:ReadsF w base a n zs):Reads w a n zs:=by
 refine⟨h.1,?_⟩;rcases h.2 with d|⟨b,c,rfl,_,l,j⟩
 ·exact .inl d
 ·exact .inr ⟨b,c,rfl,l,λi k=>by obtain⟨s,e,f,g,_⟩:=j i k;exact⟨s,e,f,g.1⟩⟩
def RepNew(w:World)(c:List Int)(e:Ending)(w':World):Prop:=
 ∃a n cap out x f,e=.returned (.tuple #[.slice a n cap,zI x,zI f])∧ReadsF w' w.heap.size a n out∧n≤100000∧RepIs c out x f∧zB w w'
def AppGot(w:World)(c r:List Int)(e:Ending)(w':World):Prop:=
 ∃a n cap ls f,e=.returned (.tuple #[.slice a n cap,zI f])∧RowW w' a n ls∧(∀x,a=some x→w.heap.size≤x.block)∧n≤cap∧n≤100000∧AppIs c r ls f∧zB w w'
end disk
section
open Go.RowKit
theorem wp_letS{P:Program}{ops:Array Oper}{rest:List Oper}{o:Oper}{a:Act}{w:World}{Q:Exit→Act→World→Prop}(hgd:o.guard=none)(ty:TypeId)(x y:Operand)(ho:o.op=.store ty x y)
  (g off:Nat) (hx:a.eval x=.pointer (some ⟨g,off,none⟩)) (p:Option Addr) (n c:Nat) (hy:a.eval y=.slice p n c) (hi:(P.info? ty).map (·.size)=some 1)
  (cs:Array Value) (t:TypeId) (hB:Blk w g cs t) (hin:off<cs.size)
  (h:∀W,Upd w W g (cs.setIfInBounds off (.slice p n c)) t→wpList P ops Q rest (a.put o.dst undef) W):wpList P ops Q (o::rest) a w:=
 wp_let hgd ty x y ho g off hx _ hy #[.slice p n c] rfl hi (by simp[Value.oneCell']) cs t hB (by simp;omega) _ rfl h
end
section
open Go.RowKit
theorem zm {P : Program} {ops : Array Oper} {rest : List Oper} {o : Oper} {a : Act} {w : World} {Q : Exit → Act → World → Prop} {ty : TypeId} {x y : Operand} {g off : Nat} {p : Option Addr} {n c : Nat} {cs : Array Value} {t : TypeId}
 (h : ∀ W, Upd w W g (cs.setIfInBounds off (.slice p n c)) t → wpList P ops Q rest (a.put o.dst undef) W) (hgd : o.guard = none := by exact rfl) (ho : o.op = .store ty x y := by exact rfl)
 (hx : a.eval x = .pointer (some ⟨g, off, none⟩) := by exact rfl) (hy : a.eval y = .slice p n c := by exact rfl) (hi : (P.info? ty).map (·.size) = some 1 := by kernel_rfl)
 (hB : Hid (Blk w g cs t) := by assumption) (hin : off < cs.size := by simp) : wpList P ops Q (o :: rest) a w := wp_letS hgd ty x y ho g off hx p n c hy hi cs t hB.out hin h
end
namespace rcp
open Go.RowKit
theorem reI(d:Nat)(a a':Int)(w:World):(Op.equalIn (d+1) 3 (zI a) (zI a')).run Tryz.prog w=.ok (a==a') w:=run_equalIn_int w d _ _ _ a a' Tryz.underlying3
theorem rp0(a b c d e f g h:Int)(t:ByteArray)(w:World):(part 3 #[zI a,zI b,zI c,zI d,zI e,zI f,zI g,zI h,.string t] 0).run Tryz.prog w=.ok (zI a) w:=by kernel_rfl
theorem rp1(a b c d e f g h:Int)(t:ByteArray)(w:World):(part 33 #[zI a,zI b,zI c,zI d,zI e,zI f,zI g,zI h,.string t] 1).run Tryz.prog w=.ok (.agg #[zI b,zI c,zI d,zI e,zI f,zI g,zI h]) w:=by kernel_rfl
theorem rp8(a b c d e f g h:Int)(t:ByteArray)(w:World):(part 9 #[zI a,zI b,zI c,zI d,zI e,zI f,zI g,zI h,.string t] 8).run Tryz.prog w=.ok (.string t) w:=by kernel_rfl
theorem rb0(b c d e f g h:Int)(w:World):(part 3 #[zI b,zI c,zI d,zI e,zI f,zI g,zI h] 0).run Tryz.prog w=.ok (zI b) w:=by kernel_rfl
theorem rb1(b c d e f g h:Int)(w:World):(part 3 #[zI b,zI c,zI d,zI e,zI f,zI g,zI h] 1).run Tryz.prog w=.ok (zI c) w:=by kernel_rfl
theorem rb2(b c d e f g h:Int)(w:World):(part 3 #[zI b,zI c,zI d,zI e,zI f,zI g,zI h] 2).run Tryz.prog w=.ok (zI d) w:=by kernel_rfl
theorem rb3(b c d e f g h:Int)(w:World):(part 3 #[zI b,zI c,zI d,zI e,zI f,zI g,zI h] 3).run Tryz.prog w=.ok (zI e) w:=by kernel_rfl
theorem rb4(b c d e f g h:Int)(w:World):(part 3 #[zI b,zI c,zI d,zI e,zI f,zI g,zI h] 4).run Tryz.prog w=.ok (zI f) w:=by kernel_rfl
theorem rb5(b c d e f g h:Int)(w:World):(part 3 #[zI b,zI c,zI d,zI e,zI f,zI g,zI h] 5).run Tryz.prog w=.ok (zI g) w:=by kernel_rfl
theorem rb6(b c d e f g h:Int)(w:World):(part 3 #[zI b,zI c,zI d,zI e,zI f,zI g,zI h] 6).run Tryz.prog w=.ok (zI h) w:=by kernel_rfl
theorem eqB(k:Nat)(b c d e f g h:Int)(w:World):(Op.equalIn (k+2) 33 (.agg #[zI b,zI c,zI d,zI e,zI f,zI g,zI h]) (.agg #[zI b,zI c,zI d,zI e,zI f,zI g,zI h])).run Tryz.prog w=.ok true w:=by
 rw[show k+2=(k+1)+1 from rfl,run_equalIn_agg w (k+1) 33 _ _ (by kernel_rfl) (by kernel_rfl)];simp only[Program.fieldsOf,Tryz.underlying33,Op.eqFields,Sem.run_bind,Sem.run_ite];simp[rb0,rb1,rb2,rb3,rb4,rb5,rb6,reI]
theorem reS(d:Nat)(t:ByteArray)(w:World):(Op.equalIn (d+1) 9 (.string t) (.string t)).run Tryz.prog w=.ok true w:=by
 have h:(t==t)=true:=by
  first
   |exact beq_self_eq_true t
   |exact BEq.rfl
   |(cases t with|mk d=>exact beq_self_eq_true d)
   |(cases t with|mk d=>simp[BEq.beq])
 simp[Op.equalIn,Tryz.underlying9,go_sem,h]
theorem eqRc(a b c d e f g h:Int)(t:ByteArray)(w:World):(Op.equalIn 10000 35 (.agg #[zI a,zI b,zI c,zI d,zI e,zI f,zI g,zI h,.string t]) (.agg #[zI a,zI b,zI c,zI d,zI e,zI f,zI g,zI h,.string t])).run Tryz.prog w=.ok true w:=by
 rw[show (10000:Nat)=9999+1 from rfl,run_equalIn_agg w 9999 35 _ _ (by kernel_rfl) (by kernel_rfl)];simp only[Program.fieldsOf,Tryz.underlying35,Op.eqFields,Sem.run_bind,Sem.run_ite];simp[rp0,rp1,rp8,show (9999:Nat)=9998+1 from rfl,show (9999:Nat)=9997+2 from rfl,reI,reS,eqB]
end rcp
namespace words
open Go.RowKit
abbrev wv(w:W3):Value:=.agg #[.int .u32 w.a,.int .u32 w.b,.int .u32 w.c]
end words
namespace disk
open Go.RowKit cell
def KReplay:Prop:=∀(W:World)(a:Option Addr)(n cap:Nat)(c:List Int),RowU W a n c→(a=none→cap=0)→n≤cap→n*4≤140737488351232→(∀x∈c,0≤x∧x<4294967296)→zC 104 #[.slice a n cap] W λe w'=>RepNew W c e w'
end disk
namespace tar
open Go.RowKit
theorem pwithin(lo hi n:Int)(w:World):Calls Tryz.prog 102 #[zI lo,zI hi,zI n] w λe w'=>e=.returned (.bool (decide (lo≤n∧n≤hi)))∧w'=w:=by
 by_cases b:lo≤n
 ·by_cases c:n≤hi
  ·have a:decide (lo≤n∧n≤hi)=true:=by simp;omega
   rw[a];clear a;go_enter Tryz.func102,Tryz.ntmps102;go_wp2;go_ret;exact⟨rfl,rfl⟩
  ·have a:decide (lo≤n∧n≤hi)=false:=by simp;omega
   have d:decide (n≤hi)=false:=by simp;omega
   rw[a];clear a c;go_enter Tryz.func102,Tryz.ntmps102;go_wp2;go_ret;exact⟨rfl,rfl⟩
 ·have a:decide (lo≤n∧n≤hi)=false:=by simp;omega
  have d:decide (lo≤n)=false:=by simp;omega
  rw[a];clear a b;go_enter Tryz.func102,Tryz.ntmps102;go_wp2;go_ret;exact⟨rfl,rfl⟩
open Classical in
theorem prises(b off k cap:Nat)(ls:List Du)(w1:World)(hs1:1≤k)(hs2:k≤8)(hlen:ls.length=k)(hbl:b<w1.heap.size)(hc:∀i,i<k→w1.cell? ⟨b,off+i*2,none⟩=some (zI (ls.getD i du0).a)∧w1.cell? ⟨b,off+i*2+1,none⟩=some (zI (ls.getD i du0).b)):Calls Tryz.prog 146 #[.slice (some ⟨b,off,none⟩) k cap] w1 λe w'=>e=.returned (.bool (decide (Rises ls)))∧zB w1 w':=by
 have HC:Hid (∀i,i<k→w1.cell? ⟨b,off+i*2,none⟩=some (zI (ls.getD i du0).a)∧w1.cell? ⟨b,off+i*2+1,none⟩=some (zI (ls.getD i du0).b)):=hc;have HLEN:Hid (ls.length=k):=hlen;have hnm:k≤9223372036854775807:=by omega
 clear hc hlen;go_enter Tryz.func146,Tryz.ntmps146;go_wp2_with fail;go_loopw [3] (λx wr2=>∃j:Nat,1≤j∧j≤k∧x=zI (j:Int)∧(∀i,1≤i→i<j→(ls.getD (i-1) du0).a<(ls.getD i du0).a)∧zB w1 wr2) (λx _=>k-(intOf x).toNat)
 case atStart=>exact⟨1,zc,hs1,rfl,λi h1 h2=>absurd h2 (by omega),zb⟩
 case round=>
  obtain⟨j,hj1,hj,rfl,hf,hb⟩:=hrel;have HF:Hid (∀i,1≤i→i<j→(ls.getD (i-1) du0).a<(ls.getD i du0).a):=hf;have HB:Hid (zB w1 wr):=hb;by_cases hlt2:j<k
  ·have hdl2:decide ((j:Int)<(k:Int))=true:=by simp;omega
   have c0:wr.cell? ⟨b,off+j*2,none⟩=some (zI (ls.getD j du0).a):=(hb.cell (p:=⟨b,off+j*2,none⟩) hbl).trans (HC.o j hlt2).1;have c1:wr.cell? ⟨b,off+(j-1)*2,none⟩=some (zI (ls.getD (j-1) du0).a):=(hb.cell (p:=⟨b,off+(j-1)*2,none⟩) hbl).trans (HC.o (j-1) (by omega)).1;have hs2':wr.drew.cell? ⟨b,off+j*2,none⟩=some (zI (ls.getD j du0).a):=c0;have HBD:Hid (zB w1 wr.drew):=hb.drew;have hsub:((j:Int)-1)=((j-1:Nat):Int):=by omega
   have hjm:j-1<k:=by omega
   clear hb hf;by_cases hle:(ls.getD j du0).a≤(ls.getD (j-1) du0).a
   ·have hde:decide ((ls.getD j du0).a≤(ls.getD (j-1) du0).a)=true:=decide_eq_true hle
    have HN:Hid (decide (Rises ls)=false):=decide_eq_false λh=>by
     have:=h j hj1 (by rw[HLEN.o];exact hlt2);omega
    clear hle;generalize (ls.getD j du0).a=x at *;generalize (ls.getD (j-1) du0).a=y at *;generalize j-1=j1 at *;go_wp2_with fail;go_region
    all_goals go_wp2_with fail
    go_ret;exact⟨by rw[HN.o];rfl,HBD.o⟩
   ·have hde:decide ((ls.getD j du0).a≤(ls.getD (j-1) du0).a)=false:=decide_eq_false hle
    have HF2:Hid (∀i,1≤i→i<j+1→(ls.getD (i-1) du0).a<(ls.getD i du0).a):=λi h1 h2=>by
     by_cases e:i=j
     ·subst e;omega
     ·exact HF.o i h1 (by omega)
    clear hle;generalize (ls.getD j du0).a=x at *;generalize (ls.getD (j-1) du0).a=y at *;generalize j-1=j1 at *;go_wp2_with fail;go_region
    all_goals go_wp2_with fail
    go_roundw
    case rel=>exact⟨j+1,by omega,by omega,by go_num,HF2.o,HBD.o⟩
    case measure=>simp[intOf];omega
  ·obtain rfl:j=k:=by omega
   have hdl2:decide ((j:Int)<(j:Int))=false:=by simp
   have HR:Hid (decide (Rises ls)=true):=decide_eq_true λi h1 h2=>HF.o i h1 (by rw[HLEN.o] at h2;exact h2);clear hb hf;go_wp2_with fail;go_ret;exact⟨by rw[HR.o];rfl,HB.o⟩
end tar
end Go.Proofs.YtoepgdhiepedeaaGreatDoor
