import Derived.Test.YtoepgdhiepedeaaGreatDoorVVSls6
import Derived.Test.YtoepgdhiepedeaaGreatDoorVVSls7
set_option linter.unusedVariables false
set_option linter.unusedSimpArgs false
set_option maxHeartbeats 4000000
set_option maxRecDepth 100000
namespace Go.Proofs.YtoepgdhiepedeaaGreatDoor
namespace deb
open tar (Du du0 Came RowD Ld ErrPost TwoPost PairT GaveD)
open Go.RowKit
theorem debtT:PairT Tryz.prog 42 53:=⟨by kernel_rfl,Tryz.underlying53⟩
theorem prod_le(a b A B:Int)(h1:0≤a)(h2:a≤A)(h3:0≤b)(h4:b≤B):0≤a*b∧a*b≤A*B:=
 ⟨Int.mul_nonneg h1 h3,Int.le_trans (Int.mul_le_mul_of_nonneg_left h4 h1) (Int.mul_le_mul_of_nonneg_right h2 (by omega))⟩
theorem part_split(a b:Int):a/10000*b+a%10000*b/10000=a*b/10000:=by
 have e:a*b=a/10000*b*10000+a%10000*b:=by
  have h:=Int.emod_add_mul_ediv a 10000;have c:a*b=(a%10000+10000*(a/10000))*b:=by rw[h]
  rw[c,Int.add_mul,Int.mul_assoc,Int.mul_comm 10000,Int.add_comm]
 rw[e];generalize a/10000*b=x;generalize a%10000*b=y;omega
theorem rparted(a b:Int)(w:World)(h:(0≤a∧a≤1000000000000)∧0≤b∧b≤10000):
  Calls Tryz.prog 49 #[zI a,zI b] w λe w'=>e=.returned (.tuple #[zI (a*b/10000),zI 0])∧w'=w:=by
 have d:Hid (∀W,zC 47 #[zI a,zI 0,zI 1000000000000] W λe w'=>e=.returned (.bool (decide (0≤a∧a≤1000000000000)))∧w'=W):=λW=>cal.cin a 0 1000000000000 W;have f:Hid (∀W,zC 47 #[zI b,zI 0,zI 10000] W λe w'=>e=.returned (.bool (decide (0≤b∧b≤10000)))∧w'=W):=λW=>cal.cin b 0 10000 W;rw[decide_eq_true h.1] at d;rw[decide_eq_true h.2] at f;obtain⟨⟨k,l⟩,g,i⟩:=h;obtain⟨m,n⟩:=prod_le (a/10000) b 100000000 10000 (by omega) (by omega) g i;obtain⟨p,q⟩:=prod_le (a%10000) b 10000 10000 (by omega) (by omega) g i;rw[← part_split];go_enter Tryz.func49,Tryz.ntmps49;go_wp2_with fail;refine(d.o _).mono ?_;rintro e j ⟨rfl,c⟩;subst c;go_wp2_with fail;refine(f.o _).mono ?_;rintro e j ⟨rfl,c⟩;subst c;go_wp2;go_ret2;exact⟨rfl,rfl⟩
theorem rnopart(a b:Int)(w:World)(h:0≤a∧a≤1000000000000)(hb:¬ (0≤b∧b≤10000)):
  Calls Tryz.prog 49 #[zI a,zI b] w λe w'=>e=.returned (.tuple #[zI 0,zI 2])∧w'=w:=by
 have d:Hid (∀W,zC 47 #[zI a,zI 0,zI 1000000000000] W λe w'=>e=.returned (.bool (decide (0≤a∧a≤1000000000000)))∧w'=W):=λW=>cal.cin a 0 1000000000000 W;have f:Hid (∀W,zC 47 #[zI b,zI 0,zI 10000] W λe w'=>e=.returned (.bool (decide (0≤b∧b≤10000)))∧w'=W):=λW=>cal.cin b 0 10000 W;rw[decide_eq_true h] at d;rw[decide_eq_false hb] at f;clear h hb;go_enter Tryz.func49,Tryz.ntmps49;go_wp2_with fail;refine(d.o _).mono ?_;rintro e g ⟨rfl,c⟩;subst c;go_wp2_with fail;refine(f.o _).mono ?_;rintro e g ⟨rfl,c⟩;subst c;go_wp2;go_ret2;exact⟨rfl,rfl⟩
theorem rshare(t bp:Int)(w:World):Calls Tryz.prog 89 #[zI t,zI bp] w λe w'=>∃s f,e=.returned (.tuple #[zI s,zI f])∧ShareIs t bp s f∧w'=w:=by
 have b:Hid (∀W,zC 47 #[zI t,zI 0,zI 100000000] W λe w'=>e=.returned (.bool (decide (0≤t∧t≤100000000)))∧w'=W):=λW=>cal.cin t 0 100000000 W;by_cases c:0≤t∧t≤100000000
 ·rw[decide_eq_true c] at b;by_cases g:0≤bp∧bp≤10000
  ·have d:Hid (∀W,zC 49 #[zI t,zI bp] W λe w'=>e=.returned (.tuple #[zI (t*bp/10000),zI 0])∧w'=W):=λW=>rparted t bp W ⟨⟨c.1,by omega⟩,g⟩;have i:Hid (TMay t bp):=⟨c,g⟩
   clear c g;go_enter Tryz.func89,Tryz.ntmps89;go_wp2_with fail;refine(b.o _).mono ?_;rintro e j ⟨rfl,a⟩;subst a;go_wp2_with fail;refine(d.o _).mono ?_;rintro e j ⟨rfl,a⟩;subst a;go_wp2_with fail;go_ret2;exact⟨_,_,rfl,.inl ⟨i.o,rfl,rfl⟩,rfl⟩
  ·have d:Hid (∀W,zC 49 #[zI t,zI bp] W λe w'=>e=.returned (.tuple #[zI 0,zI 2])∧w'=W):=λW=>rnopart t bp W ⟨c.1,by omega⟩ g;have i:Hid (¬ TMay t bp):=λh=>g h.2;clear c g;go_enter Tryz.func89,Tryz.ntmps89;go_wp2_with fail;refine(b.o _).mono ?_;rintro e j ⟨rfl,a⟩;subst a;go_wp2_with fail;refine(d.o _).mono ?_;rintro e j ⟨rfl,a⟩;subst a;go_wp2_with fail;go_ret2;exact⟨_,_,rfl,.inr ⟨i.o,rfl,rfl⟩,rfl⟩
 ·rw[decide_eq_false c] at b;have i:Hid (¬ TMay t bp):=λh=>c h.1;clear c;go_enter Tryz.func89,Tryz.ntmps89;go_wp2_with fail;refine(b.o _).mono ?_;rintro e j ⟨rfl,a⟩;subst a;go_wp2_with fail;go_ret2;exact⟨_,_,rfl,.inr ⟨i.o,rfl,rfl⟩,rfl⟩
end deb
namespace ora
open Go.RowKit
open Go.ChangeMaps (setBlock heap_setBlock_same heap_setBlock_other)
def ent(p:Pr)(i:Nat):MapEntry:={ key:=.agg #[zI p.m,zI p.r,zI p.b],val:=zI p.t,born:=i }
def ents:List Pr→Nat→List MapEntry
 |[],_=>[]
 |p::l,i=>ent p i::ents l (i+1)
theorem ents_app(l:List Pr)(p:Pr)(i:Nat):ents (l++[p]) i=ents l i++[ent p (i+l.length)]:=by
 induction l generalizing i with
 |nil=>rfl
 |cons x l ih=>simp only[List.cons_append,ents,ih,List.length_cons];rw[show i+1+l.length=i+(l.length+1) by omega]
def Mp(w:World)(B:Nat)(l:List Pr):Prop:=w.heap[B]?=some (.map (ents l 0).toArray l.length)
variable{l:List Pr}{m r b:Int}{B:Nat}{w:World}
theorem Mp.lt(h:Mp w B l):B<w.heap.size:=by
 unfold Mp at h;by_cases a:B<w.heap.size
 ·exact a
 ·rw[Array.getElem?_eq_none (by omega)] at h;cases h
theorem Mp.below{w w':World}(h:Mp w B l)(hb:zB w w'):Mp w' B l:=by
 have a:=h.lt;unfold Mp at *;rw[hb.block B a];exact h
theorem Mp.new(w:World):Mp (w.alloc (.map #[] 0)) w.heap.size []:=by
 show (w.heap.push _)[w.heap.size]?=_;rw[Array.getElem?_push_size];rfl
def look:List Pr→Int→Int→Int→Option Int
 |[],_,_,_=>none
 |p::l,m,r,b=>if m=p.m∧r=p.r∧b=p.b then some p.t else look l m r b
theorem look_no(h:No l m r b):look l m r b=none:=by
 induction l with
 |nil=>rfl
 |cons p l ih=>
  have a:=h 0 (by simp);rw[look,if_neg (λe=>a ⟨e.1.symm,e.2.1.symm,e.2.2.symm⟩)];exact ih λj c=>h (j+1) (by simpa using c)
theorem look_at{i:Nat}(h:At l m r b i):look l m r b=some (l.getD i pr0).t:=by
 induction l generalizing i with
 |nil=>exact absurd h.lt (Nat.not_lt_zero _)
 |cons p l ih=>
  cases i with
  |zero=>
   have a:=h.is;rw[look,if_pos ⟨a.1.symm,a.2.1.symm,a.2.2.symm⟩];rfl
  |succ i=>
   have a:=h.first 0 (by omega);rw[look,if_neg (λe=>a ⟨e.1.symm,e.2.1.symm,e.2.2.symm⟩)];exact ih ⟨by have:=h.lt;simpa using this,h.is,λj c=>h.first (j+1) (by omega)⟩
theorem look_take{k:Nat}(hk:k≤l.length):look (l.take k) m r b=none↔∀j,j<k→¬ (l.getD j pr0).key m r b:=by
 have d:∀j,j<k→(l.take k).getD j pr0=l.getD j pr0:=λj c=>by simp[List.getD,List.getElem?_take,c]
 rcases find_or (l.take k) m r b with⟨i,a⟩|e
 ·constructor
  ·intro h;rw[look_at a] at h;cases h
  ·intro h;have f:=a.lt;rw[List.length_take] at f;have:=a.is;rw[d i (by omega)] at this;exact absurd this (h i (by omega))
 ·constructor
  ·intro _ j c;have:=e j (by rw[List.length_take];omega)
   rwa [d j c] at this
  ·intro _;exact look_no e
theorem skq(d:Nat)(a b:Int)(w:World):(Op.equalIn (d+1) 3 (zI a) (zI b)).run Tryz.prog w=.ok (a==b) w:=run_equalIn_int w d _ _ _ a b Tryz.underlying3
theorem sk0(s t c:Int)(w:World):(part 3 #[zI s,zI t,zI c] 0).run Tryz.prog w=.ok (zI s) w:=by kernel_rfl
theorem sk1(s t c:Int)(w:World):(part 3 #[zI s,zI t,zI c] 1).run Tryz.prog w=.ok (zI t) w:=by kernel_rfl
theorem sk2(s t c:Int)(w:World):(part 3 #[zI s,zI t,zI c] 2).run Tryz.prog w=.ok (zI c) w:=by kernel_rfl
theorem eqSub(m r b:Int)(p:Pr)(w:World):
  (Op.equal 183 (.agg #[zI m,zI r,zI b]) (.agg #[zI p.m,zI p.r,zI p.b])).run Tryz.prog w=.ok (decide (m=p.m∧r=p.r∧b=p.b)) w:=by
 unfold Op.equal;rw[show Op.maxDepth=9999+1 from rfl,run_equalIn_agg w 9999 183 _ _ (by kernel_rfl) (by kernel_rfl)];simp only[Program.fieldsOf,Tryz.underlying183,Op.eqFields,Sem.run_bind,Sem.run_ite];by_cases a:m=p.m<;>by_cases c:r=p.r<;>by_cases d:b=p.b<;>simp[sk0,sk1,sk2,show (9999:Nat)=9998+1 from rfl,skq,a,c,d]
theorem chk(em:Bool)(m r b:Int)(w:World):(Instr.checkKey em 10000 183 (.agg #[zI m,zI r,zI b])).run Tryz.prog w=.ok () w:=by kernel_rfl
theorem asking(m r b:Int)(w:World):∀(l:List Pr)(i j:Nat),(look l m r b=none→(Instr.findAsking 183 (.agg #[zI m,zI r,zI b]) (ents l i) j).run Tryz.prog w=.ok none w) ∧
  ∀t,look l m r b=some t→∃q,(Instr.findAsking 183 (.agg #[zI m,zI r,zI b]) (ents l i) j).run Tryz.prog w=.ok (some (q,zI t)) w
 |[],i,j=>⟨λ_=>rfl,λt h=>by cases h⟩
 |p::l,i,j=>by
  have ih:=asking m r b w l (i+1) (j+1);unfold look;by_cases a:m=p.m∧r=p.r∧b=p.b
  ·refine⟨λh=>(by rw[if_pos a] at h;cases h),λt h=>⟨j,?_⟩⟩;rw[if_pos a] at h;cases h;simp[ents,Instr.findAsking,ent,eqSub,a,Sem.run_bind]
  ·rw[if_neg a]
   have e:∀X,(Instr.findAsking 183 (.agg #[zI m,zI r,zI b]) (ents (p::l) i) j).run Tryz.prog w=X↔(Instr.findAsking 183 (.agg #[zI m,zI r,zI b]) (ents l (i+1)) (j+1)).run Tryz.prog w=X:=λX=>by
    simp[ents,Instr.findAsking,ent,eqSub,a,Sem.run_bind]
   exact⟨λh=>(e _).2 (ih.1 h),λt h=>(ih.2 t h).imp λq c=>(e _).2 c⟩
theorem finding(m r b:Int)(w:World)(l:List Pr):(look l m r b=none→(Instr.findKey 183 (.agg #[zI m,zI r,zI b]) (ents l 0)).run Tryz.prog w=.ok none w) ∧
  ∀t,look l m r b=some t→∃q,(Instr.findKey 183 (.agg #[zI m,zI r,zI b]) (ents l 0)).run Tryz.prog w=.ok (some (q,zI t)) w:=by
 cases l with
 |nil=>exact⟨λ_=>by simp[Instr.findKey,ents,Instr.findNow,run_underlying Tryz.underlying183,Sem.run_bind],λt h=>by cases h⟩
 |cons p l=>
  have e:(Instr.findKey 183 (.agg #[zI m,zI r,zI b]) (ents (p::l) 0)).run Tryz.prog w=(Instr.findAsking 183 (.agg #[zI m,zI r,zI b]) (ents (p::l) 0)).run Tryz.prog w:=by
   simp[Instr.findKey,ents,Instr.findNow,Instr.sameNow,run_underlying Tryz.underlying183,Sem.run_bind]
  rw[e];exact asking m r b w (p::l) 0 0
theorem zint(w:World):(zeroValue 3).run Tryz.prog w=.ok (zI 0) w:=by kernel_rfl
theorem look_run(h:Mp w B l)(m r b:Int):
  (Instr.lookup 178 (.map (some B)) (.agg #[zI m,zI r,zI b]) true).run Tryz.prog w=.ok (.tuple #[zI ((look l m r b).getD 0),.bool (look l m r b).isSome]) w:=by
 have hf:=finding m r b w l;cases hl:look l m r b with
 |none=>simp[Instr.lookup,run_underlying Tryz.underlying178,MapKept.run_getObj_map h,chk,hf.1 hl,zint,Result.andThen,Sem.run_bind]
 |some t=>
  obtain⟨q,a⟩:=hf.2 t hl;simp[Instr.lookup,run_underlying Tryz.underlying178,MapKept.run_getObj_map h,chk,a,Result.andThen,Sem.run_bind]
theorem upd_run(h:Mp w B l)(m r b t:Int)(hn:look l m r b=none):
  ∃W,(Instr.mapUpdate 178 (.map (some B)) (.agg #[zI m,zI r,zI b]) (zI t)).run Tryz.prog w=.ok () W∧Mp W B (l++[⟨m,r,b,t⟩])∧(∀G,G≠B→W.heap[G]?=w.heap[G]?)∧(∀B0 w0,B0≤B→Below B0 w0 w→Below B0 w0 W)∧W.heap.size=w.heap.size:=by
 have hf:=(finding m r b w l).1 hn;refine⟨setBlock w B (.map ((ents l 0).toArray.push ⟨.agg #[zI m,zI r,zI b],zI t,l.length⟩) (l.length+1)),?_,?_,λG c=>heap_setBlock_other h _ c,λB0 w0 e a=>?_,by simp[setBlock]⟩
 ·simp[Instr.mapUpdate,run_underlying Tryz.underlying178,MapKept.run_getObj_map h,chk,hf,MapKept.run_setObj_map _ h,Result.andThen,setBlock,Sem.run_bind]
 ·unfold Mp;rw[heap_setBlock_same h,ents_app,List.length_append];simp[ent]
 ·refine⟨a.os,a.tape,a.output,by simp[setBlock];exact a.size,λk d=>?_⟩;rw[heap_setBlock_other h _ (by omega)];exact a.block k d
theorem run_mkMap(w:World)(n:Int):(Instr.makeMap 178 (some (zI n))).run Tryz.prog w=.ok (.map (some w.heap.size)) (w.alloc (.map #[] 0)):=by kernel_rfl
end ora
namespace book
open Go.RowKit cell
def DecGot(w:World)(l:List Int)(e:Ending)(w':World):Prop:=∃v f,e=.returned (.tuple #[Ev.v v,zI f])∧DecIs l v f∧zB w w'
def KDec:Prop:=∀(W:World)(a:Option Addr)(n cap:Nat)(l:List Int),RowU W a n l→(a=none→cap=0)→n≤cap→n*4≤140737488351232→(∀x∈l,0≤x∧x<4294967296)→zC 105 #[.slice a n cap] W λe w'=>DecGot W l e w'
end book
namespace acc
open tar (Du du0 Came RowD Ld PairT)
open Go.RowKit
theorem awithin(lo hi n:Int)(w:World):Calls Tryz.prog 66 #[zI lo,zI hi,zI n] w λe w'=>e=.returned (.bool (decide (lo≤n∧n≤hi)))∧w'=w:=by
 by_cases b:lo≤n
 ·by_cases c:n≤hi
  ·have a:decide (lo≤n∧n≤hi)=true:=by simp;omega
   rw[a];clear a;go_enter Tryz.func66,Tryz.ntmps66;go_wp2;go_ret;exact⟨rfl,rfl⟩
  ·have a:decide (lo≤n∧n≤hi)=false:=by simp;omega
   have d:decide (n≤hi)=false:=by simp;omega
   rw[a];clear a c;go_enter Tryz.func66,Tryz.ntmps66;go_wp2;go_ret;exact⟨rfl,rfl⟩
 ·have a:decide (lo≤n∧n≤hi)=false:=by simp;omega
  have d:decide (lo≤n)=false:=by simp;omega
  rw[a];clear a b;go_enter Tryz.func66,Tryz.ntmps66;go_wp2;go_ret;exact⟨rfl,rfl⟩
end acc
namespace deb
open tar (Du du0 Came RowD Ld ErrPost TwoPost PairT GaveD)
open Go.RowKit
def mixK(l:List Du)(m k:Nat):List Du:=ageAll (l.take k) m++l.drop k
theorem mix_all(l:List Du)(m k:Nat)(h:l.length=k):mixK l m k=ageAll l m:=by
 subst h;unfold mixK;rw[List.take_length,List.drop_length,List.append_nil]
theorem mix_len(l:List Du)(m k:Nat)(hk:k≤l.length):(mixK l m k).length=l.length:=by
 unfold mixK;rw[List.length_append,ageAll_len,List.length_take,List.length_drop];omega
theorem drop_one(l:List Du)(k:Nat)(hk:k<l.length):l.drop k=l.getD k du0::l.drop (k+1):=by
 rw[List.drop_eq_getElem_cons hk];simp[List.getD,List.getElem?_eq_getElem hk]
theorem mix_at(l:List Du)(m k:Nat)(hk:k<l.length):(mixK l m k).getD k du0=l.getD k du0:=by
 unfold mixK;have e:(ageAll (l.take k) m).length=k:=by rw[ageAll_len,List.length_take];omega
 rw[drop_one l k hk,List.getD,List.getElem?_append_right (by omega),e,Nat.sub_self];simp
theorem mix_set(l:List Du)(m k:Nat)(hk:k<l.length)(d:Du):(mixK l m k).set k d=ageAll (l.take k) m++d::l.drop (k+1):=by
 unfold mixK;have e:(ageAll (l.take k) m).length=k:=by rw[ageAll_len,List.length_take];omega
 rw[drop_one l k hk,List.set_append_right _ _ (by omega),e,Nat.sub_self,List.set_cons_zero]
theorem mix_next(l:List Du)(m k:Nat)(hk:k<l.length):(mixK l m k).set k ⟨growN (l.getD k du0).b m (l.getD k du0).a,(l.getD k du0).b⟩=mixK l m (k+1):=by
 rw[mix_set l m k hk];unfold mixK;rw[ageAll_take l m k hk];simp
theorem mix_same(l:List Du)(m k:Nat)(hk:k<l.length):(mixK l m k).set k ⟨growN (l.getD k du0).b 0 (l.getD k du0).a,(l.getD k du0).b⟩=mixK l m k:=by
 rw[mix_set l m k hk];show ageAll (l.take k) m++l.getD k du0::l.drop (k+1)=mixK l m k;unfold mixK;rw[drop_one l k hk]
theorem cells_set(l:List Du)(k:Nat)(hk:k<l.length)(x b:Int)(hb:(l.getD k du0).b=b):tar.cellsD (l.set k ⟨x,b⟩)=(tar.cellsD l).set (k*2) (zI x):=by
 induction l generalizing k with
 |nil=>simp at hk
 |cons d l ih=>
  cases k with
  |zero=>
   have e:d.b=b:=by simpa using hb
   subst e;rfl
  |succ k=>
   rw[show (k+1)*2=k*2+1+1 by omega];have a:k<l.length:=by simpa using hk
   have c:=ih k a (by simpa using hb);show tar.cellsD (d::l.set k ⟨x,b⟩)=_;simp only[tar.cellsD,List.set_cons_succ,c]
theorem ld_put{T:TypeId}{w W:World}{base g n cap:Nat}{l:List Du}{cur:Array Value}(h:Ld T w base (.slice (some ⟨g,0,none⟩) n cap) l)(hB:Blk w g cur T)(k:Nat)(hk:k<l.length)(x b:Int)(hb:(l.getD k du0).b=b)(hU:Upd w W g (cur.setIfInBounds (k*2) (zI x)) T):Ld T W base (.slice (some ⟨g,0,none⟩) n cap) (l.set k ⟨x,b⟩):=by
 unfold Ld at *;rw[List.length_set,cells_set l k hk x b hb];refine⟨by rw[List.length_set];exact h.1,?_⟩;rcases h.2 with⟨i,_⟩|⟨s,d,c,f,m,a,p,o,r,q⟩
 ·cases i
 ·simp only[Value.slice.injEq,Option.some.injEq,Addr.mk.injEq,and_true] at f;obtain⟨rfl,rfl,rfl⟩:=f
  have e:c=cur:=by
   have j:=hB;rw[j] at a;injection a with a
   injection a with a
   exact a.symm
  subst e;exact .inr ⟨g,cap,_,rfl,m,hU.blk,p,o,by simpa using r,by rw[Array.toList_setIfInBounds,← q,List.take_set]⟩
theorem ld_lies{T:TypeId}{w:World}{base n cap:Nat}{a:Option Addr}{l:List Du}(h:Ld T w base (.slice a n cap) l)(hn:0<n):∃g cur,a=some ⟨g,0,none⟩∧base≤g∧Blk w g cur T∧n*2≤cur.size∧(∀k,k<l.length→w.cell? ⟨g,k*2,none⟩=some (zI (l.getD k du0).a)∧w.cell? ⟨g,k*2+1,none⟩=some (zI (l.getD k du0).b)):=by
 rcases h.2 with⟨i,q⟩|⟨g,c,cur,d,m,j,p,r,t,s⟩
 ·simp only[Value.slice.injEq] at i;omega
 ·simp only[Value.slice.injEq] at d;obtain⟨rfl,rfl,rfl⟩:=d;refine⟨g,cur,rfl,m,j,by omega,λk o=>?_⟩;have e:=World.ownsRow.cellAt h (k*2) (by omega);have f:=World.ownsRow.cellAt h (k*2+1) (by omega);rw[e,f];exact tar.cellsD_at l k o
end deb
namespace acc
open tar (Du)
open Go.RowKit
def KcCheck:Prop:=∀(W:World)(t:Tm)(pt:Option Addr)(lt ct:Nat),TCame W t pt lt ct→zC 97 #[t.v pt lt ct] W λe w'=>tar.ErrPost W (TFault t) e w'
end acc
namespace tar
open Go.RowKit Go.Shelf
attribute [local go_sem] Oper.semAt_some
theorem boxed_same{W W':World}{B:Nat}{t:TypeId}{v:Value}(h:Boxed W B t v)(e:W'.heap[B]?=W.heap[B]?):Boxed W' B t v:=e.trans h
theorem lines1_in(F:Fence)(n:Nat)(hF:F.fn 147)(hro:F.round=none)(hn:1≤n)(l Bf Bt Bu n₀ lo hi b off len cap B0:Nat)(ls:List Du)(x u:Int)(J Jx:List Ln→World→Prop)
  (hR:Right ls) (hlen:ls.length=len) (hx:0≤x∧x≤10000000) (hu:0≤u∧x+u≤10000000) (hJ:AbidesFrom B0 J)
  (hY:∀ pre t W,J pre W→pre.length<len→YieldAt F (n - 1) Tryz.prog l (encL t) W fun e W'=>
   (e = .returned (.bool true)∧J (pre++[t]) W'∧Kq n₀ lo hi W W')∨(e = .returned (.bool false)∧Jx (pre++[t]) W'))
  (W:World) (hf:Boxed W Bf 3 (zI x)) (ht:Boxed W Bt 22 (.slice (some ⟨b,off,none⟩) len cap)) (hun:Boxed W Bu 3 (zI u)) (h1:lo≤Bf∧Bf<hi) (h2:lo≤Bu∧Bu<hi) (hb:b<n₀) (hnW:n₀≤W.heap.size)
  (hc:∀i,i<len→W.cell? ⟨b,off+i*2,none⟩=some (zI (ls.getD i du0).a)∧W.cell? ⟨b,off+i*2+1,none⟩=some (zI (ls.getD i du0).b)) (h0:J [] W):
  CallsIn F n Tryz.prog 147 #[.func (.yield l) #[] #[],.pointer (some ⟨Bf,0,none⟩),.pointer (some ⟨Bt,0,none⟩),.pointer (some ⟨Bu,0,none⟩)] W λe W'=>(∃v,e=.returned v) ∧
   ((∃ys,lns ys=billK ls x (x+u) len∧J ys W')∨(∃pre,lns pre <+: billK ls x (x+u) len∧Jx pre W')):=by
 have A:Hid (Right ls):=hR
 have HY:Hid (∀ pre t W,J pre W→pre.length<len→YieldAt F (n - 1) Tryz.prog l (encL t) W fun e W'=>
   (e = .returned (.bool true)∧J (pre++[t]) W'∧Kq n₀ lo hi W W')∨(e = .returned (.bool false)∧Jx (pre++[t]) W')):=hY
 have HJ:Hid (AbidesFrom B0 J):=hJ;have HC:Hid (∀i,i<len→W.cell? ⟨b,off+i*2,none⟩=some (zI (ls.getD i du0).a)∧W.cell? ⟨b,off+i*2+1,none⟩=some (zI (ls.getD i du0).b)):=hc;have O:Hid (ls.length=len):=hlen;have al:len≤8:=by have:=hR.1.2;omega
 have ct:=ht.cell;have cf:=hf.cell;obtain⟨q,ap⟩:=hx;obtain⟨ao,ad⟩:=hu;have HX:Hid (0≤x∧x≤x+u∧x+u≤10000000):=⟨q,by omega,ad⟩
 clear hR hY hJ hc hlen;refine callsIn_of_wp Tryz.func147 rfl hF ?_ hro;simp only[Tryz.ntmps147,List.size_toArray,List.length_cons,List.length_nil,Nat.reduceAdd,Nat.reduceSub,Array.replicate_succ,Array.replicate_zero,List.push_toArray,List.append_toArray,List.nil_append,List.cons_append]
 gi_wp2
 gi_loopw [5,12] (λr i wr=>∃(k:Nat)(pre:List Ln),k≤len∧i=zI (k:Int)∧r=zI (x+manyK ls x (x+u) k)∧lns pre=billK ls x (x+u) k∧J pre wr∧Boxed wr Bf 3 (zI x)∧Boxed wr Bu 3 (zI u)∧Below n₀ W wr) (λ_ i _=>len-(intOf i).toNat)
 case atStart=>exact⟨0,[],Nat.zero_le _,rfl,by show _=Value.int .i64 (x+0);rw[Int.add_zero],rfl,h0,hf,hun,zb⟩
 case round=>
  obtain⟨k,pre,hk,rfl,rfl,D,hj,g,h,d⟩:=hrel;have f:Hid (lns pre=billK ls x (x+u) k):=D;have N:Hid (J pre wr):=hj;have ai:Hid (Boxed wr Bf 3 (zI x)):=g;have ak:Hid (Boxed wr Bu 3 (zI u)):=h;have aj:Hid (Below n₀ W wr):=d;clear D hj hf hun ht ct cf;by_cases E:k<len
  ·have a6:decide ((k:Int)<(len:Int))=true:=by simp;omega
   have c0:wr.cell? ⟨b,off+k*2,none⟩=some (zI (ls.getD k du0).a):=(d.cell (p:=⟨b,off+k*2,none⟩) hb).trans (HC.o k E).1;have c1:wr.cell? ⟨b,off+k*2+1,none⟩=some (zI (ls.getD k du0).b):=(d.cell (p:=⟨b,off+k*2+1,none⟩) hb).trans (HC.o k E).2;have j:k<ls.length:=by rw[O.o];exact E
   have z:=A.o.price k j;have H:=A.o.upto k j;have T:=many_bd A.o x (x+u) q (by omega) k (by omega);have ae:=run_min (ls.getD k du0).a (x+u) _ rfl
   have ac:pre.length<len:=by
    have e1:=lns_len pre;have e2:=bill_len ls x (x+u) k;rw[f.o] at e1;omega
   have K:Hid (∀o,Below n₀ W (wr.alloc o)):=λo=>d.alloc (Nat.le_trans hnW d.size) o;have cf:∀o,(wr.alloc o).cell? ⟨Bf,0,none⟩=some (zI x):=λo=>(g.alloc o).cell;have cu:∀o,(wr.alloc o).cell? ⟨Bu,0,none⟩=some (zI u):=λo=>(h.alloc o).cell;have L:Hid (∀o,Boxed (wr.alloc o) Bf 3 (zI x)):=λo=>g.alloc o;have Q:Hid (∀o,Boxed (wr.alloc o) Bu 3 (zI u)):=λo=>h.alloc o;have M:Hid (∀o,J pre (wr.alloc o)):=λo=>HJ.o pre wr _ none N.o (World.grownBy_alloc wr o none) (λr e=>by cases e);clear g h d;by_cases U:0<min (ls.getD k du0).a (x+u)-(x+manyK ls x (x+u) k)
   ·have I:=nxt_yes A.o x (x+u) q (by omega) k j U;have y:=U;rw[I] at y;have c:=line_ok A.o x (x+u) k j y;have HN:Hid (billK ls x (x+u) (k+1)=billK ls x (x+u) k++[⟨ov (low ls k) (ls.getD k du0).a x (x+u),(ls.getD k du0).b,ov (low ls k) (ls.getD k du0).a x (x+u)*(ls.getD k du0).b⟩]):=billK_yes ls x (x+u) k y;have Y:Hid (manyK ls x (x+u) (k+1)=manyK ls x (x+u) k+ov (low ls k) (ls.getD k du0).a x (x+u)):=many_next ls x (x+u) k;have S:=many_bd A.o x (x+u) q (by omega) (k+1) (by omega);rw[Y.o] at S;have a8:=ov_le (low ls k) (ls.getD k du0).a x (x+u) (A.o.low_pos k (by omega)) H.2;have G:=prod_bd (Int.le_of_lt y) a8 z.1 z.2;generalize ov (low ls k) (ls.getD k du0).a x (x+u)=o at *;generalize manyK ls x (x+u) k=mk at *;generalize (ls.getD k du0).a=up at *;generalize (ls.getD k du0).b=p at *;generalize min up (x+u)=m at *;have hm:m-(x+mk)=o:=I;have a7:decide (o≤0)=false:=by simp;omega
    have HQ:Hid (∀ C,YieldAt F (n - 1) Tryz.prog l (encL ⟨⟨o,p,o*p⟩,c⟩) (wr.alloc C) fun e W'=>
     (e = .returned (.bool true)∧J (pre++[⟨⟨o,p,o*p⟩,c⟩]) W'∧Kq n₀ lo hi (wr.alloc C) W')∨(e = .returned (.bool false)∧Jx (pre++[⟨⟨o,p,o*p⟩,c⟩]) W')):=fun C=>HY.o pre ⟨⟨o,p,o*p⟩,c⟩ _ (M.o C) ac
    obtain⟨fn,ah,Z,body,hy,a5⟩:=HQ.o (.cells #[zI up,zI p] 214)
    have P:Hid (lns (pre++[⟨⟨o,p,o*p⟩,c⟩])=billK ls x (x+u) (k+1)):=by
     show _=_;rw[lns_app,f.o,HN.o];rfl
    have af:=G.1;have ag:=G.2;have V:0≤x+mk:=by omega
    have X:x+mk≤10000000:=by omega
    have a9:0≤m:=by omega
    have aa:m≤20000000:=by omega
    have an:x+mk+o≤10000000:=by omega
    have am:0≤o:=by omega
    simp only[encL] at hy;clear I U T S G z H
    gi_wp2
    refine a5.mono ?_;rintro e W3 (⟨rfl,R,s⟩|⟨rfl,B⟩)
    ·have a0:Hid (Below n₀ W W3):=(K.o _).trans s.1;have a1:Hid (Boxed W3 Bf 3 (zI x)):=boxed_same (L.o _) (s.2 Bf h1.1 h1.2);have a4:Hid (Boxed W3 Bu 3 (zI u)):=boxed_same (Q.o _) (s.2 Bu h2.1 h2.2);have a2:Hid (J (pre++[⟨⟨o,p,o*p⟩,c⟩]) W3):=R;clear s R
     gi_wp2
     go_roundw
     case rel=>exact⟨k+1,pre++[⟨⟨o,p,o*p⟩,c⟩],by omega,by go_num,by rw[Y.o,Int.add_assoc],P.o,a2.o,a1.o,a4.o,a0.o⟩
     case measure=>simp[intOf];omega
    ·have a3:Hid (Jx (pre++[⟨⟨o,p,o*p⟩,c⟩]) W3):=B;clear B
     gi_wp2
     refine bodyPost_ret (results_none rfl _ _ _) rfl ?_;exact⟨⟨_,rfl⟩,.inr ⟨pre++[⟨⟨o,p,o*p⟩,c⟩],by rw[P.o];exact bill_prefix ls x (x+u) (k+1) len (by omega),a3.o⟩⟩
   ·have I:=nxt_no A.o x (x+u) q (by omega) k j U;have ab:0≤min (ls.getD k du0).a (x+u):=by omega
    have HN:Hid (billK ls x (x+u) (k+1)=billK ls x (x+u) k):=billK_no ls x (x+u) k (by omega);have Y:Hid (manyK ls x (x+u) (k+1)=manyK ls x (x+u) k):=by show _=_;rw[many_next,I,Int.add_zero]
    generalize manyK ls x (x+u) k=mk at *;generalize (ls.getD k du0).a=up at *;generalize (ls.getD k du0).b=p at *;generalize min up (x+u)=m at *;have V:0≤x+mk:=by omega
    have X:x+mk≤10000000:=by omega
    have a7:decide (m-(x+mk)≤0)=true:=by simp;omega
    have a9:0≤m:=ab;have aa:m≤20000000:=by omega
    clear I U T z H
    gi_wp2
    go_roundw
    case rel=>exact⟨k+1,pre,by omega,by go_num,by rw[Y.o],by rw[HN.o];exact f.o,M.o _,L.o _,Q.o _,K.o _⟩
    case measure=>simp[intOf];omega
  ·obtain rfl:k=len:=by omega
   have a6:decide ((k:Int)<(k:Int))=false:=by simp
   clear g h d
   gi_wp2
   go_end0;exact⟨⟨_,rfl⟩,.inl ⟨pre,f.o,N.o⟩⟩
end tar
namespace deb
open tar (Du du0 Came RowD Ld ErrPost TwoPost PairT GaveD)
open Go.RowKit
theorem powed(a:Option Addr)(len cap:Nat)(ls:List Du)(w:World)(hr:RowD w a len ls)(hm:Mays ls):Calls Tryz.prog 143 #[.slice a len cap] w λe w'=>e=.returned (zI (sumD ls))∧zB w w':=by
 have c:Hid (ls.length=len):=hr.1;have n:Hid (Mays ls):=hm;have A:len≤8:=by have:=hm.1;have:=hr.1;omega
 have h:Hid (RowD w a len ls):=hr;clear hm hr;go_enter Tryz.func143,Tryz.ntmps143;go_wp2_with fail;go_loopw [3,8] (λv x wr=>∃k:Nat,k≤len∧x=zI (k:Int)∧v=zI (sumK ls k)∧zB w wr) (λ_ x _=>len-(intOf x).toNat)
 case atStart=>exact⟨0,Nat.zero_le _,rfl,rfl,zb⟩
 case round=>
  obtain⟨k,u,rfl,rfl,f⟩:=hrel;have B:=sumK_bd n.o k (by rw[c.o];exact u);have q:Hid (zB w wr):=f;by_cases g:k<len
  ·have m:decide ((k:Int)<(len:Int))=true:=by simp;omega
   obtain⟨b,d,rfl,i,l⟩:=h.o.at (by omega);have c0:wr.cell? ⟨b,d+k*2,none⟩=some (zI (ls.getD k du0).a):=(f.cell (p:=⟨b,d+k*2,none⟩) i).trans (l k g).1;have c1:wr.cell? ⟨b,d+k*2+1,none⟩=some (zI (ls.getD k du0).b):=(f.cell (p:=⟨b,d+k*2+1,none⟩) i).trans (l k g).2;have j:Hid (∀o,zB w (wr.alloc o)):=λo=>f.alloc f.size o;have C:=(n.o.2 k (by rw[c.o];exact g)).1;have r:Hid (sumK ls k+(ls.getD k du0).a=sumK ls (k+1)):=(sumK_next ls k).symm;clear l f;generalize sumK ls k=s at *;generalize (ls.getD k du0).a=x at *;generalize (ls.getD k du0).b=y at *;go_wp2_with fail;go_roundw
   case rel=>exact⟨k+1,by omega,by go_num,by rw[← r.o],j.o _⟩
   case measure=>simp[intOf];omega
  ·obtain rfl:k=len:=by omega
   have m:decide ((k:Int)<(k:Int))=false:=by simp
   have t:Hid (sumK ls k=sumD ls):=by have:=sumK_all ls;rw[c.o] at this;exact this
   generalize sumK ls k=s at *;clear f;go_wp2_with fail;go_ret;exact⟨congrArg (λz=>Ending.returned (Value.int .i64 z)) t.o,q.o⟩
end deb
namespace acc
open tar (Du)
open Go.RowKit
def KcRekey:Prop:=∀(W:World)(x:Ac)(p:Option Addr)(len cap:Nat),ACame W x p len cap→zC 31 #[x.v p len cap] W λe w'=>BPost W (RekeyIs x) e w'
end acc
section
open Go.RowKit
variable{Q:Exit→Act→World→Prop}{K:Act→World→Prop}{P:Program}{o:Oper}{a:Act}
theorem wp_letOpN{w:World}(ty:TypeId)(x y:Operand)(ho:o.op=.store ty x y)
  (g off:Nat) (hx:a.eval x=.pointer (some ⟨g,off,none⟩)) (v:Value) (hy:a.eval y=v) (cells:Array Value) (hv:v.cells=cells) (hi:(P.info? ty).map (·.size)=some cells.size) (h1:cells.all (·.oneCell')=true)
  (cs:Array Value) (t:TypeId) (hB:Blk w g cs t) (hin:off+cells.size≤cs.size) (new:Array Value) (hnew:putAll cs off cells.toList=new) (hd:o.dst=none)
  (h:∀W,Upd w W g new t→K a W):o.wp P a w K Q:=by
 have c:=run_storeVar_let (P:=P) (w:=w) (g:=g) (off:=off) (ty:=ty) (t:=t) (v:=v) (cells:=cells) (cs:=cs) hv hi h1 hB hin;have b:=upd_cells g t cells.toList off w cs hB;rw[hnew] at b;unfold Oper.wp execOp;simp only[ho,hx,hy,Instr.storeAt,Instr.sureAddr,Sem.run_bind,Sem.run_pure,Result.andThen_ok,c];have:=h _ b;have e:a.put o.dst undef=a:=by rw[hd];rfl
 rw[← e] at this;exact this
theorem wp_callOpP{w:World}{f:FuncId}{args:Array Value}{R:Ending→World→Prop}(d:Nat)(hd:o.dst=some d)(hrun:(execOp a.eval o).run P w=.ok (.enter f args) w)(hc:Calls P f args w R)
  (h:∀e w',R e w'→(∃v,e=.returned v∧K (a.put (some d) v) w')∨∃c,e=.panicked c∧Q (.panic c) a w'):o.wp P a w K Q:=by
 rw[← hd] at h;unfold Oper.wp;rw[hrun,Oper.upon_enter];refine hc.mono λe w' g=>?_;rcases h e w' g with⟨v,rfl,b⟩|⟨c,rfl,b⟩
 ·exact b
 ·exact b
theorem wp_mapOp{w W:World}(ty:TypeId)(x y z:Operand)(ho:o.op=.mapUpdate ty x y z)(vx vy vz:Value)(hx:a.eval x=vx)(hy:a.eval y=vy)(hz:a.eval z=vz)
  (hr:(Instr.mapUpdate ty vx vy vz).run P w=.ok () W) (hd:o.dst=none) (h:K a W):o.wp P a w K Q:=by
 unfold Oper.wp execOp;simp only[ho,hx,hy,hz,Sem.run_bind,Sem.run_pure,Result.andThen_ok,hr];have e:a.put o.dst undef=a:=by rw[hd];rfl
 rw[← e] at h;exact h
end
namespace disk
open Go.RowKit cell
def KAppend:Prop:=∀(W:World)(a:Option Addr)(n cap:Nat)(c:List Int)(b:Option Addr)(m cap2:Nat)(r:List Int),RowU W a n c→(a=none→cap=0)→n≤cap→n*4≤140737488351232→(∀x∈c,0≤x∧x<4294967296)→RowU W b m r→(b=none→cap2=0)→m≤cap2→m*4≤140737488351232→(∀x∈r,0≤x∧x<4294967296)→zC 77 #[.slice a n cap,.slice b m cap2] W λe w'=>AppGot W c r e w'
end disk
namespace acc
open tar (Du du0 Right MostOf cost Top)
open deb (sumD recK ageAll)
open Go.RowKit
theorem rec_bd{te db:Int}(h0:0≤te)(h1:te≤100000000)(h2:0≤db)(h3:db≤10000):0≤te*db/10000∧te*db/10000≤te:=by
 have a:=Int.mul_nonneg h0 h2;have b:te*db≤te*10000:=Int.mul_le_mul_of_nonneg_left h3 h0;omega
theorem most_cost{l:List Du}{x m u:Int}(h:Right l)(hx:0≤x)(hu:MostOf l x m u)(h1:1≤u):0<cost l x (x+u)∧cost l x (x+u)≤m∧x+u≤10000000∧u≤2097151:=by
 have a:=hu.1.2;have b:=tar.cost_bd h x (x+u) hx (by omega) (by unfold Top at a;omega);exact⟨by omega,hu.2.1,by unfold Top at a;omega,by unfold Top at a;omega⟩
theorem mays_sum{l:List Du}(h:deb.Mays l):0≤sumD l∧sumD l≤8000000000:=by
 have a:=deb.sumD_pos (l:=l) (deb.mem_fits h.2);have b:=h.1;exact⟨a.1,by have:=a.2;omega⟩
end acc
end Go.Proofs.YtoepgdhiepedeaaGreatDoor
