import Derived.Test.YtoepgdhiepedeaaGreatDoorVVRys6
import Derived.Test.YtoepgdhiepedeaaGreatDoorVVRys9
import Derived.Test.YtoepgdhiepedeaaGreatDoorVVRys10
set_option linter.unusedVariables false
set_option linter.unusedSimpArgs false
set_option maxHeartbeats 4000000
set_option maxRecDepth 100000
namespace Go.Proofs.YtoepgdhiepedeaaGreatDoor
namespace acc
open tar (Du du0 Came RowD Ld PairT)
open Go.RowKit
theorem rcopyL(x:Ac)(p:Option Addr)(len cap:Nat)(w:World)(h:RowD w p len x.ds)(hm:deb.Mays x.ds):Calls Tryz.prog 51 #[.agg #[zI x.me,zI x.rv,zI x.nx,zI x.mo,zI x.bo,zI x.fr,.slice p len cap]] w λe w'=>∃p' cap',e=.returned (Ac.v x p' len cap')∧deb.Fresh w' w.heap.size p' len cap' x.ds∧Ld 42 w' w.heap.size (.slice p' len cap') x.ds∧zB w w':=by
 have l:=h.1;have a8:len≤8:=by have:=hm.1;omega
 obtain⟨g,a2,I,J,y,a9⟩:=sh2 w #[zI x.me,zI x.rv,zI x.nx,zI x.mo,zI x.bo,zI x.fr,.slice p len cap] 55 #[zI 0,zI 0,zI 0,zI 0,zI 0,zI 0,zS] 55;have A:=zh (h.below y.o);have HM:=zh hm;have d:=zh l;clear h hm l;go_enter Tryz.func51,Tryz.ntmps51;go_upto_region 1 with fail
 rw[a2.o];go_wp2_with fail;go_loopw [3,4] (λu z wr=>∃(k:Nat)(V:Value),k≤len∧z=zI (k:Int)∧V=u∧Ld 42 wr g.heap.size V (x.ds.take k)∧zB g wr) (λ_ z _=>len-(intOf z).toNat)
 case atStart=>exact⟨0,_,Nat.zero_le _,rfl,rfl,tar.Ld.zero _ _ _,zb⟩
 case round=>
  obtain⟨k,V,hk,rfl,hV,t,j⟩:=hrel;subst hV;have T:=zh j;have HU:=zh t;have X:=zh (I.o.below j (by omega));have Y:=zh (J.o.below j (by omega));have c6:=zy6 X;by_cases s:k<len
  ·have a3:decide ((k:Int)<(len:Int))=true:=by simp;omega
   have E:k<x.ds.length:=by rw[d.o];exact s
   obtain⟨b,i,rfl,C,hc⟩:=A.o.at (by omega);have c0:wr.cell? ⟨b,i+k*2,none⟩=some (zI (x.ds.getD k du0).a):=(j.cell (p:=⟨b,i+k*2,none⟩) C).trans (hc k s).1;have c1:wr.cell? ⟨b,i+k*2+1,none⟩=some (zI (x.ds.getD k du0).b):=(j.cell (p:=⟨b,i+k*2+1,none⟩) C).trans (hc k s).2;have a1:Hid (x.ds.take (k+1)=x.ds.take k++[⟨(x.ds.getD k du0).a,(x.ds.getD k du0).b⟩]):=tar.take_one x.ds k E;have a5:(x.ds.take k).length≤1000000:=by rw[List.length_take];omega
   clear hc j t E;generalize x.ds.take k=Z at *;generalize (x.ds.getD k du0).a=n at *;generalize (x.ds.getD k du0).b=q at *;have m:=zyf T (.cells #[zI n,zI q] 42);have B:Hid (Ld 42 (wr.alloc (.cells #[zI n,zI q] 42)) g.heap.size V Z):=HU.o.alloc _;have U:Hid ((wr.alloc (.cells #[zI n,zI q] 42)).cell? ⟨wr.heap.size,0,none⟩=some (zI n)∧(wr.alloc (.cells #[zI n,zI q] 42)).cell? ⟨wr.heap.size,1,none⟩=some (zI q)):=⟨(Blk.new wr _ _).cell 0,(Blk.new wr _ _).cell 1⟩
   go_wp2_with (first
    |(at_builtin;refine tar.wp_pair deb.debtT rfl _ _ rfl g.heap.size wr.heap.size V Z ⟨n,q⟩ rfl rfl B.o U.o a5 m.o.size ?_)
    | fail)
   intro v3 w3 h3 D;have R:Hid (zB g w3):=tar.own_bel B.o D m.o zc m.o.size;have H3:Hid (Ld 42 w3 g.heap.size v3 (Z++[⟨n,q⟩])):=h3;clear h3 D c0 c1 c6;go_wp2_with fail;go_roundw
   case rel=>exact⟨k+1,v3,by omega,by go_num,by first|rfl|trivial,by rw[a1.o];exact H3.o,R.o⟩
   case measure=>simp[intOf];omega
  ·obtain rfl:len=k:=by omega
   have a3:decide ((len:Int)<(len:Int))=false:=by simp
   have F:x.ds.take len=x.ds:=List.take_of_length_le (by rw[d.o];exact zc);rw[F] at t;obtain⟨H,c,a4,r⟩:=deb.ld_fresh t HM.o;subst a4;rw[d.o] at r ⊢;have W:=zh r;have a0:Hid (Ld 42 wr g.heap.size (.slice H len c) x.ds):=by have G:=t;rw[d.o] at G;exact G
   have S:=zh (y.o.trans (j.mono (by omega)));clear j t r F;go_wp2_with refine zm ?_;intro W3 f;have a6:=zyb f;have a7:=zk1 f Y;have K:=zk f S;have L:=zh (fresh_upd W.o f (by omega));have M:=zh (ld_upd a0.o f (by omega));clear f c6;go_wp2_with (first|refine zw ?_|refine zs ?_)
   intro WF f;have Q:=zyb f;have N:=zk f K;have O:Hid (deb.Fresh WF w.heap.size H len c x.ds):=(fresh_upd L.o f (by omega)).low (by omega);have P:Hid (Ld 42 WF w.heap.size (.slice H len c) x.ds):=(ld_upd M.o f (by omega)).low (by omega);clear f;go_wp2_with fail;exact zr (.agg #[zI x.me,zI x.rv,zI x.nx,zI x.mo,zI x.bo,zI x.fr,.slice H len c]) (by simp[results,Tryz.results51,scl7 Q,go_sem]) ⟨H,c,rfl,O.o,P.o,N.o⟩
theorem rcopy(x:Ac)(p:Option Addr)(len cap:Nat)(w:World)(h:RowD w p len x.ds)(hm:deb.Mays x.ds):Calls Tryz.prog 51 #[.agg #[zI x.me,zI x.rv,zI x.nx,zI x.mo,zI x.bo,zI x.fr,.slice p len cap]] w λe w'=>∃p' cap',e=.returned (Ac.v x p' len cap')∧deb.Fresh w' w.heap.size p' len cap' x.ds∧zB w w':=
 (rcopyL x p len cap w h hm).mono λe w' c=>by
  obtain⟨p',cap',b,hf,_,a⟩:=c;exact⟨p',cap',b,hf,a⟩
end acc
namespace ora
open Go.RowKit
open Go.ChangeMaps (setBlock heap_setBlock_same heap_setBlock_other)
def ent(p:Pr)(i:Nat):MapEntry:={ key:=.agg #[zI p.m,zI p.r,zI p.b],val:=zI p.t,born:=i }
def ents:List Pr→Nat→List MapEntry
 |[],_=>[]
 |p::l,i=>ent p i::ents l (i+1)
theorem ents_app(l:List Pr)(p:Pr)(i:Nat):ents (l++[p]) i=ents l i++[ent p (i+l.length)]:=by
 induction l generalizing i with
 |nil=>rfl
 |cons x l ih=>simp only[List.cons_append,ents,ih,List.length_cons];rw[show i+1+l.length=i+(l.length+1) by omega]
def Mp(w:World)(B:Nat)(l:List Pr):Prop:=w.heap[B]?=some (.map (ents l 0).toArray l.length)
variable{l:List Pr}{m r b:Int}{B:Nat}{w:World}
theorem Mp.lt(h:Mp w B l):B<w.heap.size:=by
 unfold Mp at h;by_cases a:B<w.heap.size
 ·exact a
 ·rw[Array.getElem?_eq_none (by omega)] at h;cases h
theorem Mp.below{w w':World}(h:Mp w B l)(hb:zB w w'):Mp w' B l:=by
 have a:=h.lt;unfold Mp at *;rw[hb.block B a];exact h
theorem Mp.new(w:World):Mp (w.alloc (.map #[] 0)) w.heap.size []:=by
 show (w.heap.push _)[w.heap.size]?=_;rw[Array.getElem?_push_size];rfl
def look:List Pr→Int→Int→Int→Option Int
 |[],_,_,_=>none
 |p::l,m,r,b=>if m=p.m∧r=p.r∧b=p.b then some p.t else look l m r b
theorem look_no(h:No l m r b):look l m r b=none:=by
 induction l with
 |nil=>rfl
 |cons p l ih=>
  have a:=h 0 (by simp);rw[look,if_neg (λe=>a ⟨e.1.symm,e.2.1.symm,e.2.2.symm⟩)];exact ih λj c=>h (j+1) (by simpa using c)
theorem look_at{i:Nat}(h:At l m r b i):look l m r b=some (l.getD i pr0).t:=by
 induction l generalizing i with
 |nil=>exact absurd h.lt (Nat.not_lt_zero _)
 |cons p l ih=>
  cases i with
  |zero=>
   have a:=h.is;rw[look,if_pos ⟨a.1.symm,a.2.1.symm,a.2.2.symm⟩];rfl
  |succ i=>
   have a:=h.first 0 (by omega);rw[look,if_neg (λe=>a ⟨e.1.symm,e.2.1.symm,e.2.2.symm⟩)];exact ih ⟨by have:=h.lt;simpa using this,h.is,λj c=>h.first (j+1) (by omega)⟩
theorem look_take{k:Nat}(hk:k≤l.length):look (l.take k) m r b=none↔∀j,j<k→¬ (l.getD j pr0).key m r b:=by
 have d:∀j,j<k→(l.take k).getD j pr0=l.getD j pr0:=λj c=>by simp[List.getD,List.getElem?_take,c]
 rcases find_or (l.take k) m r b with⟨i,a⟩|e
 ·constructor
  ·intro h;rw[look_at a] at h;cases h
  ·intro h;have f:=a.lt;rw[List.length_take] at f;have:=a.is;rw[d i (by omega)] at this;exact absurd this (h i (by omega))
 ·constructor
  ·intro _ j c;have:=e j (by rw[List.length_take];omega)
   rwa [d j c] at this
  ·intro _;exact look_no e
theorem skq(d:Nat)(a b:Int)(w:World):(Op.equalIn (d+1) 3 (zI a) (zI b)).run Tryz.prog w=.ok (a==b) w:=run_equalIn_int w d _ _ _ a b Tryz.underlying3
theorem sk0(s t c:Int)(w:World):(part 3 #[zI s,zI t,zI c] 0).run Tryz.prog w=.ok (zI s) w:=by kernel_rfl
theorem sk1(s t c:Int)(w:World):(part 3 #[zI s,zI t,zI c] 1).run Tryz.prog w=.ok (zI t) w:=by kernel_rfl
theorem sk2(s t c:Int)(w:World):(part 3 #[zI s,zI t,zI c] 2).run Tryz.prog w=.ok (zI c) w:=by kernel_rfl
theorem eqSub(m r b:Int)(p:Pr)(w:World):
  (Op.equal 183 (.agg #[zI m,zI r,zI b]) (.agg #[zI p.m,zI p.r,zI p.b])).run Tryz.prog w=.ok (decide (m=p.m∧r=p.r∧b=p.b)) w:=by
 unfold Op.equal;rw[show Op.maxDepth=9999+1 from rfl,run_equalIn_agg w 9999 183 _ _ (by kernel_rfl) (by kernel_rfl)];simp only[Program.fieldsOf,Tryz.underlying183,Op.eqFields,Sem.run_bind,Sem.run_ite];by_cases a:m=p.m<;>by_cases c:r=p.r<;>by_cases d:b=p.b<;>simp[sk0,sk1,sk2,show (9999:Nat)=9998+1 from rfl,skq,a,c,d]
theorem chk(em:Bool)(m r b:Int)(w:World):(Instr.checkKey em 10000 183 (.agg #[zI m,zI r,zI b])).run Tryz.prog w=.ok () w:=by kernel_rfl
theorem asking(m r b:Int)(w:World):∀(l:List Pr)(i j:Nat),(look l m r b=none→(Instr.findAsking 183 (.agg #[zI m,zI r,zI b]) (ents l i) j).run Tryz.prog w=.ok none w) ∧
  ∀t,look l m r b=some t→∃q,(Instr.findAsking 183 (.agg #[zI m,zI r,zI b]) (ents l i) j).run Tryz.prog w=.ok (some (q,zI t)) w
 |[],i,j=>⟨λ_=>rfl,λt h=>by cases h⟩
 |p::l,i,j=>by
  have ih:=asking m r b w l (i+1) (j+1);unfold look;by_cases a:m=p.m∧r=p.r∧b=p.b
  ·refine⟨λh=>(by rw[if_pos a] at h;cases h),λt h=>⟨j,?_⟩⟩;rw[if_pos a] at h;cases h;simp[ents,Instr.findAsking,ent,eqSub,a,Sem.run_bind]
  ·rw[if_neg a]
   have e:∀X,(Instr.findAsking 183 (.agg #[zI m,zI r,zI b]) (ents (p::l) i) j).run Tryz.prog w=X↔(Instr.findAsking 183 (.agg #[zI m,zI r,zI b]) (ents l (i+1)) (j+1)).run Tryz.prog w=X:=λX=>by
    simp[ents,Instr.findAsking,ent,eqSub,a,Sem.run_bind]
   exact⟨λh=>(e _).2 (ih.1 h),λt h=>(ih.2 t h).imp λq c=>(e _).2 c⟩
theorem finding(m r b:Int)(w:World)(l:List Pr):(look l m r b=none→(Instr.findKey 183 (.agg #[zI m,zI r,zI b]) (ents l 0)).run Tryz.prog w=.ok none w) ∧
  ∀t,look l m r b=some t→∃q,(Instr.findKey 183 (.agg #[zI m,zI r,zI b]) (ents l 0)).run Tryz.prog w=.ok (some (q,zI t)) w:=by
 cases l with
 |nil=>exact⟨λ_=>by simp[Instr.findKey,ents,Instr.findNow,run_underlying Tryz.underlying183,Sem.run_bind],λt h=>by cases h⟩
 |cons p l=>
  have e:(Instr.findKey 183 (.agg #[zI m,zI r,zI b]) (ents (p::l) 0)).run Tryz.prog w=(Instr.findAsking 183 (.agg #[zI m,zI r,zI b]) (ents (p::l) 0)).run Tryz.prog w:=by
   simp[Instr.findKey,ents,Instr.findNow,Instr.sameNow,run_underlying Tryz.underlying183,Sem.run_bind]
  rw[e];exact asking m r b w (p::l) 0 0
theorem zint(w:World):(zeroValue 3).run Tryz.prog w=.ok (zI 0) w:=by kernel_rfl
theorem look_run(h:Mp w B l)(m r b:Int):
  (Instr.lookup 178 (.map (some B)) (.agg #[zI m,zI r,zI b]) true).run Tryz.prog w=.ok (.tuple #[zI ((look l m r b).getD 0),.bool (look l m r b).isSome]) w:=by
 have hf:=finding m r b w l;cases hl:look l m r b with
 |none=>simp[Instr.lookup,run_underlying Tryz.underlying178,MapKept.run_getObj_map h,chk,hf.1 hl,zint,Result.andThen,Sem.run_bind]
 |some t=>
  obtain⟨q,a⟩:=hf.2 t hl;simp[Instr.lookup,run_underlying Tryz.underlying178,MapKept.run_getObj_map h,chk,a,Result.andThen,Sem.run_bind]
theorem upd_run(h:Mp w B l)(m r b t:Int)(hn:look l m r b=none):
  ∃W,(Instr.mapUpdate 178 (.map (some B)) (.agg #[zI m,zI r,zI b]) (zI t)).run Tryz.prog w=.ok () W∧Mp W B (l++[⟨m,r,b,t⟩])∧(∀G,G≠B→W.heap[G]?=w.heap[G]?)∧(∀B0 w0,B0≤B→Below B0 w0 w→Below B0 w0 W)∧W.heap.size=w.heap.size:=by
 have hf:=(finding m r b w l).1 hn;refine⟨setBlock w B (.map ((ents l 0).toArray.push ⟨.agg #[zI m,zI r,zI b],zI t,l.length⟩) (l.length+1)),?_,?_,λG c=>heap_setBlock_other h _ c,λB0 w0 e a=>?_,by simp[setBlock]⟩
 ·simp[Instr.mapUpdate,run_underlying Tryz.underlying178,MapKept.run_getObj_map h,chk,hf,MapKept.run_setObj_map _ h,Result.andThen,setBlock,Sem.run_bind]
 ·unfold Mp;rw[heap_setBlock_same h,ents_app,List.length_append];simp[ent]
 ·refine⟨a.os,a.tape,a.output,by simp[setBlock];exact a.size,λk d=>?_⟩;rw[heap_setBlock_other h _ (by omega)];exact a.block k d
theorem run_mkMap(w:World)(n:Int):(Instr.makeMap 178 (some (zI n))).run Tryz.prog w=.ok (.map (some w.heap.size)) (w.alloc (.map #[] 0)):=by kernel_rfl
end ora
namespace acc
open tar (Du du0 Came RowD Ld PairT)
open Go.RowKit
structure Chg (w W:World) (g:Nat):Prop where
 os:W.os=w.os
 tape:W.tape=w.tape
 output:W.output=w.output
 size:w.heap.size≤W.heap.size
 oth:∀k,k<w.heap.size→k≠g→W.heap[k]?=w.heap[k]?
theorem Chg.refl(w:World)(g:Nat):Chg w w g:=⟨rfl,rfl,rfl,zc,λ_ _ _=>rfl⟩
variable{g:Nat}{p:Option Addr}{l:List Du}{len cap:Nat}
theorem Chg.trans{w W V:World}(h:Chg w W g)(h':Chg W V g):Chg w V g:=
 ⟨h'.os.trans h.os,h'.tape.trans h.tape,h'.output.trans h.output,Nat.le_trans h.size h'.size,λk b a=>(h'.oth k (Nat.lt_of_lt_of_le b h.size) a).trans (h.oth k b a)⟩
theorem Chg.of{w W:World}(hb:zB w W):Chg w W g:=⟨hb.os,hb.tape,hb.output,hb.size,λk a _=>hb.block k a⟩
theorem Chg.upd{w W:World}{cs:Array Value}{t:TypeId}(hu:Upd w W g cs t):Chg w W g:=by
 have h:=hu.bel 0 w (Nat.zero_le _) zb;exact⟨h.os,h.tape,h.output,h.size,λk _ a=>hu.oth k a⟩
theorem Chg.keep{w W:World}{g G:Nat}{cs:Array Value}{t:TypeId}(h:Chg w W g)(hb:Blk w G cs t)(hne:G≠g):Blk W G cs t:=by
 have a:=hb.lt;unfold Blk at *;rw[h.oth G a hne];exact hb
theorem Chg.bel{w W:World}(h:Chg w W g)(hl:g≤w.heap.size):Below g w W:=
 ⟨h.os,h.tape,h.output,h.size,λk a=>h.oth k (by omega) (by omega)⟩
def Far(p:Option Addr)(len g:Nat):Prop:=0<len→∀y,p=some y→y.block≠g
theorem row_chg{w W:World}{len:Nat}(h:RowD w p len l)(hc:Chg w W g)(hf:Far p len g):RowD W p len l:=by
 refine⟨h.1,?_⟩;rcases Nat.eq_zero_or_pos len with a|a
 ·exact .inl a
 ·obtain⟨b,f,rfl,j,c⟩:=h.at a;have d:b≠g:=hf a _ rfl;refine .inr ⟨b,f,rfl,λi k=>?_⟩;have e:∀o,W.cell? ⟨b,o,none⟩=w.cell? ⟨b,o,none⟩:=λo=>by simp only[World.cell?,hc.oth b j d]
  rw[e,e];exact c i k
theorem came_chg{w W:World}(h:Came w p len cap l)(hc:Chg w W g)(hf:Far p len g):Came W p len cap l:=⟨row_chg h.row hc hf,h.nil,h.room,h.bytes,h.wf⟩
theorem fresh_far{w:World}(h:deb.Fresh w (g+1) p len cap l):Far p len g:=λa y b=>by have:=h.new a y b;omega
theorem fresh_chg{w W:World}(h:deb.Fresh w (g+1) p len cap l)(hc:Chg w W g):deb.Fresh W (g+1) p len cap l:=⟨came_chg h.came hc (fresh_far h),h.new⟩
def wcs(x:Ac)(b:Bi)(p:Option Addr)(len cap:Nat):Array Value:=#[zI x.me,zI x.rv,zI x.nx,zI x.mo,zI x.bo,zI x.fr,.slice p len cap,zI b.id,zI b.te,zI b.de,zI b.fe,zI b.pr,zI b.ch,zI b.un]
def WPost(w:World)(g:Nat)(R:Ac→Bi→Int→Prop)(e:Ending)(w':World):Prop:=∃y b q n c f,e=.returned (zI f)∧R y b f∧Blk w' g (wcs y b q n c) 132∧deb.Fresh w' (g+1) q n c y.ds∧Below g w w'
def DPost(w:World)(g:Nat)(R:Ac→Bi→Int→Prop)(e:Ending)(w':World):Prop:=∃y b q n c f,e=.returned (zI f)∧R y b f∧Blk w' g (wcs y b q n c) 132∧deb.Fresh w' (g+1) q n c y.ds∧Chg w w' g
theorem DPost.w{w w':World}{R:Ac→Bi→Int→Prop}{e:Ending}(h:DPost w g R e w')(hl:g≤w.heap.size):WPost w g R e w':=by
 obtain⟨y,b,q,n,c,f,a,d,i,j,k⟩:=h;exact⟨y,b,q,n,c,f,a,d,i,j,k.bel hl⟩
def Or0(Is:Ac→Bi→Int→Prop)(y:Ac)(b:Bi)(f:Int):Prop:=(f≠0∧Is ac0 bi0 f)∨(f=0∧Is y b 0)
theorem blk_new4(w:World)(o p q r:Obj)(cs:Array Value)(t:TypeId):Blk (((((w.alloc o).alloc p).alloc q).alloc r).alloc (.cells cs t)) (w.heap.size+1+1+1+1) cs t:=by
 have h:=Blk.new ((((w.alloc o).alloc p).alloc q).alloc r) cs t
 rwa [show ((((w.alloc o).alloc p).alloc q).alloc r).heap.size=w.heap.size+1+1+1+1 by simp] at h
theorem blk_new5(w:World)(o p q r s:Obj)(cs:Array Value)(t:TypeId):Blk ((((((w.alloc o).alloc p).alloc q).alloc r).alloc s).alloc (.cells cs t)) (w.heap.size+1+1+1+1+1) cs t:=by
 have h:=Blk.new (((((w.alloc o).alloc p).alloc q).alloc r).alloc s) cs t
 rwa [show (((((w.alloc o).alloc p).alloc q).alloc r).alloc s).heap.size=w.heap.size+1+1+1+1+1 by simp] at h
theorem wp_letOp1{P:Program}{o:Oper}{a:Act}{w:World}{K:Act→World→Prop}{Q:Exit→Act→World→Prop}(ty:TypeId)(x y:Operand)(ho:o.op=.store ty x y)
  (g off:Nat) (hx:a.eval x=.pointer (some ⟨g,off,none⟩)) (v:Value) (hy:a.eval y=v) (hv:v.cells=#[v]) (hi:(P.info? ty).map (·.size)=some 1) (h1:v.oneCell'=true)
  (cs:Array Value) (t:TypeId) (hB:Blk w g cs t) (hin:off<cs.size) (hd:o.dst=none)
  (h:∀W,Upd w W g (cs.setIfInBounds off v) t→K a W):o.wp P a w K Q:=by
 have b:=run_storeVar_let (P:=P) (w:=w) (g:=g) (off:=off) (ty:=ty) (t:=t) (v:=v) (cells:=#[v]) (cs:=cs) hv (by simpa using hi) (by simpa using h1) hB (by simp;omega);have c:=upd_cells g t [v] off w cs hB;unfold Oper.wp execOp;simp only[ho,hx,hy,Instr.storeAt,Instr.sureAddr,Sem.run_bind,Sem.run_pure,Result.andThen_ok,b];have:=h _ c;have e:a.put o.dst undef=a:=by rw[hd];rfl
 rw[← e] at this;exact this
end acc
namespace words
open Go.RowKit
structure Ex (w w':World) (z:Nat):Prop where
 os:w'.os=w.os
 tape:w'.tape=w.tape
 output:w'.output=w.output
 size:w.heap.size≤w'.heap.size
 block:∀k,k<w.heap.size→k≠z→w'.heap[k]?=w.heap[k]?
variable{z:Nat}{w:World}
theorem Ex.below{w0 w w':World}(hb:zB w0 w)(h:Ex w w' z)(hz:w0.heap.size≤z):zB w0 w':=
 hb.trans ⟨h.os,h.tape,h.output,h.size,λk a=>h.block k (Nat.lt_of_lt_of_le a hb.size) (by omega)⟩
theorem Ex.of{w w1 w':World}(hb:zB w w1)(h:Ex w1 w' z):Ex w w' z:=
 ⟨h.os.trans hb.os,h.tape.trans hb.tape,h.output.trans hb.output,Nat.le_trans hb.size h.size,λk a b=>(h.block k (Nat.lt_of_lt_of_le a hb.size) b).trans (hb.block k a)⟩
def Ob(w:World)(z:Nat):Prop:=∃s a n c,w.heap[z]?=some (.cells #[.bool s,.slice a n c] 218 (0,0))
def Bg(w:World)(z m:Nat):Prop:=∃a n c,w.heap[z]?=some (.cells #[.bool false,.slice a n c] 218 (0,0))∧Ru w a n c (dig m)
theorem Bg.ob{z m:Nat}(h:Bg w z m):Ob w z:=let ⟨a,n,c,h1,_⟩:=h;⟨false,a,n,c,h1⟩
theorem heap_lt{o:Obj}(h:w.heap[z]?=some o):z<w.heap.size:=by
 by_cases a:z<w.heap.size
 ·exact a
 ·rw[Array.getElem?_eq_none (by omega)] at h;cases h
theorem Ob.lt(h:Ob w z):z<w.heap.size:=let ⟨_,_,_,_,h⟩:=h;heap_lt h
theorem Ob.below{w w':World}(h:Ob w z)(hb:zB w w'):Ob w' z:=by
 have d:=h.lt;obtain⟨s,a,n,c,b⟩:=h;exact⟨s,a,n,c,by rw[hb.block z d];exact b⟩
theorem Bg.below{w w':World}{z m:Nat}(h:Bg w z m)(hb:zB w w'):Bg w' z m:=by
 have e:=h.ob.lt;obtain⟨a,n,c,b,d⟩:=h;exact⟨a,n,c,by rw[hb.block z e];exact b,d.below hb⟩
theorem Ty.ne{b z:Nat}(h:Ty w b)(ho:Ob w z):b≠z:=by
 intro e;subst e;obtain⟨cs,g,f⟩:=h;obtain⟨s,a,n,c,d⟩:=ho;rw[f] at d;simp at d
theorem Ru.ex{w w':World}{a:Option Addr}{n cap:Nat}{l:List Nat}(h:Ru w a n cap l)(ho:Ob w z)(he:Ex w w' z):Ru w' a n cap l:=by
 refine⟨h.len,h.lt,h.nil,h.room,?_,λb c s e g=>(h.typ b c s e g).same (he.block b (h.typ b c s e g).lt ((h.typ b c s e g).ne ho))⟩;rcases h.cell with m|⟨b,c,rfl,p⟩
 ·exact .inl m
 ·refine .inr ⟨b,c,rfl,λi q=>?_⟩;have d:=p i q;have f:=World.block_lt_of_cell? w _ d
  have j:b≠z:=by
   intro e;subst e;obtain⟨s,r,u,t,o⟩:=ho;simp only[World.cell?,o] at d
   match hj:c+i,d with
   |0,d=>simp at d
   |1,d=>simp at d
   |k+2,d=>simp at d
  rw[World.cell?_of_block (w:=w) (a:=⟨b,c+i,none⟩) (he.block b f j)];exact d
theorem ob_cells{s:Bool}{v:Value}(h:w.heap[z]?=some (.cells #[.bool s,v] 218 (0,0))):
  w.cell? ⟨z,0,none⟩=some (.bool s)∧w.cell? ⟨z,1,none⟩=some v∧w.frozen? ⟨z,0,none⟩=false∧w.frozen? ⟨z,1,none⟩=false:=by
 refine⟨?_,?_,?_,?_⟩<;>simp[World.cell?,World.frozen?,h]
theorem ob_set{s:Bool}{v:Value}(h:w.heap[z]?=some (.cells #[.bool s,v] 218 (0,0)))(u:Value)(t:Bool):
  ((w.setCell ⟨z,1,none⟩ u).setCell ⟨z,0,none⟩ (.bool t)).heap[z]?=some (.cells #[.bool t,u] 218 (0,0))∧Ex w ((w.setCell ⟨z,1,none⟩ u).setCell ⟨z,0,none⟩ (.bool t)) z:=by
 refine⟨by simp[World.setCell,Array.getElem?_modify,h],rfl,rfl,rfl,by simp[World.setCell],λk _ a=>?_⟩;simp only[World.setCell,Array.getElem?_modify];rw[if_neg (λe=>a e.symm),if_neg (λe=>a e.symm)]
def GivePost(w:World)(z:Nat)(v:Value)(e:Ending)(w':World):Prop:=
 e=.returned (.pointer (some ⟨z,0,none⟩))∧w'.heap[z]?=some (.cells #[.bool false,v] 218 (0,0))∧Ex w w' z
theorem give_any(z:Nat)(a:Option Addr)(n cap:Nat)(w:World)(ho:Ob w z):
  Calls Tryz.prog 137 #[.pointer (some ⟨z,0,none⟩),.bool false,.slice a n cap] w λe w'=>GivePost w z (.slice a n cap) e w':=by
 obtain⟨s,d,j,f,h⟩:=ho;obtain⟨c0,c1,g,i⟩:=ob_cells h;have c:=ob_set h (.slice a n cap) false;have b:Hid (((w.setCell ⟨z,1,none⟩ (.slice a n cap)).setCell ⟨z,0,none⟩ (.bool false)).heap[z]?=some (.cells #[.bool false,.slice a n cap] 218 (0,0))∧Ex w ((w.setCell ⟨z,1,none⟩ (.slice a n cap)).setCell ⟨z,0,none⟩ (.bool false)) z):=c;clear c h;go_enter Tryz.func137,Tryz.ntmps137;go_wp2_with fail;go_ret;exact⟨rfl,b.o.1,b.o.2⟩
theorem ob_new(w:World):Ob (w.alloc (.cells #[.bool false,zS] 218)) w.heap.size:=by
 refine⟨false,none,0,0,?_⟩;show (w.heap.push _)[w.heap.size]?=_;rw[Array.getElem?_push_size]
theorem setInt_any(z x:Nat)(w:World)(ho:Ob w z)(hx:x<9223372036854775808):
  Calls Tryz.prog 136 #[.pointer (some ⟨z,0,none⟩),zI (x:Int)] w λe w'=>e=.returned (.pointer (some ⟨z,0,none⟩))∧Bg w' z x∧Ex w w' z:=by
 have p:¬ ((x:Nat):Int)<0:=by omega
 have q:decide (((x:Nat):Int)<0)=false:=decide_eq_false p;have g:Hid (Ob w z):=ho;clear ho;go_enter Tryz.func136,Tryz.ntmps136;go_wp2_with fail;refine(words_any x _ (by omega)).mono ?_;rintro e k ⟨a,n,b,rfl,j,i⟩;have m:Hid (Ru k a n b (dig x)):=j;have d:Hid (zB w k):=i;clear j i;go_wp2_with fail;refine(give_any z a n b _ (g.o.below d.o)).mono ?_;rintro e l ⟨rfl,h,c⟩;have f:Hid (Bg l z x∧Ex w l z):=⟨⟨a,n,b,h,m.o.ex (g.o.below d.o) c⟩,Ex.of d.o c⟩
 clear h c;go_wp2_with fail;go_ret;exact⟨rfl,f.o.1,f.o.2⟩
def NewPost(w:World)(x:Nat)(e:Ending)(w':World):Prop:=∃z,e=.returned (.pointer (some ⟨z,0,none⟩))∧w.heap.size≤z∧Bg w' z x∧zB w w'
theorem NewPost.mk{w w':World}{x z:Nat}(h1:w.heap.size≤z)(h2:Bg w' z x)(h3:zB w w'):NewPost w x (.returned (.pointer (some ⟨z,0,none⟩))) w':=⟨z,rfl,h1,h2,h3⟩
theorem newInt_any(x:Nat)(w:World)(hx:x<9223372036854775808):
  Calls Tryz.prog 92 #[zI (x:Int)] w λe w'=>NewPost w x e w':=by
 have d:Hid (Ob (w.alloc (.cells #[.bool false,zS] 218)) w.heap.size):=ob_new w;have c:Hid (zB w (w.alloc (.cells #[.bool false,zS] 218))):=(Below.refl _ w).alloc zc _;go_enter Tryz.func92,Tryz.ntmps92;go_wp2_with fail;refine(setInt_any w.heap.size x _ d.o hx).mono ?_;rintro e g ⟨rfl,a,b⟩;have f:Hid (NewPost w x (.returned (.pointer (some ⟨w.heap.size,0,none⟩))) g):=NewPost.mk zc a (b.below c.o zc);clear a b;go_wp2_with fail;go_ret;exact f.o
end words
end Go.Proofs.YtoepgdhiepedeaaGreatDoor
