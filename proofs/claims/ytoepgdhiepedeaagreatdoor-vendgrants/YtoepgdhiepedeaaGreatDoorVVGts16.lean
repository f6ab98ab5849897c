import Derived.Test.YtoepgdhiepedeaaGreatDoorVVGts9
import Derived.Test.YtoepgdhiepedeaaGreatDoorVVGts10
set_option linter.unusedVariables false
set_option linter.unusedSimpArgs false
set_option maxHeartbeats 4000000
set_option maxRecDepth 100000
namespace Go.Proofs.YtoepgdhiepedeaaGreatDoor
namespace acc
open tar (Du du0 Came RowD Ld PairT)
open Go.RowKit
structure Chg (w W:World) (g:Nat):Prop where
 os:W.os=w.os
 tape:W.tape=w.tape
 output:W.output=w.output
 size:w.heap.size≤W.heap.size
 oth:∀k,k<w.heap.size→k≠g→W.heap[k]?=w.heap[k]?
theorem Chg.refl(w:World)(g:Nat):Chg w w g:=⟨rfl,rfl,rfl,zc,λ_ _ _=>rfl⟩
variable{g:Nat}{p:Option Addr}{l:List Du}{len cap:Nat}
theorem Chg.trans{w W V:World}(h:Chg w W g)(h':Chg W V g):Chg w V g:=
 ⟨h'.os.trans h.os,h'.tape.trans h.tape,h'.output.trans h.output,Nat.le_trans h.size h'.size,λk b a=>(h'.oth k (Nat.lt_of_lt_of_le b h.size) a).trans (h.oth k b a)⟩
theorem Chg.of{w W:World}(hb:zB w W):Chg w W g:=⟨hb.os,hb.tape,hb.output,hb.size,λk a _=>hb.block k a⟩
theorem Chg.upd{w W:World}{cs:Array Value}{t:TypeId}(hu:Upd w W g cs t):Chg w W g:=by
 have h:=hu.bel 0 w (Nat.zero_le _) zb;exact⟨h.os,h.tape,h.output,h.size,λk _ a=>hu.oth k a⟩
theorem Chg.keep{w W:World}{g G:Nat}{cs:Array Value}{t:TypeId}(h:Chg w W g)(hb:Blk w G cs t)(hne:G≠g):Blk W G cs t:=by
 have a:=hb.lt;unfold Blk at *;rw[h.oth G a hne];exact hb
theorem Chg.bel{w W:World}(h:Chg w W g)(hl:g≤w.heap.size):Below g w W:=
 ⟨h.os,h.tape,h.output,h.size,λk a=>h.oth k (by omega) (by omega)⟩
def Far(p:Option Addr)(len g:Nat):Prop:=0<len→∀y,p=some y→y.block≠g
theorem row_chg{w W:World}{len:Nat}(h:RowD w p len l)(hc:Chg w W g)(hf:Far p len g):RowD W p len l:=by
 refine⟨h.1,?_⟩;rcases Nat.eq_zero_or_pos len with a|a
 ·exact .inl a
 ·obtain⟨b,f,rfl,j,c⟩:=h.at a;have d:b≠g:=hf a _ rfl;refine .inr ⟨b,f,rfl,λi k=>?_⟩;have e:∀o,W.cell? ⟨b,o,none⟩=w.cell? ⟨b,o,none⟩:=λo=>by simp only[World.cell?,hc.oth b j d]
  rw[e,e];exact c i k
theorem came_chg{w W:World}(h:Came w p len cap l)(hc:Chg w W g)(hf:Far p len g):Came W p len cap l:=⟨row_chg h.row hc hf,h.nil,h.room,h.bytes,h.wf⟩
theorem fresh_far{w:World}(h:deb.Fresh w (g+1) p len cap l):Far p len g:=λa y b=>by have:=h.new a y b;omega
theorem fresh_chg{w W:World}(h:deb.Fresh w (g+1) p len cap l)(hc:Chg w W g):deb.Fresh W (g+1) p len cap l:=⟨came_chg h.came hc (fresh_far h),h.new⟩
def wcs(x:Ac)(b:Bi)(p:Option Addr)(len cap:Nat):Array Value:=#[zI x.me,zI x.rv,zI x.nx,zI x.mo,zI x.bo,zI x.fr,.slice p len cap,zI b.id,zI b.te,zI b.de,zI b.fe,zI b.pr,zI b.ch,zI b.un]
def WPost(w:World)(g:Nat)(R:Ac→Bi→Int→Prop)(e:Ending)(w':World):Prop:=∃y b q n c f,e=.returned (zI f)∧R y b f∧Blk w' g (wcs y b q n c) 132∧deb.Fresh w' (g+1) q n c y.ds∧Below g w w'
def DPost(w:World)(g:Nat)(R:Ac→Bi→Int→Prop)(e:Ending)(w':World):Prop:=∃y b q n c f,e=.returned (zI f)∧R y b f∧Blk w' g (wcs y b q n c) 132∧deb.Fresh w' (g+1) q n c y.ds∧Chg w w' g
theorem DPost.w{w w':World}{R:Ac→Bi→Int→Prop}{e:Ending}(h:DPost w g R e w')(hl:g≤w.heap.size):WPost w g R e w':=by
 obtain⟨y,b,q,n,c,f,a,d,i,j,k⟩:=h;exact⟨y,b,q,n,c,f,a,d,i,j,k.bel hl⟩
def Or0(Is:Ac→Bi→Int→Prop)(y:Ac)(b:Bi)(f:Int):Prop:=(f≠0∧Is ac0 bi0 f)∨(f=0∧Is y b 0)
theorem blk_new4(w:World)(o p q r:Obj)(cs:Array Value)(t:TypeId):Blk (((((w.alloc o).alloc p).alloc q).alloc r).alloc (.cells cs t)) (w.heap.size+1+1+1+1) cs t:=by
 have h:=Blk.new ((((w.alloc o).alloc p).alloc q).alloc r) cs t
 rwa [show ((((w.alloc o).alloc p).alloc q).alloc r).heap.size=w.heap.size+1+1+1+1 by simp] at h
theorem blk_new5(w:World)(o p q r s:Obj)(cs:Array Value)(t:TypeId):Blk ((((((w.alloc o).alloc p).alloc q).alloc r).alloc s).alloc (.cells cs t)) (w.heap.size+1+1+1+1+1) cs t:=by
 have h:=Blk.new (((((w.alloc o).alloc p).alloc q).alloc r).alloc s) cs t
 rwa [show (((((w.alloc o).alloc p).alloc q).alloc r).alloc s).heap.size=w.heap.size+1+1+1+1+1 by simp] at h
theorem wp_letOp1{P:Program}{o:Oper}{a:Act}{w:World}{K:Act→World→Prop}{Q:Exit→Act→World→Prop}(ty:TypeId)(x y:Operand)(ho:o.op=.store ty x y)
  (g off:Nat) (hx:a.eval x=.pointer (some ⟨g,off,none⟩)) (v:Value) (hy:a.eval y=v) (hv:v.cells=#[v]) (hi:(P.info? ty).map (·.size)=some 1) (h1:v.oneCell'=true)
  (cs:Array Value) (t:TypeId) (hB:Blk w g cs t) (hin:off<cs.size) (hd:o.dst=none)
  (h:∀W,Upd w W g (cs.setIfInBounds off v) t→K a W):o.wp P a w K Q:=by
 have b:=run_storeVar_let (P:=P) (w:=w) (g:=g) (off:=off) (ty:=ty) (t:=t) (v:=v) (cells:=#[v]) (cs:=cs) hv (by simpa using hi) (by simpa using h1) hB (by simp;omega);have c:=upd_cells g t [v] off w cs hB;unfold Oper.wp execOp;simp only[ho,hx,hy,Instr.storeAt,Instr.sureAddr,Sem.run_bind,Sem.run_pure,Result.andThen_ok,b];have:=h _ c;have e:a.put o.dst undef=a:=by rw[hd];rfl
 rw[← e] at this;exact this
end acc
namespace words
open Go.RowKit
structure Ex (w w':World) (z:Nat):Prop where
 os:w'.os=w.os
 tape:w'.tape=w.tape
 output:w'.output=w.output
 size:w.heap.size≤w'.heap.size
 block:∀k,k<w.heap.size→k≠z→w'.heap[k]?=w.heap[k]?
variable{z:Nat}{w:World}
theorem Ex.below{w0 w w':World}(hb:zB w0 w)(h:Ex w w' z)(hz:w0.heap.size≤z):zB w0 w':=
 hb.trans ⟨h.os,h.tape,h.output,h.size,λk a=>h.block k (Nat.lt_of_lt_of_le a hb.size) (by omega)⟩
theorem Ex.of{w w1 w':World}(hb:zB w w1)(h:Ex w1 w' z):Ex w w' z:=
 ⟨h.os.trans hb.os,h.tape.trans hb.tape,h.output.trans hb.output,Nat.le_trans hb.size h.size,λk a b=>(h.block k (Nat.lt_of_lt_of_le a hb.size) b).trans (hb.block k a)⟩
def Ob(w:World)(z:Nat):Prop:=∃s a n c,w.heap[z]?=some (.cells #[.bool s,.slice a n c] 218 (0,0))
def Bg(w:World)(z m:Nat):Prop:=∃a n c,w.heap[z]?=some (.cells #[.bool false,.slice a n c] 218 (0,0))∧Ru w a n c (dig m)
theorem Bg.ob{z m:Nat}(h:Bg w z m):Ob w z:=let ⟨a,n,c,h1,_⟩:=h;⟨false,a,n,c,h1⟩
theorem heap_lt{o:Obj}(h:w.heap[z]?=some o):z<w.heap.size:=by
 by_cases a:z<w.heap.size
 ·exact a
 ·rw[Array.getElem?_eq_none (by omega)] at h;cases h
theorem Ob.lt(h:Ob w z):z<w.heap.size:=let ⟨_,_,_,_,h⟩:=h;heap_lt h
theorem Ob.below{w w':World}(h:Ob w z)(hb:zB w w'):Ob w' z:=by
 have d:=h.lt;obtain⟨s,a,n,c,b⟩:=h;exact⟨s,a,n,c,by rw[hb.block z d];exact b⟩
theorem Bg.below{w w':World}{z m:Nat}(h:Bg w z m)(hb:zB w w'):Bg w' z m:=by
 have e:=h.ob.lt;obtain⟨a,n,c,b,d⟩:=h;exact⟨a,n,c,by rw[hb.block z e];exact b,d.below hb⟩
theorem Ty.ne{b z:Nat}(h:Ty w b)(ho:Ob w z):b≠z:=by
 intro e;subst e;obtain⟨cs,g,f⟩:=h;obtain⟨s,a,n,c,d⟩:=ho;rw[f] at d;simp at d
theorem Ru.ex{w w':World}{a:Option Addr}{n cap:Nat}{l:List Nat}(h:Ru w a n cap l)(ho:Ob w z)(he:Ex w w' z):Ru w' a n cap l:=by
 refine⟨h.len,h.lt,h.nil,h.room,?_,λb c s e g=>(h.typ b c s e g).same (he.block b (h.typ b c s e g).lt ((h.typ b c s e g).ne ho))⟩;rcases h.cell with m|⟨b,c,rfl,p⟩
 ·exact .inl m
 ·refine .inr ⟨b,c,rfl,λi q=>?_⟩;have d:=p i q;have f:=World.block_lt_of_cell? w _ d
  have j:b≠z:=by
   intro e;subst e;obtain⟨s,r,u,t,o⟩:=ho;simp only[World.cell?,o] at d
   match hj:c+i,d with
   |0,d=>simp at d
   |1,d=>simp at d
   |k+2,d=>simp at d
  rw[World.cell?_of_block (w:=w) (a:=⟨b,c+i,none⟩) (he.block b f j)];exact d
theorem ob_cells{s:Bool}{v:Value}(h:w.heap[z]?=some (.cells #[.bool s,v] 218 (0,0))):
  w.cell? ⟨z,0,none⟩=some (.bool s)∧w.cell? ⟨z,1,none⟩=some v∧w.frozen? ⟨z,0,none⟩=false∧w.frozen? ⟨z,1,none⟩=false:=by
 refine⟨?_,?_,?_,?_⟩<;>simp[World.cell?,World.frozen?,h]
theorem ob_set{s:Bool}{v:Value}(h:w.heap[z]?=some (.cells #[.bool s,v] 218 (0,0)))(u:Value)(t:Bool):
  ((w.setCell ⟨z,1,none⟩ u).setCell ⟨z,0,none⟩ (.bool t)).heap[z]?=some (.cells #[.bool t,u] 218 (0,0))∧Ex w ((w.setCell ⟨z,1,none⟩ u).setCell ⟨z,0,none⟩ (.bool t)) z:=by
 refine⟨by simp[World.setCell,Array.getElem?_modify,h],rfl,rfl,rfl,by simp[World.setCell],λk _ a=>?_⟩;simp only[World.setCell,Array.getElem?_modify];rw[if_neg (λe=>a e.symm),if_neg (λe=>a e.symm)]
def GivePost(w:World)(z:Nat)(v:Value)(e:Ending)(w':World):Prop:=
 e=.returned (.pointer (some ⟨z,0,none⟩))∧w'.heap[z]?=some (.cells #[.bool false,v] 218 (0,0))∧Ex w w' z
theorem give_any(z:Nat)(a:Option Addr)(n cap:Nat)(w:World)(ho:Ob w z):
  Calls Tryz.prog 137 #[.pointer (some ⟨z,0,none⟩),.bool false,.slice a n cap] w λe w'=>GivePost w z (.slice a n cap) e w':=by
 obtain⟨s,d,j,f,h⟩:=ho;obtain⟨c0,c1,g,i⟩:=ob_cells h;have c:=ob_set h (.slice a n cap) false;have b:Hid (((w.setCell ⟨z,1,none⟩ (.slice a n cap)).setCell ⟨z,0,none⟩ (.bool false)).heap[z]?=some (.cells #[.bool false,.slice a n cap] 218 (0,0))∧Ex w ((w.setCell ⟨z,1,none⟩ (.slice a n cap)).setCell ⟨z,0,none⟩ (.bool false)) z):=c;clear c h;go_enter Tryz.func137,Tryz.ntmps137;go_wp2_with fail;go_ret;exact⟨rfl,b.o.1,b.o.2⟩
theorem ob_new(w:World):Ob (w.alloc (.cells #[.bool false,zS] 218)) w.heap.size:=by
 refine⟨false,none,0,0,?_⟩;show (w.heap.push _)[w.heap.size]?=_;rw[Array.getElem?_push_size]
theorem setInt_any(z x:Nat)(w:World)(ho:Ob w z)(hx:x<9223372036854775808):
  Calls Tryz.prog 136 #[.pointer (some ⟨z,0,none⟩),zI (x:Int)] w λe w'=>e=.returned (.pointer (some ⟨z,0,none⟩))∧Bg w' z x∧Ex w w' z:=by
 have p:¬ ((x:Nat):Int)<0:=by omega
 have q:decide (((x:Nat):Int)<0)=false:=decide_eq_false p;have g:Hid (Ob w z):=ho;clear ho;go_enter Tryz.func136,Tryz.ntmps136;go_wp2_with fail;refine(words_any x _ (by omega)).mono ?_;rintro e k ⟨a,n,b,rfl,j,i⟩;have m:Hid (Ru k a n b (dig x)):=j;have d:Hid (zB w k):=i;clear j i;go_wp2_with fail;refine(give_any z a n b _ (g.o.below d.o)).mono ?_;rintro e l ⟨rfl,h,c⟩;have f:Hid (Bg l z x∧Ex w l z):=⟨⟨a,n,b,h,m.o.ex (g.o.below d.o) c⟩,Ex.of d.o c⟩
 clear h c;go_wp2_with fail;go_ret;exact⟨rfl,f.o.1,f.o.2⟩
def NewPost(w:World)(x:Nat)(e:Ending)(w':World):Prop:=∃z,e=.returned (.pointer (some ⟨z,0,none⟩))∧w.heap.size≤z∧Bg w' z x∧zB w w'
theorem NewPost.mk{w w':World}{x z:Nat}(h1:w.heap.size≤z)(h2:Bg w' z x)(h3:zB w w'):NewPost w x (.returned (.pointer (some ⟨z,0,none⟩))) w':=⟨z,rfl,h1,h2,h3⟩
theorem newInt_any(x:Nat)(w:World)(hx:x<9223372036854775808):
  Calls Tryz.prog 92 #[zI (x:Int)] w λe w'=>NewPost w x e w':=by
 have d:Hid (Ob (w.alloc (.cells #[.bool false,zS] 218)) w.heap.size):=ob_new w;have c:Hid (zB w (w.alloc (.cells #[.bool false,zS] 218))):=(Below.refl _ w).alloc zc _;go_enter Tryz.func92,Tryz.ntmps92;go_wp2_with fail;refine(setInt_any w.heap.size x _ d.o hx).mono ?_;rintro e g ⟨rfl,a,b⟩;have f:Hid (NewPost w x (.returned (.pointer (some ⟨w.heap.size,0,none⟩))) g):=NewPost.mk zc a (b.below c.o zc);clear a b;go_wp2_with fail;go_ret;exact f.o
def nf(f:Nat→Nat):Nat→Nat
 |0=>0
 |n+1=>nf f n+4294967296^n*f n
theorem nf_congr{f g:Nat→Nat}{n:Nat}(h:∀i,i<n→f i=g i):nf f n=nf g n:=by
 induction n with
 |zero=>rfl
 |succ n ih=>rw[nf,nf,ih λi a=>h i (by omega),h n (by omega)]
theorem nf_cons(f:Nat→Nat)(n:Nat):nf f (n+1)=f 0+4294967296*nf (λi=>f (i+1)) n:=by
 induction n with
 |zero=>simp[nf]
 |succ n ih=>
  rw[nf,ih,nf,Nat.mul_add,Nat.pow_succ]
  have:4294967296^n*4294967296*f (n+1)=4294967296*(4294967296^n*f (n+1)):=by
   rw[Nat.mul_comm (4294967296^n) 4294967296,Nat.mul_assoc]
  omega
theorem nv_nf(l:List Nat):nv l=nf (λi=>l.getD i 0) l.length:=by
 induction l with
 |nil=>rfl
 |cons x r ih=>
  rw[List.length_cons,nf_cons,nv,ih]
  congr 1
theorem nv_range(f:Nat→Nat)(n:Nat):nv ((List.range n).map f)=nf f n:=by
 rw[nv_nf];rw[List.length_map,List.length_range];exact nf_congr λi a=>by simp[List.getD,a]
theorem nf_zero{f:Nat→Nat}{n:Nat}(h:∀i,i<n→f i=0):nf f n=0:=by
 induction n with
 |zero=>rfl
 |succ n ih=>rw[nf,ih λi a=>h i (by omega),h n (by omega)];simp
theorem nf_more{f:Nat→Nat}{m n:Nat}(hmn:m≤n)(h:∀i,m≤i→f i=0):nf f n=nf f m:=by
 induction n with
 |zero=>
  have:m=0:=by omega
  subst this;rfl
 |succ n ih=>
  by_cases e:m=n+1
  ·subst e;rfl
  ·rw[nf,h n (by omega),ih (by omega)];simp
theorem nv_more(l:List Nat){n:Nat}(h:l.length≤n):nv l=nf (λi=>l.getD i 0) n:=by
 rw[nv_nf,nf_more h];intro i a;simp[List.getD,List.getElem?_eq_none a]
def RowU(w:World)(g n:Nat)(f:Nat→Nat):Prop:=w.heap[g]?=some (.cells ((List.range n).map λi=>Value.int .u32 ((f i:Nat):Int)).toArray 83 (0,0))
variable {w w':World} {g n:Nat} {f:Nat→Nat}
theorem RowU.cell(h:RowU w g n f){i:Nat}(hi:i<n):w.cell? ⟨g,i,none⟩=some (.int .u32 ((f i:Nat):Int)):=by unfold RowU at h;simp[World.cell?,h,hi]
theorem RowU.free(h:RowU w g n f)(i:Nat):w.frozen? ⟨g,i,none⟩=false:=by unfold RowU at h;simp[World.frozen?,h]
def updU(f:Nat→Nat)(i v:Nat):Nat→Nat:=λk=>if k=i then v else f k
theorem RowU.set(h:RowU w g n f)(i v:Nat):RowU (w.setCell ⟨g,i,none⟩ (.int .u32 ((v:Nat):Int))) g n (updU f i v):=by
 unfold RowU at *;simp only[World.setCell,Array.getElem?_modify,h,if_true,Option.map_some]
 congr 2
 simp only[Option.isSome_none,Bool.false_eq_true,if_false];apply Array.ext';simp only[Array.toList_setIfInBounds];apply List.ext_getElem?;intro k;by_cases a:k<n
 ·by_cases e:k=i
  ·subst e;simp[updU,a]
  ·rw[List.getElem?_set_ne (by omega)];simp[updU,a,e]
 ·rw[List.getElem?_eq_none (by simp;omega),List.getElem?_eq_none (by simp;omega)]
theorem RowU.ru(h:RowU w g n f)(hf:∀i,i<n→f i<4294967296):Ru w (some ⟨g,0,none⟩) n n ((List.range n).map f):=by
 refine⟨by simp,λx d=>?_,(λh=>by cases h),zc,.inr ⟨g,0,rfl,λi a=>?_⟩,λb c s e _=>by obtain⟨rfl,-,-⟩:=(by simpa using e:g=b∧0=c∧none=s);exact⟨_,_,h⟩⟩
 ·obtain⟨i,a,rfl⟩:=List.mem_map.1 d;exact hf i (by simpa using a)
 ·rw[Nat.zero_add,h.cell a];simp[List.getD,a]
theorem rowU_made{w1:World}{n g base:Nat}(h:w1.ownsRow base 83 1 (.slice (some ⟨g,0,none⟩) n n) n (madeCells #[Value.int .u32 0] n).toList):RowU w1 g n (λ_=>0):=by
 rcases h.2 with⟨a,_⟩|⟨j,c,b,a,_,e,_,_,l,f⟩
 ·cases a
 ·simp only[Value.slice.injEq,Option.some.injEq,Addr.mk.injEq] at a;obtain⟨⟨rfl,-⟩,-,rfl⟩:=a;unfold RowU;rw[e]
  congr 2
  apply Array.ext'
  have d:b.toList=(madeCells #[Value.int .u32 0] n).toList:=by
   rw[← f,List.take_of_length_le (by simp;omega)]
  rw[d,toList_madeCells_one];apply List.ext_getElem?;intro k;by_cases i:k<n
  ·simp[i]
  ·rw[List.getElem?_eq_none (by simp;omega),List.getElem?_eq_none (by simp;omega)]
theorem info_u32:(Tryz.prog.info? 83).map (λi=>(i.zero,i.size,i.bytes))=some (some (.int .u32 0),1,4):=by kernel_rfl
theorem add_step{S A B P c x y:Nat}(h:S+P*c=A+B):S+P*((c+x+y)%4294967296)+P*4294967296*((c+x+y)/4294967296)=(A+P*x)+(B+P*y):=by
 have e:(c+x+y)%4294967296+4294967296*((c+x+y)/4294967296)=c+x+y:=by omega
 have a:P*((c+x+y)%4294967296)+P*4294967296*((c+x+y)/4294967296)=P*c+P*x+P*y:=by
  rw[Nat.mul_assoc,← Nat.mul_add,e,Nat.mul_add,Nat.mul_add]
 omega
end words
namespace ora
open Go.ChangeShapes Go.WideShapes Go.ChangeAt Go.RowKit Go.Deep
theorem fours{H:Type}{enc:TypeId × Value→H}{w:World}{base:Nat}{held:Bool}{t e:TypeId}{f0 f1 f2 f3:Field}{fuel:Nat}{cs:List Value}{x:DataW H × List MemPlace}
  (ht:Tryz.prog.underlying t=some (.slice e)) (he:Tryz.prog.underlying e=some (.struct #[f0,f1,f2,f3])) (ce:Tryz.prog.cellsOf e=4)
  (o0:f0.offset=0) (o1:f1.offset=1) (o2:f2.offset=2) (o3:f3.offset=3) (t0:f0.type=3) (t1:f1.type=3) (t2:f2.type=3) (t3:f3.type=3)
  (h:DataW.trod enc Tryz.prog w base (λ_=>true) held fuel t cs=some x):
  (cs=[zS]∧x=(.nil,[])) ∨
  ∃(a:Addr)(len cap:Nat)(E S:List (DataW H))(pl:List MemPlace)(f:Nat→Pr),cs=[.slice (some a) len cap]∧len≤cap∧x=(.slice E S,pl)∧E.length+S.length=cap ∧
   ∀i,i<cap→w.cell? (a.add (i*4))=some (zI (f i).m)∧w.cell? (a.add (i*4+1))=some (zI (f i).r)∧w.cell? (a.add (i*4+2))=some (zI (f i).b)∧w.cell? (a.add (i*4+3))=some (zI (f i).t)∧wfP (f i):=by
 have c1:Tryz.prog.cellsOf 3=1:=by kernel_rfl
 rcases open_slice ht h with L|⟨a,len,cap,m,n,D,Pl,rfl,Z,O,hm,j,rfl,P⟩
 ·exact Or.inl L
 right;simp only[if_true] at j;subst j
 have d:∀i,∃p:Pr,i<m→w.cell? (a.add (i*4))=some (zI p.m)∧w.cell? (a.add (i*4+1))=some (zI p.r)∧w.cell? (a.add (i*4+2))=some (zI p.b)∧w.cell? (a.add (i*4+3))=some (zI p.t)∧wfP p:=by
  intro i;by_cases l:i<m
  ·obtain⟨o,K,M⟩:=P i l;rw[ce] at K;obtain⟨_,g,c⟩:=World.cells?_some K;obtain⟨y0,y1,y2,y3,k,_,_,F,G,I,J⟩:=Joins.trod_struct4 he M
   match o,g with
   |[v0,v1,v2,v3],_=>
    rw[o0,t0,c1] at F;rw[o1,t1,c1] at G;rw[o2,t2,c1] at I;rw[o3,t3,c1] at J;obtain⟨V,z,_,Q⟩:=DataW.trod_int Tryz.underlying3 F;obtain⟨W,A,_,R⟩:=DataW.trod_int Tryz.underlying3 G;obtain⟨X,B,_,T⟩:=DataW.trod_int Tryz.underlying3 I;obtain⟨Y,C,_,U⟩:=DataW.trod_int Tryz.underlying3 J;simp at z A B C;have q:=c 0 (by omega);have s:=c 1 (by omega);have u:=c 2 (by omega);have y:=c 3 (by omega);rw[add_add] at q s u y;simp at q s u y;refine⟨⟨V,W,X,Y⟩,λ_=>⟨?_,?_,?_,?_,Q,R,T,U⟩⟩
    ·rw[q,z]
    ·rw[s,A]
    ·rw[u,B]
    ·rw[y,C]
  ·exact⟨pr0,λN=>absurd N l⟩
 exact⟨a,len,m,_,_,_,λi=>Classical.choose (d i),rfl,O,rfl,by simp;omega,λi l=>Classical.choose_spec (d i) l⟩
theorem fours_row{w:World}{a:Addr}{len cap:Nat}(hl:len≤cap)(f:Nat→Pr)
  (h:∀i,i<cap→w.cell? (a.add (i*4))=some (zI (f i).m)∧w.cell? (a.add (i*4+1))=some (zI (f i).r)∧w.cell? (a.add (i*4+2))=some (zI (f i).b)∧w.cell? (a.add (i*4+3))=some (zI (f i).t)∧wfP (f i)):
  RowP w (some a) len ((List.range len).map f)∧RowA w (some a) len ((List.range len).map f):=by
 have key:∀i,i<len→∃b c,a=⟨b,c,none⟩∧PrAt w b (c+i*4) (((List.range len).map f).getD i pr0)∧wfP (((List.range len).map f).getD i pr0):=by
  intro i g;have o:=(h 0 (by omega)).1;have d:=h i (by omega);obtain⟨b,c,j⟩:=a;have q:j=none:=by simpa [Addr.add] using World.cell?_spot o
  subst q;rw[Addr.add_lit,Addr.add_lit,Addr.add_lit,Addr.add_lit,← Nat.add_assoc,← Nat.add_assoc,← Nat.add_assoc] at d;have e:((List.range len).map f).getD i pr0=f i:=by simp[List.getD,g]
  rw[e];exact⟨b,c,rfl,⟨d.1,d.2.1,d.2.2.1,d.2.2.2.1⟩,d.2.2.2.2⟩
 constructor
 ·refine⟨by simp,?_⟩;by_cases s:len=0
  ·exact .inl s
  ·obtain⟨b,c,e,_⟩:=key 0 (by omega);refine .inr ⟨b,c,by rw[e],λi g=>?_⟩;obtain⟨u,l,k,n,_⟩:=key i g;rw[e] at k;obtain⟨rfl,rfl,_⟩:=Addr.mk.inj k;exact n
 ·intro i g;obtain⟨b,c,e,d,p⟩:=key i g;exact⟨b,c,by rw[e],d,p⟩
theorem open_ora{H:Type}{enc:TypeId × Value→H}{W:World}{r:Reach}{b0 b1:Nat}{held:Bool}{v:Value}{d:DataW H}{ps:List MemPlace}
  (hval:Value.okWide Tryz.prog W r b0 28 v) (h:DataW.Trod enc Tryz.prog W b1 (λ_=>true) held 28 v d ps) (hs:∀n∈d.weights Tryz.prog 28,n≤reachBytes):
  ∃(a:Option Addr)(len cap:Nat)(l:List Pr),v=.agg #[.slice a len cap]∧Came W a len cap l:=by
 have k:=Tryz.underlying28;have s:Tryz.prog.cellsOf 28=1:=by kernel_rfl
 have j:Tryz.prog.cellsOf 26=1:=by kernel_rfl
 obtain⟨cs,rfl,e⟩:=okWide_struct k hval;rw[s] at e
 obtain⟨v0,rfl⟩:∃v0,cs=#[v0]:=by
  cases cs with
  |mk l=>match l,e with
   |[v0],_=>exact⟨v0,rfl⟩
 obtain⟨m,hf⟩:=h;obtain⟨x,n,q,_,g⟩:=trod_struct1 k hf;simp only[Prod.mk.injEq] at q;obtain⟨rfl,rfl⟩:=q;simp only[Value.cells,List.drop_zero] at g;rw[j] at g;simp only[List.take_succ_cons,List.take_zero] at g;rcases fours Tryz.underlying26 Tryz.underlying87 (by kernel_rfl) rfl rfl rfl rfl rfl rfl rfl rfl g with⟨b,_⟩|⟨a,len,cap,E,S,u,f,b,p,t,i,c⟩
 ·simp at b;subst b;exact⟨none,0,0,[],rfl,RowP.nil _ _,λ_=>rfl,zc,by decide⟩
 ·simp at b;subst b;subst t;have o:=hs ((E.length+S.length)*Tryz.prog.bytesOf 87) (by simp[DataW.weights,k,DataW.weightsEach,Tryz.underlying26]);rw[show Tryz.prog.bytesOf 87=32 from by kernel_rfl,i] at o;simp only[reachBytes] at o;exact⟨some a,len,cap,_,rfl,(fours_row p f c).1,λh=>(by cases h),p,by omega⟩
end ora
end Go.Proofs.YtoepgdhiepedeaaGreatDoor
