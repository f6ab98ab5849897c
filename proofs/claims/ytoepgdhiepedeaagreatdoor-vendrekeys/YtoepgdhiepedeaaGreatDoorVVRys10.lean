import Derived.Test.YtoepgdhiepedeaaGreatDoorVVRys5
import Derived.Test.YtoepgdhiepedeaaGreatDoorVVRys7
set_option linter.unusedVariables false
set_option linter.unusedSimpArgs false
set_option maxHeartbeats 4000000
set_option maxRecDepth 100000
namespace Go.Proofs.YtoepgdhiepedeaaGreatDoor
namespace token
open words check
open Go.RowKit
structure Tok where
 c:Nat
 i:Nat
 a:Nat
 t:Nat
def okB(k:Tok):Bool:=decide (k.c≤3)&&decide (1≤k.i)&&decide (k.i≤1048575)&&decide (k.t≤65535) &&
 (if k.c=0 then decide (1≤k.a)&&decide (k.a≤2097151) else if k.c=2 then decide (1≤k.a)&&decide (k.a≤15) else decide (k.a=0))
structure Tok.ok (k:Tok):Prop where
 c3:k.c≤3
 i1:1≤k.i
 i2:k.i≤1048575
 t2:k.t≤65535
 a2:k.a≤2097151
 a0:k.c=0→1≤k.a
 ac:k.c=2→1≤k.a∧k.a≤15
 az:k.c=1∨k.c=3→k.a=0
variable{k:Tok}
theorem okB_ok:okB k=true↔k.ok:=by
 unfold okB;by_cases a:k.c=0
 ·rw[if_pos a];simp only[Bool.and_eq_true,decide_eq_true_eq];exact⟨λh=>⟨by omega,by omega,by omega,by omega,by omega,by omega,by omega,by omega⟩,λh=>⟨⟨⟨⟨h.c3,h.i1⟩,h.i2⟩,h.t2⟩,h.a0 a,h.a2⟩⟩
 ·rw[if_neg a];by_cases b:k.c=2
  ·rw[if_pos b];simp only[Bool.and_eq_true,decide_eq_true_eq];exact⟨λh=>⟨by omega,by omega,by omega,by omega,by omega,by omega,by omega,by omega⟩,λh=>⟨⟨⟨⟨h.c3,h.i1⟩,h.i2⟩,h.t2⟩,h.ac b⟩⟩
  ·rw[if_neg b];simp only[Bool.and_eq_true,decide_eq_true_eq];exact⟨λh=>⟨by omega,by omega,by omega,by omega,by omega,by omega,by omega,by omega⟩,λh=>⟨⟨⟨⟨h.c3,h.i1⟩,h.i2⟩,h.t2⟩,h.az (by have:=h.c3;omega)⟩⟩
def Tok.num(k:Tok):Nat:=k.c*144115188075855872+k.i*137438953472+k.a*65536+k.t
def Tok.body(k:Tok):Nat:=k.c*2199023255552+k.i*2097152+k.a
def Tok.v(k:Tok):Value:=.agg #[zI (k.c:Int),zI (k.i:Int),zI (k.a:Int),zI (k.t:Int)]
theorem num_lt(h:k.ok):k.num<576460752303423488:=by
 have:=h.c3;have:=h.i2;have:=h.t2;have:=h.a2;unfold Tok.num;omega
theorem num_bd(h:k.ok):97*k.num<73786976294838206464:=by have:=num_lt h;omega
theorem body_num(h:k.ok):k.num/65536%8796093022208=k.body:=by
 have:=h.c3;have:=h.i2;have:=h.t2;have:=h.a2;unfold Tok.num Tok.body;omega
theorem body_bd(h:k.ok):k.body≤8796093022207:=by
 have:=h.c3;have:=h.i2;have:=h.t2;have:=h.a2;unfold Tok.body;omega
def byt(z:Int):UInt8:=UInt8.ofNat z.toNat
def fmtL(V:Nat):List UInt8:=List.replicate (20-(decL V).length) 48++(decL V).map byt
def fmtB(V:Nat):ByteArray:=⟨(fmtL V).toArray⟩
theorem fmtB_list(V:Nat):(fmtB V).data.toList=fmtL V:=by simp[fmtB]
theorem dec_len20{V:Nat}(h:V<100000000000000000000):1≤(decL V).length∧(decL V).length≤20:=decL_len 19 V (by omega)
def bigV(a b c:Nat):Nat:=a+b*4294967296+c*18446744073709551616
theorem bigV_bit{a b c:Nat}(ha:a<2^32)(hb:b<2^32)(m:Nat):(bigV a b c).testBit m=bit3 a b c m:=by
 have e:bigV a b c=2^32*(2^32*c+b)+a:=by unfold bigV;omega
 rw[e,Nat.testBit_two_pow_mul_add _ ha,Nat.testBit_two_pow_mul_add _ hb];unfold bit3;by_cases d:m<32
 ·rw[if_pos d,if_pos d]
 ·rw[if_neg d,if_neg d];by_cases f:m<64
  ·rw[if_pos f,if_pos (by omega)]
  ·rw[if_neg f,if_neg (by omega)]
   congr 1
theorem bits_num{a b c lo n:Nat}(ha:a<2^32)(hb:b<2^32)(hc:c<2^32)(hn:n≤64):bitsN a b c lo n=bigV a b c/2^lo%2^n:=by
 apply Nat.eq_of_testBit_eq;intro j;rw[bits_bit ha hb hc hn,Nat.testBit_mod_two_pow,Nat.testBit_div_two_pow,bigV_bit ha hb,Nat.add_comm]
theorem bigV_top{a b c:Nat}(ha:a<2^32)(hb:b<2^32)(hc:c<2^32):bigV a b c<2^96:=by
 unfold bigV;omega
theorem put_num{a b c v lo n:Nat}(ha:a<2^32)(hb:b<2^32)(hc:c<2^32)(hv:v<2^n)(hn:n≤64)(hl:lo+n≤96)(h0:bigV a b c/2^lo%2^n=0):
  bigV (putN a v n lo) (putN b v n ((lo:Int)-32)) (putN c v n ((lo:Int)-64))=bigV a b c+v*2^lo:=by
 have q:=put_lt a v n lo ha;have s:=put_lt b v n ((lo:Int)-32) hb;have u:=put_lt c v n ((lo:Int)-64) hc
 have d:∀m,m<96→(bigV (putN a v n lo) (putN b v n ((lo:Int)-32)) (putN c v n ((lo:Int)-64))).testBit m=if lo≤m∧m<lo+n then v.testBit (m-lo) else (bigV a b c).testBit m:=λm y=>by
  rw[bigV_bit q s,put_bits hv m y,bigV_bit ha hb]
 have l:bigV (putN a v n lo) (putN b v n ((lo:Int)-32)) (putN c v n ((lo:Int)-64))/2^lo%2^n=v:=by
  rw[← bits_num q s u hn,bits_put ha hb hc hv hn hl]
 have i:=bigV_top ha hb hc;have k:=bigV_top q s u;generalize bigV (putN a v n lo) (putN b v n ((lo:Int)-32)) (putN c v n ((lo:Int)-64))=W at *;generalize bigV a b c=V at *
 have h:W%2^lo=V%2^lo:=by
  apply Nat.eq_of_testBit_eq;intro j;rw[Nat.testBit_mod_two_pow,Nat.testBit_mod_two_pow];by_cases o:j<lo
  ·rw[d j (by omega),if_neg (by omega)]
  ·rw[decide_eq_false o,Bool.false_and,Bool.false_and]
 have e:W/2^lo/2^n=V/2^lo/2^n:=by
  rw[Nat.div_div_eq_div_mul,Nat.div_div_eq_div_mul,← Nat.pow_add];apply Nat.eq_of_testBit_eq;intro j;rw[Nat.testBit_div_two_pow,Nat.testBit_div_two_pow];by_cases o:lo+n+j<96
  ·rw[Nat.add_comm j,d _ o,if_neg (by omega)]
  ·rw[bit_hi i (by omega),bit_hi k (by omega)]
 have x:=Nat.div_add_mod V (2^lo);have t:=Nat.div_add_mod W (2^lo);have f:=Nat.div_add_mod (V/2^lo) (2^n);have g:=Nat.div_add_mod (W/2^lo) (2^n);rw[e,l] at g;rw[h] at t;rw[h0] at f;generalize V/2^lo/2^n=H at *;generalize V%2^lo=L at *;rw[← f,Nat.mul_add] at x;rw[← g,Nat.mul_add] at t;rw[Nat.mul_comm v];generalize 2^lo*(2^n*H)=p at *;generalize 2^lo*v=r at *;omega
end token
namespace book
open Go.RowKit
def So.cs(x:So):List Value:=[zI x.id,zI x.cl,zI x.am,zI x.tg,zI x.rv]
def So.v(x:So):Value:=.agg #[zI x.id,zI x.cl,zI x.am,zI x.tg,zI x.rv]
def cellsS:List So→List Value
 |[]=>[]
 |x::l=>x.cs++cellsS l
theorem cellsS_len(l:List So):(cellsS l).length=l.length*5:=by
 induction l with
 |nil=>rfl
 |cons e l ih=>rw[cellsS,List.length_append,ih,List.length_cons];show 5+_=_;omega
theorem cellsS_app(l m:List So):cellsS (l++m)=cellsS l++cellsS m:=by
 induction l with
 |nil=>rfl
 |cons e l ih=>rw[List.cons_append,cellsS,cellsS,ih,List.append_assoc]
theorem oneS(l:List So):∀u∈cellsS l,u.oneCell'=true:=by
 induction l with
 |nil=>intro u a;cases a
 |cons e l ih=>
  intro u a;rw[cellsS] at a;rcases List.mem_append.1 a with a|a
  ·simp only[So.cs,List.mem_cons,List.not_mem_nil,or_false] at a;rcases a with rfl|rfl|rfl|rfl|rfl<;>rfl
  ·exact ih u a
theorem cellsS_at(l:List So)(k j:Nat)(hk:k<l.length)(hj:j<5):(cellsS l)[k*5+j]?=(l.getD k so0).cs[j]?:=by
 induction l generalizing k with
 |nil=>simp at hk
 |cons x l ih=>
  have a:x.cs.length=5:=rfl;cases k with
  |zero=>rw[Nat.zero_mul,Nat.zero_add,cellsS,List.getElem?_append_left (by omega)];rfl
  |succ k=>
   rw[show (k+1)*5+j=x.cs.length+(k*5+j) by omega,cellsS,List.getElem?_append_right (by omega),Nat.add_sub_cancel_left];exact ih k (by simpa using hk)
def RowS(w:World)(a:Option Addr)(n:Nat)(l:List So):Prop:=l.length=n∧(n=0∨∃b off,a=some ⟨b,off,none⟩∧b<w.heap.size∧∀i j,i<n→j<5→w.cell? ⟨b,off+i*5+j,none⟩=(l.getD i so0).cs[j]?)
variable{l:List So}{base:Nat}{w w':World}
theorem RowS.below{a:Option Addr}{n:Nat}(h:RowS w a n l)(hb:zB w w'):RowS w' a n l:=by
 refine⟨h.1,?_⟩;rcases h.2 with e|⟨b,c,rfl,d,f⟩
 ·exact .inl e
 ·exact .inr ⟨b,c,rfl,Nat.lt_of_lt_of_le d hb.size,λi j g k=>(hb.cell (p:=⟨b,c+i*5+j,none⟩) d).trans (f i j g k)⟩
def Lo(w:World)(base:Nat)(v:Value)(l:List So):Prop:=w.ownsRow base 212 5 v l.length (cellsS l)
theorem Lo.zero(w:World)(base:Nat):Lo w base (zS) []:=World.ownsRow_nil _ _ _ _
theorem Lo.alloc{w:World}{v:Value}(h:Lo w base v l)(o:Obj):Lo (w.alloc o) base v l:=World.ownsRow.alloc h o
theorem Lo.next{v:Value}(h:Lo w base v l)(hb:zB w w'):Lo w' base v l:=by
 refine⟨h.1,?_⟩;rcases h.2 with e|⟨g,a,b,f,d,c,rest⟩
 ·exact .inl e
 ·exact .inr ⟨g,a,b,f,d,Blk.next c hb,rest⟩
theorem Lo.kept{own:Option Nat}{v:Value}(h:Lo w base v l)(hg:w.grownBy w' own)(hne:∀g,v.ownBlock=some g→own≠some g):Lo w' base v l:=by
 refine World.ownsRow.kept h hg ?_;cases e:v.ownBlock with
 |none=>exact .inl rfl
 |some g=>exact .inr (λq=>hne g e q.symm)
theorem Lo.row{w:World}{v:Value}(h:Lo w base v l):∃a cap,v=.slice a l.length cap∧RowS w a l.length l∧(a=none→cap=0)∧l.length≤cap:=by
 rcases h.2 with⟨b,c⟩|⟨g,cap,d,b,_,k,f,_⟩
 ·exact⟨none,0,by rw[c];exact b,⟨rfl,.inl c⟩,λ_=>rfl,by omega⟩
 ·subst b;refine⟨_,cap,rfl,⟨rfl,.inr ⟨g,0,rfl,Blk.lt k,λi j m n=>?_⟩⟩,(λh=>by cases h),f⟩;have e:=World.ownsRow.cellAt h (i*5+j) (by omega);rw[Nat.zero_add,e];exact cellsS_at l i j m n
theorem soldI:(Tryz.prog.info? 212).map (λi=>(i.zero,i.size,i.bytes))=some (some (.agg so0.cs.toArray),5,40):=by kernel_rfl
theorem step_sold{w:World}{o:Oper}{a:Act}{K:Act→World→Prop}{Q:Exit→Act→World→Prop}(d:Nat)(hd:o.dst=some d)(s x:Operand)
  (ho:o.op=.call { callee:=.builtin .append,args:=#[s,x],argTypes:=#[69,69] })
  (base G:Nat) (v:Value) (l:List So) (r:So) (hs:a.eval s=v) (hx:a.eval x=.slice (some ⟨G,0,none⟩) 1 1) (hv:Lo w base v l) (hu:Blk w G r.cs.toArray 212) (hn:l.length≤2000000) (hbase:base≤w.heap.size)
  (h:∀v' w',Lo w' base v' (l++[r])→w.grownBy w' v.ownBlock→(v'.ownBlock=v.ownBlock∨v'.ownBlock=some w.heap.size)→K (a.put (some d) v') w'):Oper.wp Tryz.prog o a w K Q:=by
 rw[← hd] at h;obtain⟨p,m,b,c,e⟩:=info_parts soldI
 obtain ⟨v',w',n,g,i,_,k⟩:=run_append_own_at (P:=Tryz.prog) w base 69 o.type 212 p (.agg so0.cs.toArray) 5 40 Tryz.underlying69 m b c e rfl (by decide) v l.length (cellsS l) hv ⟨G,0,none⟩ 1 1 (cellsS [r]) (by rw [cellsS_len];rfl) (by
  intro j u f;rw[Addr.add_lit,Nat.zero_add,hu.cell j];rw[cellsS,cellsS,List.append_nil] at f
  simpa using f) (oneS [r]) (by unfold maxLen;omega) (by omega) hbase
 unfold Oper.wp execOp;simp only[ho,resolve,invoke,builtin,Sem.run_bind,Sem.run_pure,Result.andThen_ok,List.map_toArray,List.map_cons,List.map_nil,hs,hx,n];refine h v' w' ?_ i k;unfold Lo;rw[List.length_append,cellsS_app];exact g
end book
namespace acc
open tar (Du du0 Came RowD Ld PairT)
open Go.RowKit
variable{p:Option Addr}{l:List Du}{new:Array Value}{len cap:Nat}{w W:World}{t:TypeId}{g base:Nat}
theorem row_upd{g:Nat}{len:Nat}(h:RowD w p len l)(hU:Upd w W g new t)(hg:0<len→∀x,p=some x→x.block≠g):RowD W p len l:=by
 refine⟨h.1,?_⟩;rcases h.2 with d|⟨b,a,rfl,e⟩
 ·exact .inl d
 ·refine .inr ⟨b,a,rfl,λi f=>?_⟩;have c:b≠g:=hg (by omega) _ rfl;rw[hU.cell ⟨b,a+i*2,none⟩ c rfl,hU.cell ⟨b,a+i*2+1,none⟩ c rfl];exact e i f
theorem came_upd{g:Nat}(h:Came w p len cap l)(hU:Upd w W g new t)(hg:0<len→∀x,p=some x→x.block≠g):Came W p len cap l:=⟨row_upd h.row hU hg,h.nil,h.room,h.bytes,h.wf⟩
theorem fresh_upd(h:deb.Fresh w base p len cap l)(hU:Upd w W g new t)(hg:g<base):deb.Fresh W base p len cap l:=⟨came_upd h.came hU (λa x b=>by have:=h.new a x b;omega),h.new⟩
theorem fresh_updN(h:deb.Fresh w base p len cap l)(hU:Upd w W g new t)(hg:0<len→∀x,p=some x→x.block≠g):deb.Fresh W base p len cap l:=⟨came_upd h.came hU hg,h.new⟩
theorem fresh_drew{w:World}{base:Nat}(h:deb.Fresh w base p len cap l):deb.Fresh w.drew base p len cap l:=⟨⟨h.came.row,h.came.nil,h.came.room,h.came.bytes,h.came.wf⟩,h.new⟩
theorem ld_upd{T:TypeId}{v:Value}(h:Ld T w base v l)(hU:Upd w W g new t)(hg:g<base):Ld T W base v l:=by
 refine⟨h.1,?_⟩;rcases h.2 with d|⟨q,a,b,f,e,c,rest⟩
 ·exact .inl d
 ·exact .inr ⟨q,a,b,f,e,hU.keep c (by omega),rest⟩
theorem ld_ne{T t:TypeId}{w:World}{base G n cap:Nat}{a:Option Addr}{cs:Array Value}(h:Ld T w base (.slice a n cap) l)(hB:Blk w G cs t)(ht:t≠T):0<n→∀x,a=some x→x.block≠G:=λm x j e=>by
 rcases h.2 with⟨c,_⟩|⟨q,k,d,c,o,i,_⟩
 ·injection c with h1 h2 h3
  omega
 ·injection c with h1 h2 h3
  rw[j] at h1;have g:=Option.some.inj h1;subst g;have f:=e;subst f;have b:=i;unfold Blk at hB b;rw[hB] at b;injection b with h5
  injection h5 with _ h6
  exact ht h6
theorem came_lt{w:World}(h:Came w p len cap l):0<len→∀x,p=some x→x.block<w.heap.size:=λd x a=>by
 obtain⟨b,f,e,c,_⟩:=h.row.at d;rw[e] at a;cases a;exact c
end acc
namespace tar
variable{l:List Du}
theorem ov_before(h:Right l)(x y z:Int)(k j:Nat)(hk:k<l.length)(hj:j<k)(hy:low l k≤y)(hz:low l k≤z):ov (low l j) (l.getD j du0).a x z=ov (low l j) (l.getD j du0).a x y:=by
 have b:=low_mono h (j+1) k (by omega) (by omega);rw[low_next] at b;unfold ov;omega
theorem costK_before(h:Right l)(x y z:Int)(k j:Nat)(hk:k<l.length)(hj:j≤k)(hy:low l k≤y)(hz:low l k≤z):costK l x z j=costK l x y j:=by
 induction j with
 |zero=>rfl
 |succ j ih=>rw[costK_next,costK_next,ih (by omega),ov_before h x y z k j hk (by omega) hy hz]
theorem costK_behind(h:Right l)(x z:Int)(k j:Nat)(hkj:k≤j)(hj:j≤l.length)(hz:z≤low l k):costK l x z j=costK l x z k:=by
 induction j with
 |zero=>
  have:k=0:=by omega
  subst this;rfl
 |succ j ih=>
  by_cases e:k=j+1
  ·subst e;rfl
  ·have b:=ih (by omega) (by omega);have c:=low_mono h k j (by omega) (by omega);rw[costK_next,b,show ov (low l j) (l.getD j du0).a x z=0 by unfold ov;omega];omega
theorem cost_part(h:Right l)(x y:Int)(hx:0≤x)(hxy:x≤y)(k:Nat)(hk:k<l.length)(q:Int)(hq:0≤q)(hq2:q≤ov (low l k) (l.getD k du0).a x y)(hp:0<ov (low l k) (l.getD k du0).a x y):
  cost l x (x+(manyK l x y k+q))=costK l x y k+q*(l.getD k du0).b:=by
 have c:=many_eq h x y hx hxy k (by omega);have g:=h.rise k hk;have i:=h.low_pos k (by omega);have d:low l k≤y:=by unfold ov at hp;omega
 have f:low l k≤x+(manyK l x y k+q):=by rw[c];omega
 have e:x+(manyK l x y k+q)≤low l (k+1):=by rw[c,low_next];unfold ov at hq2 hp;omega
 unfold cost;rw[costK_behind h x _ (k+1) l.length (by omega) zc e,costK_next,costK_before h x y _ k k hk zc d f];rw[show ov (low l k) (l.getD k du0).a x (x+(manyK l x y k+q))=q by rw[c];unfold ov at hq2 hp ⊢;omega]
theorem bill_at(l:List Du)(x y:Int)(n:Nat)(p:List Tr)(t:Tr)(h:p++[t] <+: billK l x y n):∃k,k<n∧p=billK l x y k∧0<ov (low l k) (l.getD k du0).a x y∧t=⟨ov (low l k) (l.getD k du0).a x y,(l.getD k du0).b,ov (low l k) (l.getD k du0).a x y*(l.getD k du0).b⟩:=by
 induction n with
 |zero=>
  have:=h.length_le;simp[billK] at this
 |succ n ih=>
  by_cases c:0<ov (low l n) (l.getD n du0).a x y
  ·rw[billK_yes l x y n c] at h;rcases List.prefix_concat_iff.1 h with h|h
   ·obtain⟨d,e⟩:=List.append_inj' h rfl;exact⟨n,by omega,d,c,by simpa using e⟩
   ·obtain⟨k,a,b⟩:=ih h;exact⟨k,by omega,b⟩
  ·rw[billK_no l x y n c] at h;obtain⟨k,a,b⟩:=ih h;exact⟨k,by omega,b⟩
theorem top_bd{x:Int}(hx:0≤x∧x≤10000000):0≤Top x∧x+Top x≤10000000:=by unfold Top;omega
theorem most_all(h:Right l)(x m:Int)(hx:0≤x∧x≤10000000)(hm:sumC (billK l x (x+Top x) l.length)≤m):MostOf l x m (sumA (billK l x (x+Top x) l.length))∧sumC (billK l x (x+Top x) l.length)=cost l x (x+sumA (billK l x (x+Top x) l.length)):=by
 have c:=top_bd hx;have b:=bill_sums l x (x+Top x) l.length;have d:=many_all h x (x+Top x) hx.1 (by omega) c.2;have e:sumA (billK l x (x+Top x) l.length)=Top x:=by rw[b.1,d];omega
 have a:sumC (billK l x (x+Top x) l.length)=cost l x (x+Top x):=b.2;rw[e,a];rw[a] at hm;exact⟨⟨⟨c.1,Int.le_refl _⟩,hm,.inl rfl⟩,rfl⟩
theorem most_cut(h:Right l)(x m q:Int)(hx:0≤x∧x≤10000000)(p:List Tr)(t:Tr)(hpre:p++[t] <+: billK l x (x+Top x) l.length)(hq0:0≤q)(hq:q<t.a)(h1:sumC p+q*t.b≤m)(h2:m<sumC p+(q+1)*t.b):
  MostOf l x m (sumA p+q)∧sumC p+q*t.b=cost l x (x+(sumA p+q)):=by
 have n:=top_bd hx;obtain⟨k,f,rfl,g,rfl⟩:=bill_at l x (x+Top x) l.length p t hpre;have d:=bill_sums l x (x+Top x) k;rw[d.1,d.2];rw[d.2] at h1 h2;dsimp only at hq h1 h2 ⊢;have e:=cost_part h x (x+Top x) hx.1 (by omega) k f q hq0 (by omega) g;have i:=cost_part h x (x+Top x) hx.1 (by omega) k f (q+1) (by omega) (by omega) g;have j:=many_bd h x (x+Top x) hx.1 (by omega) k (by omega);have c:=many_bd h x (x+Top x) hx.1 (by omega) (k+1) (by omega);rw[many_next] at c;rw[e];refine⟨⟨⟨by omega,by omega⟩,by rw[e];exact h1,.inr ?_⟩,rfl⟩;rw[show manyK l x (x+Top x) k+q+1=manyK l x (x+Top x) k+(q+1) by omega,i];exact h2
theorem sums_bd(l:List Tr)(h:∀t∈l,LineOk t):(0≤sumA l∧sumA l≤(l.length:Int)*10000000)∧0≤sumC l:=by
 induction l with
 |nil=>exact⟨⟨Int.le_refl _,Int.le_refl _⟩,Int.le_refl _⟩
 |cons t l ih=>
  have m:=ih λx j=>h x (List.mem_cons_of_mem _ j);obtain⟨k,b,d,f,g⟩:=h t List.mem_cons_self;have i:=prod_bd (show 0≤t.a by omega) b d f;rw[← g] at i;have e:((t::l).length:Int)=(l.length:Int)+1:=by simp
  rw[e,Int.add_mul];exact⟨⟨by show 0≤t.a+sumA l;omega,by show t.a+sumA l≤_;omega⟩,by show 0≤t.c+sumC l;omega⟩
theorem quo_bd{d p q:Int}(hd:0≤d)(hp:1≤p)(hq:d/p=q):0≤q∧q*p≤d∧d<(q+1)*p∧q≤d:=by
 subst hq;have b:=Int.ediv_nonneg hd (show 0≤p by omega);have a:=Int.mul_ediv_self_le (x:=d) (k:=p) (by omega);have c:=Int.lt_mul_ediv_self_add (x:=d) (k:=p) (by omega);have e:d/p≤d:=Int.ediv_le_self _ hd;rw[Int.mul_comm] at a c;exact⟨b,a,by rw[Int.add_mul];omega,e⟩
theorem snoc_one{p:List Ln}{t:Ln}:lns (p++[t])=lns p++[t.1]:=by rw[lns_app];rfl
theorem sums_one(p:List Ln)(t:Ln):sumA (lns (p++[t]))=sumA (lns p)+t.1.a∧sumC (lns (p++[t]))=sumC (lns p)+t.1.c:=by
 rw[snoc_one,sumA_app,sumC_app];exact⟨by show _+(t.1.a+0)=_;omega,by show _+(t.1.c+0)=_;omega⟩
end tar
section
open Go.RowKit
variable{P:Program}{F:Fence}{n:Nat}
theorem operIn_round(hro:F.round=none)(l:Nat){o:Oper}(hd:∀c,o.op ≠ .defer c){a:Act}{w:World}{K K':Act→World→Prop}{Q:Exit→Act→World→Prop}(hK:∀a w,K a w→K' a w)(h:o.wpIn F n P a w K Q):o.wpIn (F.inRound l) n P a w K' Q:=by
 have d:=Oper.wpIn_mono hK h;unfold Oper.wpIn at *;refine⟨d.1,?_⟩;have b:=d.2;rw[hro,Oper.semAt_none] at b;rw[Fence.inRound_round,Oper.semAt_some l _ _ hd];generalize (execOp a.eval o).run P w=r at *;cases r with
 |ok x w'=>cases x<;>exact b
 |halt x w'=>cases x<;>exact b
theorem opsIn_round{ops:Array Oper}{Q:Exit→Act→World→Prop}(hro:F.round=none)(l:Nat)(hd:∀(i:Nat)(o:Oper),ops[i]?=some o→∀c,o.op ≠ .defer c):∀(s:List Nat)(a:Act)(w:World),wpOpsIn F n P ops Q s a w→wpOpsIn (F.inRound l) n P ops Q s a w
 |[],_,_,h=>h
 |i::s,a,w,h=>by
  unfold wpOpsIn at h ⊢;cases hi:ops[i]? with
  |none=>rw[hi] at h;exact opsIn_round hro l hd s a w h
  |some o=>
   rw[hi] at h;dsimp only at h ⊢;by_cases hw:Region.wanted o (yielded ops a.tmps)=true
   ·rw[if_pos hw] at h ⊢;exact operIn_round hro l (hd i o hi) (λa w h=>opsIn_round hro l hd s a w h) h
   ·rw[if_neg hw] at h ⊢;exact⟨h.1,opsIn_round hro l hd s _ w h.2⟩
def noDefer(l:List Oper):Bool:=l.all λo=>match o.op with | .defer _=>false|_=>true
theorem noDefer_spec{l:List Oper}(h:noDefer l=true)(i:Nat)(o:Oper)(ho:l.toArray[i]?=some o)(c:Call):o.op ≠ .defer c:=by
 intro e
 have b:o∈l:=by
  have:l[i]?=some o:=by simpa using ho
  exact List.mem_of_getElem? this
 have a:=List.all_eq_true.1 h o b;rw[e] at a;exact Bool.noConfusion a
theorem round_quiet{id:Nat}{Q:Exit→Act→World→Prop}{a:Act}{w:World}{l:List Oper}{r:Nat}(hro:F.round=none)(hm:P.follows .mixedOrders=true)(hB:Region.lexB .any l.toArray=true)(hd:noDefer l=true)
  (h:wpQuietIn F n P l.toArray (λw'=>∃n,w'=w.drewN n) (λa'=>∀w',(∃n,w'=w.drewN n)→Q .normal a' w') l a):(Code.region id l.toArray true).wpIn (F.inRound r) n P Q a w:=by
 simp only[Region.lexB,Bool.and_eq_true] at hB;refine wpIn_region_draw λt=>opsIn_round hro r (noDefer_spec hd) _ _ _ ?_;simp only[Region.schedule,hm,Bool.true_or,if_true];refine wpAnyIn_sound _ t _ a _ ?_;refine wpAnyIn_of_quiet (C:=λw'=>∃n,w'=w.drewN n) (Q:=λa'=>∀w',(∃n,w'=w.drewN n)→Q .normal a' w') hro (λ_ w' b h=>h w' b) _ _ _ _ ⟨1,rfl⟩ ?_;have:=wpAnyQIn_lex (F:=F) (n:=n) (C:=λw'=>∃n,w'=w.drewN n) (md:=.any) hB.1 l 0 (Array.replicate l.toArray.size false) a (by simp) (by simpa using hB.2) h;simpa using this
end
end Go.Proofs.YtoepgdhiepedeaaGreatDoor
