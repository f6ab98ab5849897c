import Derived.Test.YtoepgdhiepedeaaGreatDoorVVSls6
import Derived.Test.YtoepgdhiepedeaaGreatDoorVVSls7
set_option linter.unusedVariables false
set_option linter.unusedSimpArgs false
set_option maxHeartbeats 4000000
set_option maxRecDepth 100000
namespace Go.Proofs.YtoepgdhiepedeaaGreatDoor
namespace token
open words check
open Go.RowKit
structure Tok where
 c:Nat
 i:Nat
 a:Nat
 t:Nat
def okB(k:Tok):Bool:=decide (k.c≤3)&&decide (1≤k.i)&&decide (k.i≤1048575)&&decide (k.t≤65535) &&
 (if k.c=0 then decide (1≤k.a)&&decide (k.a≤2097151) else if k.c=2 then decide (1≤k.a)&&decide (k.a≤15) else decide (k.a=0))
structure Tok.ok (k:Tok):Prop where
 c3:k.c≤3
 i1:1≤k.i
 i2:k.i≤1048575
 t2:k.t≤65535
 a2:k.a≤2097151
 a0:k.c=0→1≤k.a
 ac:k.c=2→1≤k.a∧k.a≤15
 az:k.c=1∨k.c=3→k.a=0
variable{k:Tok}
theorem okB_ok:okB k=true↔k.ok:=by
 unfold okB;by_cases a:k.c=0
 ·rw[if_pos a];simp only[Bool.and_eq_true,decide_eq_true_eq];exact⟨λh=>⟨by omega,by omega,by omega,by omega,by omega,by omega,by omega,by omega⟩,λh=>⟨⟨⟨⟨h.c3,h.i1⟩,h.i2⟩,h.t2⟩,h.a0 a,h.a2⟩⟩
 ·rw[if_neg a];by_cases b:k.c=2
  ·rw[if_pos b];simp only[Bool.and_eq_true,decide_eq_true_eq];exact⟨λh=>⟨by omega,by omega,by omega,by omega,by omega,by omega,by omega,by omega⟩,λh=>⟨⟨⟨⟨h.c3,h.i1⟩,h.i2⟩,h.t2⟩,h.ac b⟩⟩
  ·rw[if_neg b];simp only[Bool.and_eq_true,decide_eq_true_eq];exact⟨λh=>⟨by omega,by omega,by omega,by omega,by omega,by omega,by omega,by omega⟩,λh=>⟨⟨⟨⟨h.c3,h.i1⟩,h.i2⟩,h.t2⟩,h.az (by have:=h.c3;omega)⟩⟩
def Tok.num(k:Tok):Nat:=k.c*144115188075855872+k.i*137438953472+k.a*65536+k.t
def Tok.body(k:Tok):Nat:=k.c*2199023255552+k.i*2097152+k.a
def Tok.v(k:Tok):Value:=.agg #[zI (k.c:Int),zI (k.i:Int),zI (k.a:Int),zI (k.t:Int)]
theorem num_lt(h:k.ok):k.num<576460752303423488:=by
 have:=h.c3;have:=h.i2;have:=h.t2;have:=h.a2;unfold Tok.num;omega
theorem num_bd(h:k.ok):97*k.num<73786976294838206464:=by have:=num_lt h;omega
theorem body_num(h:k.ok):k.num/65536%8796093022208=k.body:=by
 have:=h.c3;have:=h.i2;have:=h.t2;have:=h.a2;unfold Tok.num Tok.body;omega
theorem body_bd(h:k.ok):k.body≤8796093022207:=by
 have:=h.c3;have:=h.i2;have:=h.t2;have:=h.a2;unfold Tok.body;omega
def byt(z:Int):UInt8:=UInt8.ofNat z.toNat
def fmtL(V:Nat):List UInt8:=List.replicate (20-(decL V).length) 48++(decL V).map byt
def fmtB(V:Nat):ByteArray:=⟨(fmtL V).toArray⟩
theorem fmtB_list(V:Nat):(fmtB V).data.toList=fmtL V:=by simp[fmtB]
theorem dec_len20{V:Nat}(h:V<100000000000000000000):1≤(decL V).length∧(decL V).length≤20:=decL_len 19 V (by omega)
def bigV(a b c:Nat):Nat:=a+b*4294967296+c*18446744073709551616
theorem bigV_bit{a b c:Nat}(ha:a<2^32)(hb:b<2^32)(m:Nat):(bigV a b c).testBit m=bit3 a b c m:=by
 have e:bigV a b c=2^32*(2^32*c+b)+a:=by unfold bigV;omega
 rw[e,Nat.testBit_two_pow_mul_add _ ha,Nat.testBit_two_pow_mul_add _ hb];unfold bit3;by_cases d:m<32
 ·rw[if_pos d,if_pos d]
 ·rw[if_neg d,if_neg d];by_cases f:m<64
  ·rw[if_pos f,if_pos (by omega)]
  ·rw[if_neg f,if_neg (by omega)]
   congr 1
theorem bits_num{a b c lo n:Nat}(ha:a<2^32)(hb:b<2^32)(hc:c<2^32)(hn:n≤64):bitsN a b c lo n=bigV a b c/2^lo%2^n:=by
 apply Nat.eq_of_testBit_eq;intro j;rw[bits_bit ha hb hc hn,Nat.testBit_mod_two_pow,Nat.testBit_div_two_pow,bigV_bit ha hb,Nat.add_comm]
theorem bigV_top{a b c:Nat}(ha:a<2^32)(hb:b<2^32)(hc:c<2^32):bigV a b c<2^96:=by
 unfold bigV;omega
theorem put_num{a b c v lo n:Nat}(ha:a<2^32)(hb:b<2^32)(hc:c<2^32)(hv:v<2^n)(hn:n≤64)(hl:lo+n≤96)(h0:bigV a b c/2^lo%2^n=0):
  bigV (putN a v n lo) (putN b v n ((lo:Int)-32)) (putN c v n ((lo:Int)-64))=bigV a b c+v*2^lo:=by
 have q:=put_lt a v n lo ha;have s:=put_lt b v n ((lo:Int)-32) hb;have u:=put_lt c v n ((lo:Int)-64) hc
 have d:∀m,m<96→(bigV (putN a v n lo) (putN b v n ((lo:Int)-32)) (putN c v n ((lo:Int)-64))).testBit m=if lo≤m∧m<lo+n then v.testBit (m-lo) else (bigV a b c).testBit m:=λm y=>by
  rw[bigV_bit q s,put_bits hv m y,bigV_bit ha hb]
 have l:bigV (putN a v n lo) (putN b v n ((lo:Int)-32)) (putN c v n ((lo:Int)-64))/2^lo%2^n=v:=by
  rw[← bits_num q s u hn,bits_put ha hb hc hv hn hl]
 have i:=bigV_top ha hb hc;have k:=bigV_top q s u;generalize bigV (putN a v n lo) (putN b v n ((lo:Int)-32)) (putN c v n ((lo:Int)-64))=W at *;generalize bigV a b c=V at *
 have h:W%2^lo=V%2^lo:=by
  apply Nat.eq_of_testBit_eq;intro j;rw[Nat.testBit_mod_two_pow,Nat.testBit_mod_two_pow];by_cases o:j<lo
  ·rw[d j (by omega),if_neg (by omega)]
  ·rw[decide_eq_false o,Bool.false_and,Bool.false_and]
 have e:W/2^lo/2^n=V/2^lo/2^n:=by
  rw[Nat.div_div_eq_div_mul,Nat.div_div_eq_div_mul,← Nat.pow_add];apply Nat.eq_of_testBit_eq;intro j;rw[Nat.testBit_div_two_pow,Nat.testBit_div_two_pow];by_cases o:lo+n+j<96
  ·rw[Nat.add_comm j,d _ o,if_neg (by omega)]
  ·rw[bit_hi i (by omega),bit_hi k (by omega)]
 have x:=Nat.div_add_mod V (2^lo);have t:=Nat.div_add_mod W (2^lo);have f:=Nat.div_add_mod (V/2^lo) (2^n);have g:=Nat.div_add_mod (W/2^lo) (2^n);rw[e,l] at g;rw[h] at t;rw[h0] at f;generalize V/2^lo/2^n=H at *;generalize V%2^lo=L at *;rw[← f,Nat.mul_add] at x;rw[← g,Nat.mul_add] at t;rw[Nat.mul_comm v];generalize 2^lo*(2^n*H)=p at *;generalize 2^lo*v=r at *;omega
end token
namespace rcp
structure Rc where
 me:Int
 id:Int
 te:Int
 de:Int
 fe:Int
 pr:Int
 ch:Int
 un:Int
 tk:List UInt8
def rc0:Rc:=⟨0,0,0,0,0,0,0,0,[]⟩
end rcp
namespace book
open Go.RowKit
def So.cs(x:So):List Value:=[zI x.id,zI x.cl,zI x.am,zI x.tg,zI x.rv]
def So.v(x:So):Value:=.agg #[zI x.id,zI x.cl,zI x.am,zI x.tg,zI x.rv]
def cellsS:List So→List Value
 |[]=>[]
 |x::l=>x.cs++cellsS l
theorem cellsS_len(l:List So):(cellsS l).length=l.length*5:=by
 induction l with
 |nil=>rfl
 |cons e l ih=>rw[cellsS,List.length_append,ih,List.length_cons];show 5+_=_;omega
theorem cellsS_app(l m:List So):cellsS (l++m)=cellsS l++cellsS m:=by
 induction l with
 |nil=>rfl
 |cons e l ih=>rw[List.cons_append,cellsS,cellsS,ih,List.append_assoc]
theorem oneS(l:List So):∀u∈cellsS l,u.oneCell'=true:=by
 induction l with
 |nil=>intro u a;cases a
 |cons e l ih=>
  intro u a;rw[cellsS] at a;rcases List.mem_append.1 a with a|a
  ·simp only[So.cs,List.mem_cons,List.not_mem_nil,or_false] at a;rcases a with rfl|rfl|rfl|rfl|rfl<;>rfl
  ·exact ih u a
theorem cellsS_at(l:List So)(k j:Nat)(hk:k<l.length)(hj:j<5):(cellsS l)[k*5+j]?=(l.getD k so0).cs[j]?:=by
 induction l generalizing k with
 |nil=>simp at hk
 |cons x l ih=>
  have a:x.cs.length=5:=rfl;cases k with
  |zero=>rw[Nat.zero_mul,Nat.zero_add,cellsS,List.getElem?_append_left (by omega)];rfl
  |succ k=>
   rw[show (k+1)*5+j=x.cs.length+(k*5+j) by omega,cellsS,List.getElem?_append_right (by omega),Nat.add_sub_cancel_left];exact ih k (by simpa using hk)
def RowS(w:World)(a:Option Addr)(n:Nat)(l:List So):Prop:=l.length=n∧(n=0∨∃b off,a=some ⟨b,off,none⟩∧b<w.heap.size∧∀i j,i<n→j<5→w.cell? ⟨b,off+i*5+j,none⟩=(l.getD i so0).cs[j]?)
variable{l:List So}{base:Nat}{w w':World}
theorem RowS.below{a:Option Addr}{n:Nat}(h:RowS w a n l)(hb:zB w w'):RowS w' a n l:=by
 refine⟨h.1,?_⟩;rcases h.2 with e|⟨b,c,rfl,d,f⟩
 ·exact .inl e
 ·exact .inr ⟨b,c,rfl,Nat.lt_of_lt_of_le d hb.size,λi j g k=>(hb.cell (p:=⟨b,c+i*5+j,none⟩) d).trans (f i j g k)⟩
def Lo(w:World)(base:Nat)(v:Value)(l:List So):Prop:=w.ownsRow base 212 5 v l.length (cellsS l)
theorem Lo.zero(w:World)(base:Nat):Lo w base (zS) []:=World.ownsRow_nil _ _ _ _
theorem Lo.alloc{w:World}{v:Value}(h:Lo w base v l)(o:Obj):Lo (w.alloc o) base v l:=World.ownsRow.alloc h o
theorem Lo.next{v:Value}(h:Lo w base v l)(hb:zB w w'):Lo w' base v l:=by
 refine⟨h.1,?_⟩;rcases h.2 with e|⟨g,a,b,f,d,c,rest⟩
 ·exact .inl e
 ·exact .inr ⟨g,a,b,f,d,Blk.next c hb,rest⟩
theorem Lo.kept{own:Option Nat}{v:Value}(h:Lo w base v l)(hg:w.grownBy w' own)(hne:∀g,v.ownBlock=some g→own≠some g):Lo w' base v l:=by
 refine World.ownsRow.kept h hg ?_;cases e:v.ownBlock with
 |none=>exact .inl rfl
 |some g=>exact .inr (λq=>hne g e q.symm)
theorem Lo.row{w:World}{v:Value}(h:Lo w base v l):∃a cap,v=.slice a l.length cap∧RowS w a l.length l∧(a=none→cap=0)∧l.length≤cap:=by
 rcases h.2 with⟨b,c⟩|⟨g,cap,d,b,_,k,f,_⟩
 ·exact⟨none,0,by rw[c];exact b,⟨rfl,.inl c⟩,λ_=>rfl,by omega⟩
 ·subst b;refine⟨_,cap,rfl,⟨rfl,.inr ⟨g,0,rfl,Blk.lt k,λi j m n=>?_⟩⟩,(λh=>by cases h),f⟩;have e:=World.ownsRow.cellAt h (i*5+j) (by omega);rw[Nat.zero_add,e];exact cellsS_at l i j m n
theorem soldI:(Tryz.prog.info? 212).map (λi=>(i.zero,i.size,i.bytes))=some (some (.agg so0.cs.toArray),5,40):=by kernel_rfl
theorem step_sold{w:World}{o:Oper}{a:Act}{K:Act→World→Prop}{Q:Exit→Act→World→Prop}(d:Nat)(hd:o.dst=some d)(s x:Operand)
  (ho:o.op=.call { callee:=.builtin .append,args:=#[s,x],argTypes:=#[69,69] })
  (base G:Nat) (v:Value) (l:List So) (r:So) (hs:a.eval s=v) (hx:a.eval x=.slice (some ⟨G,0,none⟩) 1 1) (hv:Lo w base v l) (hu:Blk w G r.cs.toArray 212) (hn:l.length≤2000000) (hbase:base≤w.heap.size)
  (h:∀v' w',Lo w' base v' (l++[r])→w.grownBy w' v.ownBlock→(v'.ownBlock=v.ownBlock∨v'.ownBlock=some w.heap.size)→K (a.put (some d) v') w'):Oper.wp Tryz.prog o a w K Q:=by
 rw[← hd] at h;obtain⟨p,m,b,c,e⟩:=info_parts soldI
 obtain ⟨v',w',n,g,i,_,k⟩:=run_append_own_at (P:=Tryz.prog) w base 69 o.type 212 p (.agg so0.cs.toArray) 5 40 Tryz.underlying69 m b c e rfl (by decide) v l.length (cellsS l) hv ⟨G,0,none⟩ 1 1 (cellsS [r]) (by rw [cellsS_len];rfl) (by
  intro j u f;rw[Addr.add_lit,Nat.zero_add,hu.cell j];rw[cellsS,cellsS,List.append_nil] at f
  simpa using f) (oneS [r]) (by unfold maxLen;omega) (by omega) hbase
 unfold Oper.wp execOp;simp only[ho,resolve,invoke,builtin,Sem.run_bind,Sem.run_pure,Result.andThen_ok,List.map_toArray,List.map_cons,List.map_nil,hs,hx,n];refine h v' w' ?_ i k;unfold Lo;rw[List.length_append,cellsS_app];exact g
end book
namespace cell
open Go.RowKit
theorem in_yes(n lo hi:Int)(w:World)(h1:lo≤n)(h2:n≤hi):
  Calls Tryz.prog 47 #[zI n,zI lo,zI hi] w λe w'=>e=.returned (.bool true)∧w'=w:=by
 go_enter Tryz.func47,Tryz.ntmps47;go_wp2;go_ret;exact⟨rfl,rfl⟩
theorem in_no(n lo hi:Int)(w:World)(h:n<lo∨hi<n):
  Calls Tryz.prog 47 #[zI n,zI lo,zI hi] w λe w'=>e=.returned (.bool false)∧w'=w:=by
 by_cases a:n<lo
 ·clear h;go_enter Tryz.func47,Tryz.ntmps47;go_wp2;go_ret;exact⟨rfl,rfl⟩
 ·have b:lo≤n:=by omega
  have c:decide (n≤hi)=false:=by simp;omega
  clear h a;go_enter Tryz.func47,Tryz.ntmps47;go_wp2;go_ret;exact⟨rfl,rfl⟩
end cell
section
open Go.RowKit
theorem run_eqOp{P:Program}{o:Oper}{a:Act}{w:World}(ty rt:TypeId)(x y:Operand)(ho:o.op=.binOp .eql ty x y rt)(ca cb:Array Value)(hx:a.eval x=.agg ca)(hy:a.eval y=.agg cb)(hg:P.eqGuardType P.depth ty=false)(b:Bool)
  (hr:(Op.equalIn 10000 ty (.agg ca) (.agg cb)).run P w=.ok b w):(execOp a.eval o).run P w=.ok (.value (.bool b)) w:=by
 have c:(Op.equal ty (.agg ca) (.agg cb)).run P w=.ok b w:=hr;unfold execOp;simp only[ho,hx,hy];have d:∀w':World,(program:Sem Program).run P w'=.ok P w':=λ_=>rfl;simp[eqGuard,hg,binOp,c,d,Sem.run_bind]
theorem wp_eqE{P:Program}{ops:Array Oper}{rest:List Oper}{o:Oper}{a:Act}{w:World}{Q:Exit→Act→World→Prop}(hw:Region.wanted o (yielded ops a.tmps)=true)(ty rt:TypeId)(x y:Operand)(ho:o.op=.binOp .eql ty x y rt)(ca cb:Array Value)(hx:a.eval x=.agg ca)(hy:a.eval y=.agg cb)(hg:P.eqGuardType P.depth ty=false)(b:Bool)
  (hr:(Op.equalIn 10000 ty (.agg ca) (.agg cb)).run P w=.ok b w) (d:Nat) (hd:o.dst=some d) (h:wpList P ops Q rest (a.put (some d) (.bool b)) w):wpList P ops Q (o::rest) a w:=
 wpList_step λK c=>by
  rw[if_pos hw];exact wp_runOp d hd (run_eqOp ty rt x y ho ca cb hx hy hg b hr) (c _ _ h)
end
namespace vnd
open ora (Pr)
open cell (Wr RowW)
open Go.RowKit
variable{p:Option Addr}{n:Nat}
theorem rowP_upd{w W:World}{g:Nat}{cs:Array Value}{T:TypeId}{l:List Pr}(h:ora.RowP w p n l)(hU:Upd w W g cs T)(hg:0<n→∀y,p=some y→y.block≠g):ora.RowP W p n l:=by
 refine⟨h.1,?_⟩;rcases h.2 with c|⟨b,d,rfl,k⟩
 ·exact .inl c
 ·refine .inr ⟨b,d,rfl,λi m=>?_⟩;have a:b≠g:=hg (by omega) _ rfl;obtain⟨c,e,f,j⟩:=k i m;exact⟨by rw[hU.cell _ a rfl];exact c,by rw[hU.cell _ a rfl];exact e,by rw[hU.cell _ a rfl];exact f,by rw[hU.cell _ a rfl];exact j⟩
theorem rowW_upd{w W:World}{g:Nat}{cs:Array Value}{T:TypeId}{l:List Wr}(h:RowW w p n l)(hU:Upd w W g cs T)(hg:0<n→∀y,p=some y→y.block≠g):RowW W p n l:=by
 refine⟨h.1,?_⟩;rcases h.2 with d|⟨b,c,rfl,e⟩
 ·exact .inl d
 ·refine .inr ⟨b,c,rfl,λi f=>?_⟩;have a:b≠g:=hg (by omega) _ rfl;rw[hU.cell _ a rfl,hU.cell _ a rfl];exact e i f
theorem rowW_lt{w:World}{l:List Wr}(h:RowW w p n l):0<n→∀y,p=some y→y.block<w.heap.size:=λc y d=>by
 rcases h.2 with f|⟨b,e,rfl,a⟩
 ·omega
 ·cases d;exact World.block_lt_of_cell? w _ (a 0 c).1
theorem rowP_lt{w:World}{l:List Pr}(h:ora.RowP w p n l):0<n→∀y,p=some y→y.block<w.heap.size:=λd y a=>by
 obtain⟨b,f,c,e,_⟩:=h.at d;rw[c] at a;cases a;exact e
end vnd
namespace cell
open Go.RowKit
def GaveU(w:World)(zs:List Int)(e:Ending)(w':World):Prop:=∃v,e=.returned v∧Ws w' w.heap.size v zs∧zB w w'
theorem GaveU.mk{w w':World}{zs:List Int}{v:Value}(h1:Ws w' w.heap.size v zs)(h2:zB w w'):GaveU w zs (.returned v) w':=⟨v,rfl,h1,h2⟩
theorem eqI(d:Nat)(a b:Int)(w:World):(Op.equalIn (d+1) 3 (zI a) (zI b)).run Tryz.prog w=.ok (a==b) w:=run_equalIn_int w d _ _ _ a b Tryz.underlying3
theorem eqU(d:Nat)(a b:Int)(w:World):(Op.equalIn (d+1) 83 (.int .u32 a) (.int .u32 b)).run Tryz.prog w=.ok (a==b) w:=run_equalIn_int w d _ _ _ a b Tryz.underlying83
theorem wt0(s c:Int)(w:World):(part 3 #[zI s,.int .u32 c] 0).run Tryz.prog w=.ok (zI s) w:=by kernel_rfl
theorem wt1(s c:Int)(w:World):(part 83 #[zI s,.int .u32 c] 1).run Tryz.prog w=.ok (.int .u32 c) w:=by kernel_rfl
theorem eqW(s t b c:Int)(w:World):
  (Op.equalIn 10000 85 (.agg #[zI s,.int .u32 b]) (.agg #[zI t,.int .u32 c])).run Tryz.prog w=.ok (s==t&&b==c) w:=by
 rw[show (10000:Nat)=9999+1 from rfl,run_equalIn_agg w 9999 85 _ _ (by kernel_rfl) (by kernel_rfl)];simp only[Program.fieldsOf,Tryz.underlying85,Op.eqFields,Sem.run_bind,Sem.run_ite];by_cases a:(s==t)=true<;>by_cases d:(b==c)=true<;>simp[wt0,wt1,show (9999:Nat)=9998+1 from rfl,eqI,eqU,a,d]
theorem writes_law(a b:Option Addr)(n c1 c2:Nat)(zs:List Wr)(w:World)(h1:RowW w a n zs)(h2:RowW w b n zs)(hn:n≤maxLen):
  Calls Tryz.prog 11 #[.slice a n c1,.slice b n c2] w λe w'=>e=.returned (.bool true)∧zB w w':=by
 have x:((n:Int) != (n:Int))=false:=by simp
 unfold maxLen at hn;go_enter Tryz.func11,Tryz.ntmps11;go_wp2_with fail;go_loopw [5] (λi wr=>∃k:Nat,k≤n∧i=zI k∧zB w wr) (λi _=>n-(intOf i).toNat)
 case atStart=>exact⟨0,Nat.zero_le _,rfl,zb⟩
 case round=>
  obtain⟨k,C,rfl,f⟩:=hrel;by_cases c:k<n
  ·obtain⟨j,m,rfl,r,g⟩:=h1.at (by omega);obtain⟨l,q,rfl,s,h⟩:=h2.at (by omega);have y:wr.cell? ⟨j,m+k*2,none⟩=some (zI (zs.getD k wr0).p):=(f.cell (p:=⟨j,m+k*2,none⟩) r).trans (g k c).1;have z:wr.cell? ⟨j,m+k*2+1,none⟩=some (.int .u32 (zs.getD k wr0).d):=(f.cell (p:=⟨j,m+k*2+1,none⟩) r).trans (g k c).2;have A:wr.cell? ⟨l,q+k*2,none⟩=some (zI (zs.getD k wr0).p):=(f.cell (p:=⟨l,q+k*2,none⟩) s).trans (h k c).1;have B:wr.cell? ⟨l,q+k*2+1,none⟩=some (.int .u32 (zs.getD k wr0).d):=(f.cell (p:=⟨l,q+k*2+1,none⟩) s).trans (h k c).2;have D:∀t:World,(Op.equalIn 10000 85 (.agg #[zI (zs.getD k wr0).p,.int .u32 (zs.getD k wr0).d]) (.agg #[zI (zs.getD k wr0).p,.int .u32 (zs.getD k wr0).d])).run Tryz.prog t=.ok true t:=λt=>by rw[eqW];simp
   have u:Hid (zB w wr):=f;clear g h h1 h2 r s f;generalize (zs.getD k wr0).p=p at *;generalize (zs.getD k wr0).d=d at *;go_wp2_with fail;go_region
   all_goals go_wp2_with fail
   go_roundw
   case rel=>exact⟨k+1,by omega,by go_num,u.o.drew⟩
   case measure=>simp[intOf];omega
  ·go_wp2_with fail;go_ret;exact⟨rfl,f⟩
end cell
namespace words
open Go.RowKit
theorem run_timesStep(args:Array Value)(w:World):(callFunc 166 args).run Tryz.prog w=.ok (.enter 166 args) w:=by kernel_rfl
theorem times_any(x:W3)(m:Int)(w:World)(hx:x.ok)(m0:0≤m)(m1:m<4294967296):
  Calls Tryz.prog 124 #[wv x,.int .u32 m] w λe w'=>e=.returned (.tuple #[wv (timesW x m),.int .u32 (timesO x m)])∧zB w w':=by
 obtain⟨a,b,c⟩:=x;obtain⟨⟨t,g⟩,⟨u,i⟩,y,j⟩:=hx;simp only at t g u i y j;go_enter Tryz.func124,Tryz.ntmps124;go_wp2_with fail;obtain⟨K,A⟩:=prod_bd t g m0 m1;obtain⟨L,B⟩:=prod_bd u i m0 m1;obtain⟨M,C⟩:=prod_bd y j m0 m1;have k:=trio_d w #[.int .u32 a,.int .u32 b,.int .u32 c] (.int .u32 m) 83 (.int .u32 0) (.int .u32 0) (.int .u32 0) (.int .u64 0) 174;have q:=bel4 w (.cells #[.int .u32 a,.int .u32 b,.int .u32 c] 135) (.cells #[.int .u32 m] 83) (.cells #[.int .u32 0,.int .u32 0,.int .u32 0] 135) (.cells #[.int .u64 0] 174);have G:(0:Int)+a*m=a*m:=by omega
 refine (upward_any 166 #[.pointer (some ⟨w.heap.size+1+1+1,0,none⟩),.pointer (some ⟨w.heap.size+1,0,none⟩)] (w.heap.size+1+1+1) (.int .u64 0) (.int .u64 ((a*m) / 4294967296)) (.int .u64 (((a*m) / 4294967296+b*m) / 4294967296)) (.int .u64 ((((a*m) / 4294967296+b*m) / 4294967296+c*m) / 4294967296)) a b c
  ((a*m)%4294967296) (((a*m)/4294967296+b*m)%4294967296) ((((a*m)/4294967296+b*m)/4294967296+c*m)%4294967296) _ (Acc.refl k.1 k.2.1) run_timesStep
  (λw' h=>by have:=timesStep_any (w.heap.size+1+1+1) (w.heap.size+1) 0 a m w' h.cell h.free (h.keep k.2.2.2 (by omega)) (by omega) (by omega) t g m0 m1;rw[G] at this;exact this)
  (λw' h=>timesStep_any _ _ _ _ _ w' h.cell h.free (h.keep k.2.2.2 (by omega)) (by omega) (by omega) u i m0 m1)
  (fun w' h=>timesStep_any _ _ _ _ _ w' h.cell h.free (h.keep k.2.2.2 (by omega)) (by omega) (by omega) y j m0 m1)).mono ?_
 rintro e r ⟨H,n⟩;have f:Trio r (w.heap.size+1+1) (.int .u32 0) (.int .u32 0) (.int .u32 0):=k.2.2.1.acc n (by omega);have F:Hid (zB w r):=n.below q (by omega);have l:=n.cell;have J:w.heap.size+1+1+1<r.heap.size:=Nat.lt_of_lt_of_le n.old n.size;have E:wv (timesW ⟨a,b,c⟩ m)=.agg #[.int .u32 ((a*m)%4294967296),.int .u32 (((a*m)/4294967296+b*m)%4294967296),.int .u32 ((((a*m)/4294967296+b*m)/4294967296+c*m)%4294967296)]:=rfl;have D:timesO ⟨a,b,c⟩ m=(((a*m)/4294967296+b*m)/4294967296+c*m)/4294967296:=rfl;have N:0≤(((a*m)/4294967296+b*m)/4294967296+c*m)/4294967296:=by omega
 have O:(((a*m)/4294967296+b*m)/4294967296+c*m)/4294967296<4294967296:=by omega
 have p:Hid (.returned (.tuple #[wv (timesW ⟨a,b,c⟩ m),.int .u32 (timesO ⟨a,b,c⟩ m)])=Ending.returned (.tuple #[.agg #[.int .u32 ((a*m)%4294967296),.int .u32 (((a*m)/4294967296+b*m)%4294967296),.int .u32 ((((a*m)/4294967296+b*m)/4294967296+c*m)%4294967296)],.int .u32 ((((a*m)/4294967296+b*m)/4294967296+c*m)/4294967296)])):=by
  have:Ending.returned (.tuple #[wv (timesW ⟨a,b,c⟩ m),.int .u32 (timesO ⟨a,b,c⟩ m)])=Ending.returned (.tuple #[.agg #[.int .u32 ((a*m)%4294967296),.int .u32 (((a*m)/4294967296+b*m)%4294967296),.int .u32 ((((a*m)/4294967296+b*m)/4294967296+c*m)%4294967296)],.int .u32 ((((a*m)/4294967296+b*m)/4294967296+c*m)/4294967296)]):=by rw[E,D]
  exact this
 clear n k q E D G K A L B M C;have d:Hid (e=.returned (.agg #[.int .u32 ((a*m)%4294967296),.int .u32 (((a*m)/4294967296+b*m)%4294967296),.int .u32 ((((a*m)/4294967296+b*m)/4294967296+c*m)%4294967296)])):=H;clear H;generalize hz:(((a*m)/4294967296+b*m)/4294967296+c*m)/4294967296=z at l N O p d;generalize hy0:(a*m)%4294967296=y0 at p d;generalize hy1:((a*m)/4294967296+b*m)%4294967296=y1 at p d;generalize hy2:(((a*m)/4294967296+b*m)/4294967296+c*m)%4294967296=y2 at p d;clear hz hy0 hy1 hy2;obtain rfl:=d.o;have f:=f.alloc (.cells #[.int .u32 y0,.int .u32 y1,.int .u32 y2] 135);have S:=f.c0;have T:=f.c1;have U:=f.c2;have P:=f.free 0;have Q:=f.free 1;have R:=f.free 2;have I:Hid (Trio (r.alloc (.cells #[.int .u32 y0,.int .u32 y1,.int .u32 y2] 135)) (w.heap.size+1+1) (.int .u32 0) (.int .u32 0) (.int .u32 0)):=f;clear f;go_wp2_with fail;go_region
 all_goals go_wp2_with fail
 have s:=((I.o.set0 (.int .u32 y0)).set1 (.int .u32 y1)).set2 (.int .u32 y2);refine bodyPost_ret (v:=.tuple #[.agg #[.int .u32 y0,.int .u32 y1,.int .u32 y2],.int .u32 z]) (by simp[results,Tryz.results124,s.c0,s.c1,s.c2,go_sem]) rfl ⟨p.o.symm,?_⟩;exact below_put (F.o.alloc F.o.size _) _ _ _ _ _ _ _ (by omega)
end words
namespace deb
open tar (Du du0 Came TwoPost)
open Go.RowKit
def KdAge:Prop:=∀(W:World)(a:Option Addr)(len cap:Nat)(ls:List Du)(m:Int),Came W a len cap ls→(Lit.int .i64 m).wf=true→zC 144 #[.slice a len cap,zI m] W λe w'=>AgePost W ls m e w'
end deb
namespace tar
variable{l:List Du}
theorem ov_before(h:Right l)(x y z:Int)(k j:Nat)(hk:k<l.length)(hj:j<k)(hy:low l k≤y)(hz:low l k≤z):ov (low l j) (l.getD j du0).a x z=ov (low l j) (l.getD j du0).a x y:=by
 have b:=low_mono h (j+1) k (by omega) (by omega);rw[low_next] at b;unfold ov;omega
theorem costK_before(h:Right l)(x y z:Int)(k j:Nat)(hk:k<l.length)(hj:j≤k)(hy:low l k≤y)(hz:low l k≤z):costK l x z j=costK l x y j:=by
 induction j with
 |zero=>rfl
 |succ j ih=>rw[costK_next,costK_next,ih (by omega),ov_before h x y z k j hk (by omega) hy hz]
theorem costK_behind(h:Right l)(x z:Int)(k j:Nat)(hkj:k≤j)(hj:j≤l.length)(hz:z≤low l k):costK l x z j=costK l x z k:=by
 induction j with
 |zero=>
  have:k=0:=by omega
  subst this;rfl
 |succ j ih=>
  by_cases e:k=j+1
  ·subst e;rfl
  ·have b:=ih (by omega) (by omega);have c:=low_mono h k j (by omega) (by omega);rw[costK_next,b,show ov (low l j) (l.getD j du0).a x z=0 by unfold ov;omega];omega
theorem cost_part(h:Right l)(x y:Int)(hx:0≤x)(hxy:x≤y)(k:Nat)(hk:k<l.length)(q:Int)(hq:0≤q)(hq2:q≤ov (low l k) (l.getD k du0).a x y)(hp:0<ov (low l k) (l.getD k du0).a x y):
  cost l x (x+(manyK l x y k+q))=costK l x y k+q*(l.getD k du0).b:=by
 have c:=many_eq h x y hx hxy k (by omega);have g:=h.rise k hk;have i:=h.low_pos k (by omega);have d:low l k≤y:=by unfold ov at hp;omega
 have f:low l k≤x+(manyK l x y k+q):=by rw[c];omega
 have e:x+(manyK l x y k+q)≤low l (k+1):=by rw[c,low_next];unfold ov at hq2 hp;omega
 unfold cost;rw[costK_behind h x _ (k+1) l.length (by omega) zc e,costK_next,costK_before h x y _ k k hk zc d f];rw[show ov (low l k) (l.getD k du0).a x (x+(manyK l x y k+q))=q by rw[c];unfold ov at hq2 hp ⊢;omega]
theorem bill_at(l:List Du)(x y:Int)(n:Nat)(p:List Tr)(t:Tr)(h:p++[t] <+: billK l x y n):∃k,k<n∧p=billK l x y k∧0<ov (low l k) (l.getD k du0).a x y∧t=⟨ov (low l k) (l.getD k du0).a x y,(l.getD k du0).b,ov (low l k) (l.getD k du0).a x y*(l.getD k du0).b⟩:=by
 induction n with
 |zero=>
  have:=h.length_le;simp[billK] at this
 |succ n ih=>
  by_cases c:0<ov (low l n) (l.getD n du0).a x y
  ·rw[billK_yes l x y n c] at h;rcases List.prefix_concat_iff.1 h with h|h
   ·obtain⟨d,e⟩:=List.append_inj' h rfl;exact⟨n,by omega,d,c,by simpa using e⟩
   ·obtain⟨k,a,b⟩:=ih h;exact⟨k,by omega,b⟩
  ·rw[billK_no l x y n c] at h;obtain⟨k,a,b⟩:=ih h;exact⟨k,by omega,b⟩
theorem top_bd{x:Int}(hx:0≤x∧x≤10000000):0≤Top x∧x+Top x≤10000000:=by unfold Top;omega
theorem most_all(h:Right l)(x m:Int)(hx:0≤x∧x≤10000000)(hm:sumC (billK l x (x+Top x) l.length)≤m):MostOf l x m (sumA (billK l x (x+Top x) l.length))∧sumC (billK l x (x+Top x) l.length)=cost l x (x+sumA (billK l x (x+Top x) l.length)):=by
 have c:=top_bd hx;have b:=bill_sums l x (x+Top x) l.length;have d:=many_all h x (x+Top x) hx.1 (by omega) c.2;have e:sumA (billK l x (x+Top x) l.length)=Top x:=by rw[b.1,d];omega
 have a:sumC (billK l x (x+Top x) l.length)=cost l x (x+Top x):=b.2;rw[e,a];rw[a] at hm;exact⟨⟨⟨c.1,Int.le_refl _⟩,hm,.inl rfl⟩,rfl⟩
theorem most_cut(h:Right l)(x m q:Int)(hx:0≤x∧x≤10000000)(p:List Tr)(t:Tr)(hpre:p++[t] <+: billK l x (x+Top x) l.length)(hq0:0≤q)(hq:q<t.a)(h1:sumC p+q*t.b≤m)(h2:m<sumC p+(q+1)*t.b):
  MostOf l x m (sumA p+q)∧sumC p+q*t.b=cost l x (x+(sumA p+q)):=by
 have n:=top_bd hx;obtain⟨k,f,rfl,g,rfl⟩:=bill_at l x (x+Top x) l.length p t hpre;have d:=bill_sums l x (x+Top x) k;rw[d.1,d.2];rw[d.2] at h1 h2;dsimp only at hq h1 h2 ⊢;have e:=cost_part h x (x+Top x) hx.1 (by omega) k f q hq0 (by omega) g;have i:=cost_part h x (x+Top x) hx.1 (by omega) k f (q+1) (by omega) (by omega) g;have j:=many_bd h x (x+Top x) hx.1 (by omega) k (by omega);have c:=many_bd h x (x+Top x) hx.1 (by omega) (k+1) (by omega);rw[many_next] at c;rw[e];refine⟨⟨⟨by omega,by omega⟩,by rw[e];exact h1,.inr ?_⟩,rfl⟩;rw[show manyK l x (x+Top x) k+q+1=manyK l x (x+Top x) k+(q+1) by omega,i];exact h2
theorem sums_bd(l:List Tr)(h:∀t∈l,LineOk t):(0≤sumA l∧sumA l≤(l.length:Int)*10000000)∧0≤sumC l:=by
 induction l with
 |nil=>exact⟨⟨Int.le_refl _,Int.le_refl _⟩,Int.le_refl _⟩
 |cons t l ih=>
  have m:=ih λx j=>h x (List.mem_cons_of_mem _ j);obtain⟨k,b,d,f,g⟩:=h t List.mem_cons_self;have i:=prod_bd (show 0≤t.a by omega) b d f;rw[← g] at i;have e:((t::l).length:Int)=(l.length:Int)+1:=by simp
  rw[e,Int.add_mul];exact⟨⟨by show 0≤t.a+sumA l;omega,by show t.a+sumA l≤_;omega⟩,by show 0≤t.c+sumC l;omega⟩
theorem quo_bd{d p q:Int}(hd:0≤d)(hp:1≤p)(hq:d/p=q):0≤q∧q*p≤d∧d<(q+1)*p∧q≤d:=by
 subst hq;have b:=Int.ediv_nonneg hd (show 0≤p by omega);have a:=Int.mul_ediv_self_le (x:=d) (k:=p) (by omega);have c:=Int.lt_mul_ediv_self_add (x:=d) (k:=p) (by omega);have e:d/p≤d:=Int.ediv_le_self _ hd;rw[Int.mul_comm] at a c;exact⟨b,a,by rw[Int.add_mul];omega,e⟩
theorem snoc_one{p:List Ln}{t:Ln}:lns (p++[t])=lns p++[t.1]:=by rw[lns_app];rfl
theorem sums_one(p:List Ln)(t:Ln):sumA (lns (p++[t]))=sumA (lns p)+t.1.a∧sumC (lns (p++[t]))=sumC (lns p)+t.1.c:=by
 rw[snoc_one,sumA_app,sumC_app];exact⟨by show _+(t.1.a+0)=_;omega,by show _+(t.1.c+0)=_;omega⟩
end tar
namespace deb
open tar (Du du0 Came TwoPost)
open Go.RowKit
def KdTotal:Prop:=∀(W:World)(a:Option Addr)(len cap:Nat)(ls:List Du),Came W a len cap ls→zC 96 #[.slice a len cap] W λe w'=>TwoPost W (OwedIs ls) e w'
end deb
namespace acc
open tar (Du)
open Go.RowKit
def KcOpen:Prop:=∀(W:World)(m:Int),(Lit.int .i64 m).wf=true→zC 181 #[zI m] W λe w'=>APost W (OpenIs m) e w'
def KcOwe:Prop:=∀(W:World)(x:Ac)(p:Option Addr)(len cap:Nat)(q:Du),ACame W x p len cap→(Lit.int .i64 q.a).wf=true∧(Lit.int .i64 q.b).wf=true→zC 182 #[x.v p len cap,.agg #[zI q.a,zI q.b]] W λe w'=>APost W (OweIs x q) e w'
end acc
namespace words
open Go.RowKit
def Ty(w:World)(b:Nat):Prop:=∃cs fr,w.heap[b]?=some (.cells cs 83 fr)
theorem Ty.lt{w:World}{b:Nat}(h:Ty w b):b<w.heap.size:=by
 obtain⟨cs,c,h⟩:=h;by_cases a:b<w.heap.size
 ·exact a
 ·rw[Array.getElem?_eq_none (by omega)] at h;cases h
variable{a:Option Addr}{w w':World}{l:List Nat}{n cap:Nat}
theorem Ty.same{b:Nat}(h:Ty w b)(e:w'.heap[b]?=w.heap[b]?):Ty w' b:=by
 obtain⟨cs,a,h⟩:=h;exact⟨cs,a,e.trans h⟩
theorem ty_new(w:World)(cs:Array Value):Ty (w.alloc (.cells cs 83)) w.heap.size:=by
 refine⟨cs,(0,0),?_⟩;show (w.heap.push _)[w.heap.size]?=_;rw[Array.getElem?_push_size]
structure Ru (w:World) (a:Option Addr) (n cap:Nat) (l:List Nat):Prop where
 len:l.length=n
 lt:∀x∈l,x<4294967296
 nil:a=none→cap=0
 room:n≤cap
 cell:n=0∨∃b off,a=some ⟨b,off,none⟩∧∀i,i<n→w.cell? ⟨b,off+i,none⟩=some (.int .u32 ((l.getD i 0:Nat):Int))
 typ:∀b off s,a=some ⟨b,off,s⟩→n≠0→Ty w b
theorem Ru.below(h:Ru w a n cap l)(hb:zB w w'):Ru w' a n cap l:=by
 refine⟨h.len,h.lt,h.nil,h.room,?_,λb c s e f=>(h.typ b c s e f).same (hb.block b (h.typ b c s e f).lt)⟩;rcases h.cell with g|⟨b,c,rfl,j⟩
 ·exact .inl g
 ·refine .inr ⟨b,c,rfl,λi k=>?_⟩;have d:=j i k;rw[hb.cell (p:=⟨b,c+i,none⟩) (World.block_lt_of_cell? w _ d)];exact d
theorem Ru.at{w:World}(h:Ru w a n cap l){i:Nat}(hi:i<n):∃b off,a=some ⟨b,off,none⟩∧w.cell? ⟨b,off+i,none⟩=some (.int .u32 ((l.getD i 0:Nat):Int)):=by
 rcases h.cell with d|⟨b,off,rfl,c⟩
 ·omega
 ·exact⟨b,off,rfl,c i hi⟩
theorem Ru.word{w:World}(h:Ru w a n cap l)(i:Nat):l.getD i 0<4294967296:=by
 by_cases b:i<l.length
 ·exact h.lt _ (by simp[List.getD,List.getElem?_eq_getElem b])
 ·simp[List.getD,List.getElem?_eq_none (show l.length≤i by omega)]
def Gives(w:World)(m:Nat)(e:Ending)(w':World):Prop:=∃a n cap,e=.returned (.slice a n cap)∧Ru w' a n cap (dig m)∧zB w w'
theorem Gives.mk{m n cap:Nat}(h1:Ru w' a n cap (dig m))(h2:zB w w'):Gives w m (.returned (.slice a n cap)) w':=⟨a,n,cap,rfl,h1,h2⟩
theorem slice_top(a:Option Addr)(n cap k:Nat)(w:World)(hk:k≤n)(hn:n≤cap)(ha:a=none→cap=0):(Instr.slice 25 (.slice a n cap) none (some (zI (k:Int))) none).run Tryz.prog w=.ok (.slice a k cap) w:=by
 have b:k≤cap:=by omega
 cases a with
 |none=>
  have:=ha rfl;have:k=0:=by omega
  subst_vars
  simp[Instr.slice,Instr.sliceBounds,Instr.sliceBound,asIntOf,run_underlying Tryz.underlying25,go_sem]
 |some x=>simp[Instr.slice,Instr.sliceBounds,Instr.sliceBound,asIntOf,run_underlying Tryz.underlying25,b,go_sem]
theorem trim_any(a:Option Addr)(n cap:Nat)(l:List Nat)(w:World)(h:Ru w a n cap l)(hn:n≤1000):
  Calls Tryz.prog 176 #[.slice a n cap] w λe w'=>Gives w (nv l) e w':=by
 have d:Hid (Ru w a n cap l):=h;clear h;go_enter Tryz.func176,Tryz.ntmps176;go_wp2_with fail;go_loop [3] (λv=>∃k:Nat,k≤n∧v=zI k∧∀i,k≤i→i<n→l.getD i 0=0) (λv=>(intOf v).toNat)
 case atStart=>exact⟨n,zc,rfl,λi q m=>by omega⟩
 case round=>
  obtain⟨k,t,rfl,D⟩:=hrel;have B:Hid (∀i,k≤i→i<n→l.getD i 0=0):=D;clear D
  have j:(k=0∨l.getD (k-1) 0≠0)→Gives w (nv l) (.returned (.slice a k cap)) w:=λI=>by
   have e:=trim_dig l k d.o.lt (by rw[d.o.len];exact t) (λi q m=>B.o i q (by rw[d.o.len] at m;exact m)) I;refine Gives.mk ?_ zb;rw[← e];refine⟨by rw[List.length_take,d.o.len];omega,λx K=>d.o.lt x (List.mem_of_mem_take K),d.o.nil,Nat.le_trans t d.o.room,?_,λb f s e hn=>d.o.typ b f s e (by omega)⟩;rcases d.o.cell with L|⟨b,f,rfl,p⟩
   ·exact .inl (by omega)
   ·refine .inr ⟨b,f,rfl,λi J=>?_⟩;rw[p i (by omega)]
    congr 3
    simp[List.getD,J]
  have A:Hid ((k=0∨l.getD (k-1) 0≠0)→Gives w (nv l) (.returned (.slice a k cap)) w):=j;have z:=slice_top a n cap k w t d.o.room d.o.nil;clear j;by_cases u:k=0
  ·subst u;go_wp2_with fail;go_ret;exact A.o (.inl (by trivial))
  ·obtain⟨b,f,rfl,p⟩:=d.o.at (i:=k-1) (by omega);have G:(k:Int)-1=((k-1:Nat):Int):=by omega
   have kp:(0:Int)<(k:Int):=by omega
   by_cases c:l.getD (k-1) 0=0
   ·rw[c] at p
    have F:Hid (∀i,k-1≤i→i<n→l.getD i 0=0):=λi q m=>by
     by_cases e:i=k-1
     ·rw[e];exact c
     ·exact B.o i (by omega) m
    clear z c;have C:k-1<n:=by omega
    generalize r:k-1=g at *;go_wp2_with fail;go_round
    case rel=>exact⟨g,by omega,by go_num,F.o⟩
    case measure=>simp[intOf];omega
   ·have H:((((l.getD (k-1) 0:Nat):Int))==0)=false:=beq_eq_false_iff_ne.2 (by omega);have E:Hid (l.getD (k-1) 0≠0):=c;clear c;have C:k-1<n:=by omega
    generalize ((l.getD (k-1) 0:Nat):Int)=y at H p;generalize r:k-1=g at p G C;go_wp2_with fail;go_ret;exact A.o (.inr E.o)
theorem ru_two(w:World)(x y:Nat)(hx:x<4294967296)(hy:y<4294967296):Ru (w.alloc (.cells #[.int .u32 (x:Int),.int .u32 (y:Int)] 83)) (some ⟨w.heap.size,0,none⟩) 2 2 [x,y]:=by
 refine⟨rfl,?_,(λh=>by cases h),zc,.inr ⟨w.heap.size,0,rfl,λi c=>?_⟩,λb a s e _=>by obtain⟨rfl,-,-⟩:=(by simpa using e:w.heap.size=b∧0=a∧none=s);exact ty_new _ _⟩
 ·intro z d;simp at d;omega
 ·match i,c with
  |0,_=>simp
  |1,_=>simp
theorem words_any(x:Nat)(w:World)(hx:x<18446744073709551616):
  Calls Tryz.prog 175 #[.int .u64 (x:Int)] w λe w'=>Gives w x e w':=by
 have f:x%4294967296<4294967296:=Nat.mod_lt _ (by decide);have k:x/4294967296<4294967296:=by omega
 have b:=ru_two w (x%4294967296) (x/4294967296) f k;have j:Hid (nv [x%4294967296,x/4294967296]=x):=(by simp only[nv];omega:nv [x%4294967296,x/4294967296]=x)
 have l:((x:Nat):Int)%4294967296=((x%4294967296:Nat):Int):=by omega
 have m:((x:Nat):Int)/4294967296=((x/4294967296:Nat):Int):=by omega
 have i:Hid (Ru (w.alloc (.cells #[.int .u32 ((x%4294967296:Nat):Int),.int .u32 ((x/4294967296:Nat):Int)] 83)) (some ⟨w.heap.size,0,none⟩) 2 2 [x%4294967296,x/4294967296]):=b;have d:Hid (zB w (w.alloc (.cells #[.int .u32 ((x%4294967296:Nat):Int),.int .u32 ((x/4294967296:Nat):Int)] 83))):=(Below.refl _ w).alloc zc _;clear b f;generalize x%4294967296=q at *;generalize x/4294967296=p at *;go_enter Tryz.func175,Tryz.ntmps175;go_wp2_with fail;refine(trim_any _ _ _ _ _ i.o (by omega)).mono ?_;rintro e w' ⟨a,n,c,rfl,b,g⟩;rw[j.o] at b;have h:Hid (Gives w x (.returned (.slice a n c)) w'):=Gives.mk b (d.o.trans (g.mono d.o.size));clear b g;go_wp2_with fail;go_ret;exact h.o
end words
namespace acc
open Go.ChangeShapes Go.WideShapes Go.ChangeAt Go.RowKit Go.Deep
theorem open_terms{H:Type}{enc:TypeId × Value→H}{W:World}{r:Reach}{b0 b1:Nat}{held:Bool}{v:Value}{d:DataW H}{ps:List MemPlace}
  (hval:Value.okWide Tryz.prog W r b0 24 v) (h:DataW.Trod enc Tryz.prog W b1 (λ_=>true) held 24 v d ps) (hs:∀n∈d.weights Tryz.prog 24,n≤reachBytes):
  ∃(x:Tm)(p:Option Addr)(len cap:Nat),v=x.v p len cap∧TCame W x p len cap:=by
 have u:=Tryz.underlying24;have hc:Tryz.prog.cellsOf 24=5:=by kernel_rfl
 have Z:Tryz.prog.cellsOf 3=1:=by kernel_rfl
 have s:Tryz.prog.cellsOf 22=1:=by kernel_rfl
 obtain⟨cs,rfl,k⟩:=okWide_struct u hval;rw[hc] at k
 obtain⟨c0,c1,c2,c3,c4,rfl⟩:∃c0 c1 c2 c3 c4,cs=#[c0,c1,c2,c3,c4]:=by
  cases cs with
  |mk l=>match l,k with
   |[c0,c1,c2,c3,c4],_=>exact⟨c0,c1,c2,c3,c4,rfl⟩
 obtain⟨F,hf⟩:=h;obtain⟨xs,n,N,hd,_,g,f⟩:=DataW.trod_struct u hf
 match xs,g with
 |[y0,y1,y2,y3,y4],_=>
  have G:=f 0 _ rfl;have I:=f 1 _ rfl;have J:=f 2 _ rfl;have K:=f 3 _ rfl;have L:=f 4 _ rfl;simp[Value.cells,Z,s] at G I J K L;obtain⟨U,B,-,Q⟩:=DataW.trod_int Tryz.underlying3 I;obtain⟨V,C,-,R⟩:=DataW.trod_int Tryz.underlying3 J;obtain⟨X,D,-,S⟩:=DataW.trod_int Tryz.underlying3 K;obtain⟨Y,E,-,T⟩:=DataW.trod_int Tryz.underlying3 L;simp at B C D E;subst B C D E;rcases Deep.open_slice_pairs Tryz.underlying22 Tryz.underlying214 (by kernel_rfl) rfl rfl (by kernel_rfl) (by kernel_rfl) G with⟨b,_⟩|⟨x,l,c,A,fu,V0,V1,D0,D1,P0,P1,b,_,hl,hm,i,hy,e⟩
  ·simp at b;subst b;exact⟨⟨[],U,V,X,Y⟩,none,0,0,rfl,⟨tar.RowD.nil _ _,(λ_=>rfl),zc,by omega,(λx N=>by cases N)⟩,⟨Q,R,S,T⟩⟩
  ·simp at b;subst b;simp only[if_true] at i;subst i
   have hr:=tar.rowD_of (len:=l) (w:=W) (a:=x) (m:=A) (by omega) (fun j hj=>by
    obtain⟨O,P,t0,t1⟩:=e j hj;obtain⟨z0,o,_,y⟩:=DataW.trod_int Tryz.underlying3 t0;obtain⟨z1,q,_,z⟩:=DataW.trod_int Tryz.underlying3 t1;simp only[List.cons.injEq,and_true] at o q;rw[o] at O;rw[q] at P
    exact ⟨z0,z1,O,P,y,z⟩)
   obtain⟨zs,r1,r2⟩:=hr;subst hy;obtain⟨t,_⟩:=Prod.mk.inj hd;subst t;have M:=hs ((l+(A-l))*Tryz.prog.bytesOf 214) (by simp[DataW.weights,u,DataW.weightsEach,Tryz.underlying22]);rw[show Tryz.prog.bytesOf 214=16 from by kernel_rfl] at M;simp only[reachBytes] at M;exact⟨⟨zs,U,V,X,Y⟩,some x,l,A,rfl,⟨r1,(λh=>by cases h),hl,by omega,r2⟩,⟨Q,R,S,T⟩⟩
end acc
namespace rct
open Go.RowKit
theorem met_tail{P:Program}{x:String × DataW Unit}{rest:List (String × DataW Unit)}{W:World}(h:laidMet P (x::rest) W):laidMet P rest W:=by
 obtain⟨o,l,i,e⟩:=h;obtain⟨m,r,cs,c,p,q,f,k,d,n,j,rfl⟩:=l;exact⟨q,j,(List.nodup_append.1 i).2.1,λb a g=>e b a (List.mem_append_right _ g)⟩
end rct
end Go.Proofs.YtoepgdhiepedeaaGreatDoor
