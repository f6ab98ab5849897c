import Derived.Test.YtoepgdhiepedeaaGreatDoorVVRys31
import Derived.Test.YtoepgdhiepedeaaGreatDoorVVRys34
import Derived.Test.YtoepgdhiepedeaaGreatDoorVVRys35
set_option linter.unusedVariables false
set_option linter.unusedSimpArgs false
set_option maxHeartbeats 4000000
set_option maxRecDepth 100000
namespace Go.Proofs.YtoepgdhiepedeaaGreatDoor
namespace vnd
open disk (RepIs AppIs RepPost Lr Recs Sli sl0)
open book (Ev ev0 EMay evL evOf EncIs DecIs Cm cm0 So so0 BookIs BookPost Sees ECame RowE FirstAt NoneAt Tells DecPost)
open acc (Ac Tm Bi SellIs GrantIs RekeyIs OweIs)
open ora (Pr IssueIs)
open cell (Wr RowU)
open rcp (Rc rc0)
open token (Tok fmtL)
open Go.RowKit
theorem cell_one{w:World}{g o:Nat}{v u:Value}{T:TypeId}(hB:Blk w g #[v] T)(h:w.cell? ⟨g,o,none⟩=some u):o=0:=by
 rw[hB.cell o] at h
 match o,h with
 |0,_=>rfl
 |o+1,h=>simp at h
variable{p:Option Addr}{T T':TypeId}{v v':Value}{w W:World}{g:Nat}{n:Nat}
theorem rowC_one{xs:List book.Cu}(h:book.RowC w p n xs)(hB:Blk w g #[v] T)(hU:Upd w W g #[v'] T'):book.RowC W p n xs:=by
 refine⟨h.1,?_⟩;rcases h.2 with a|⟨b,f,rfl,q,c⟩
 ·exact .inl a
 ·rcases Nat.eq_zero_or_pos n with a|a
  ·exact .inl a
  ·have d:b≠g:=λe=>by
    subst e;have k:=c 0 0 a (by decide);have l:=c 0 1 a (by decide);have r:=cell_one hB (u:=zI (xs.getD 0 book.cu0).me) (by rw[k];rfl);have s:=cell_one hB (u:=zI (xs.getD 0 book.cu0).rv) (by rw[l];rfl);omega
   exact .inr ⟨b,f,rfl,by rw[hU.size];exact q,λi j m o=>by rw[hU.cell _ d rfl];exact c i j m o⟩
theorem rowS_one{l:List So}(h:book.RowS w p n l)(hB:Blk w g #[v] T)(hU:Upd w W g #[v'] T'):book.RowS W p n l:=by
 refine⟨h.1,?_⟩;rcases h.2 with a|⟨b,f,rfl,r,c⟩
 ·exact .inl a
 ·rcases Nat.eq_zero_or_pos n with a|a
  ·exact .inl a
  ·have d:b≠g:=λe=>by
    subst e;have k:=c 0 0 a (by decide);have m:=c 0 1 a (by decide);have s:=cell_one hB (u:=zI (l.getD 0 so0).id) (by rw[k];rfl);have t:=cell_one hB (u:=zI (l.getD 0 so0).cl) (by rw[m];rfl);omega
   exact .inr ⟨b,f,rfl,by rw[hU.size];exact r,λi j o q=>by rw[hU.cell _ d rfl];exact c i j o q⟩
theorem came_one{n cap:Nat}{l:List tar.Du}(h:tar.Came w p n cap l)(hB:Blk w g #[v] T)(hU:Upd w W g #[v'] T'):tar.Came W p n cap l:=
 acc.came_upd h hU λa x f e=>by
  obtain⟨b,j,i,m,d⟩:=h.row.at a;rw[i] at f;cases f;have c:=e;subst c;have k:=cell_one hB (d 0 a).1;have c:=cell_one hB (d 0 a).2;omega
theorem sees_one{xs:List book.Cu}{bk:List Cm}(h:Sees w p n xs bk)(hB:Blk w g #[v] T)(hU:Upd w W g #[v'] T'):Sees W p n xs bk:=
 ⟨rowC_one h.row hB hU,h.len,h.num,λi a=>came_one (h.ds i a) hB hU,λi a=>rowS_one (h.so i a) hB hU⟩
open disk (AppPost)
open book (EncPost)
open cell (RowW Lw Ws)
def WrPost(w:World)(R:List Wr→Int→Prop)(e:Ending)(w':World):Prop:=∃V ls f,e=.returned (.tuple #[V,zI f])∧R ls f∧Lw w' w.heap.size V ls∧zB w w'
theorem lw_low{w:World}{base base':Nat}{v:Value}{l:List Wr}(h:Lw w base v l)(hb:base'≤base):Lw w base' v l:=by
 refine⟨h.1,?_⟩;rcases h.2 with d|⟨g,a,b,e,c,rest⟩
 ·exact .inl d
 ·exact .inr ⟨g,a,b,e,Nat.le_trans hb c,rest⟩
def TokPost(w:World)(R:List Wr→List Pr→Rc→Int→Prop)(e:Ending)(w':World):Prop:=∃V ls p5 n5 c5 o' r f,e=.returned (.tuple #[V,.agg #[.slice p5 n5 c5],rcp.Rc.v r,zI f])∧R ls o' r f∧Lw w' w.heap.size V ls∧ora.RowP w' p5 n5 o'∧(p5=none→c5=0)∧n5≤c5∧(∀y,p5=some y→w.heap.size≤y.block)∧zB w w'
theorem lw_upd{w W:World}{g base:Nat}{cs:Array Value}{T:TypeId}{v:Value}{l:List Wr}(h:Lw w base v l)(hU:Upd w W g cs T)(hg:g<base):Lw W base v l:=by
 refine⟨h.1,?_⟩;rcases h.2 with d|⟨q,a,b,f,e,c,rest⟩
 ·exact .inl d
 ·exact .inr ⟨q,a,b,f,e,hU.keep c (by omega),rest⟩
def KFm:Prop:=∀(k:Tok)(W:World),k.ok→zC 28 #[k.v] W λe w'=>e=.returned (.tuple #[.string (token.fmtB (97*k.num)),zI 0])∧zB W w'
end vnd
namespace book
open Go.RowKit
theorem cellsE_app(l m:List Ev):cellsE (l++m)=cellsE l++cellsE m:=by
 induction l with
 |nil=>rfl
 |cons e l ih=>rw[List.cons_append,cellsE,cellsE,ih,List.append_assoc]
def Le(w:World)(base:Nat)(v:Value)(l:List Ev):Prop:=w.ownsRow base 44 13 v l.length (cellsE l)
theorem Le.zero(w:World)(base:Nat):Le w base (zS) []:=World.ownsRow_nil _ _ _ _
variable{l:List Ev}{base:Nat}{w:World}{v:Value}
theorem Le.alloc(h:Le w base v l)(o:Obj):Le (w.alloc o) base v l:=World.ownsRow.alloc h o
theorem Le.next{w w':World}(h:Le w base v l)(hb:zB w w'):Le w' base v l:=by
 refine⟨h.1,?_⟩;rcases h.2 with e|⟨g,a,b,f,d,c,rest⟩
 ·exact .inl e
 ·exact .inr ⟨g,a,b,f,d,Blk.next c hb,rest⟩
theorem Le.came(h:Le w base v l)(hl:l.length≤100000)(hw:∀x∈l,wf13 x):∃a cap,v=.slice a l.length cap∧ECame w a l.length cap l:=by
 rcases h.2 with⟨b,c⟩|⟨g,cap,d,b,_,k,f,_⟩
 ·exact⟨none,0,by rw[c];exact b,⟨⟨rfl,.inl c⟩,λ_=>rfl,by omega,by omega,hw⟩⟩
 ·subst b;refine⟨_,cap,rfl,⟨⟨rfl,.inr ⟨g,0,rfl,Blk.lt k,λi j m n=>?_⟩⟩,(λh=>by cases h),f,by omega,hw⟩⟩;have e:=World.ownsRow.cellAt h (i*13+j) (by omega);rw[Nat.zero_add,e];exact cellsE_at l i j m n
theorem wp_ev{ops:Array Oper}{rest:List Oper}{o:Oper}{a:Act}{Q:Exit→Act→World→Prop}(hgd:o.guard=none)(s x:Operand)
  (ho:o.op=.call { callee:=.builtin .append,args:=#[s,x],argTypes:=#[103,103] })
  (base G:Nat) (v:Value) (l:List Ev) (r:Ev) (hs:a.eval s=v) (hx:a.eval x=.slice (some ⟨G,0,none⟩) 1 1) (hv:Le w base v l) (hu:Blk w G r.cl.toArray 44) (hn:l.length≤1000000) (hbase:base≤w.heap.size)
  (h:∀v' w',Le w' base v' (l++[r])→w.grownBy w' v.ownBlock→wpList Tryz.prog ops Q rest (a.put o.dst v') w'):wpList Tryz.prog ops Q (o::rest) a w:=by
 obtain⟨k,i,b,c,d⟩:=info_parts evI;refine wpList_append_own w hgd s x 103 ho base 44 k (.agg ev0.cl.toArray) 13 104 Tryz.underlying103 i b c d rfl (by decide) v l.length (cellsE l) hs hv ⟨G,0,none⟩ 1 1 (cellsE [r]) hx (by rw[cellsE_len];rfl) ?_ (oneE [r]) (by unfold maxLen;omega) (by omega) hbase ?_
 ·intro j u e;rw[Addr.add_lit,Nat.zero_add,hu.cell j];rw[cellsE,cellsE,List.append_nil] at e;simpa using e
 intro v' w' f g _;refine h v' w' ?_ g;unfold Le;rw[List.length_append,cellsE_app];exact f
end book
namespace ora
open Go.RowKit
def GaveV(w:World)(l:List Pr)(e:Ending)(w':World):Prop:=∃v,e=.returned v∧Pw w' w.heap.size v l∧zB w w'
theorem pclone_some(x:Addr)(len cap:Nat)(l:List Pr)(w:World)(hr:RowP w (some x) len l)(hl:len≤1000):
  Calls Tryz.prog 117 #[.slice (some x) len cap] w λe w'=>GaveV w l e w':=by
 obtain⟨z,y,f,g,i⟩:=info_parts info_pr;obtain⟨d,hr⟩:=hr;have k:Hid ((w.alloc (.cells #[] 87)).ownsRow w.heap.size 87 4 (.slice (some ⟨w.heap.size,0,none⟩) 0 0) 0 []):=World.ownsRow_lit w #[] 0 zc (by unfold maxLen;omega) rfl;have c:Hid (w.heap.size≤(w.alloc (.cells #[] 87)).heap.size):=palloc_le zc _;have t:∀W:World,(binOp BinOp.eql 26 (.slice (some x) len cap) (zS)).run Tryz.prog W=.ok (.bool false) W:=λW=>by kernel_rfl
 go_enter Tryz.func117,Tryz.ntmps117
 go_wp2_with (first
  |(at_builtin;refine wpList_append_own _ rfl _ _ 26 rfl w.heap.size 87 z (.agg #[zI 0,zI 0,zI 0,zI 0]) 4 32 Tryz.underlying26 y f g i rfl (by decide) _ _ _ rfl k.o x len cap (cellsP l) rfl ?c0 ?c1 ?c2 ?c3 ?c4 c.o ?_)
  | go_in)
 case c0=>rw[cellsP_len,d]
 case c1=>
  intro j u n;rcases hr with h|⟨b,A,h,s⟩
  ·have:l=[]:=List.length_eq_zero_iff.1 (by omega);subst this;simp[cellsP] at n
  ·obtain rfl:=Option.some.inj h;have:=cellsP_get d s j u n;rw[Addr.add_lit,World.cell?_alloc_lt w _ _ (World.block_lt_of_cell? w _ this)];exact this
 case c2=>exact oneP l
 case c3=>unfold maxLen;omega
 case c4=>omega
 intro p w' a m _;have r:Hid (Pw w' w.heap.size p l):=by show w'.ownsRow _ _ _ _ _ _;rw[d];simpa using a
 have q:Hid (zB w w'):=pown_bel k.o m (zb.alloc zc _) zc c.o;clear a m;go_wp2;go_ret;exact⟨p,rfl,r.o,q.o⟩
theorem pclone_none(cap:Nat)(w:World):
  Calls Tryz.prog 117 #[.slice none 0 cap] w λe w'=>GaveV w [] e w':=by
 have a:∀W:World,(binOp BinOp.eql 26 (.slice none 0 cap) (zS)).run Tryz.prog W=.ok (.bool true) W:=λW=>by kernel_rfl
 go_enter Tryz.func117,Tryz.ntmps117;go_wp2_with fail;go_ret;exact⟨_,rfl,Pw.zero _ _,zb⟩
theorem pclone_any(a:Option Addr)(len cap:Nat)(l:List Pr)(w:World)(hr:RowP w a len l)(hl:len≤1000):
  Calls Tryz.prog 117 #[.slice a len cap] w λe w'=>GaveV w l e w':=by
 cases a with
 |some x=>exact pclone_some x len cap l w hr hl
 |none=>
  have b:len=0:=by
   rcases hr.2 with h|⟨_,_,h,_⟩
   ·exact h
   ·cases h
  subst b;have:l=[]:=List.length_eq_zero_iff.1 hr.1;subst this;exact pclone_none cap w
end ora
namespace disk
open Go.RowKit cell
theorem make_wr(m:Nat)(h:m≤100000)(w:World):(Instr.makeSlice 31 (zI 0) (zI ((m:Int)+2))).run Tryz.prog w=.ok (.slice (some ⟨w.heap.size,0,none⟩) 0 (m+2)) (w.alloc (.cells (madeCells (Value.agg #[zI 0,.int .u32 0]).cells ((m+2)*2)) 85)):=by
 obtain⟨e,d,a,b,c⟩:=info_parts info_wr;have:=run_make (P:=Tryz.prog) w 31 85 e (.agg #[zI 0,.int .u32 0]) Tryz.underlying31 d a .i64 .i64 0 ((m:Int)+2) (by omega) (by omega) (by rw[c];omega) (by omega);rw[b,show ((m:Int)+2).toNat=m+2 by omega] at this;exact this
theorem put_next2(p k:Nat)(r:List Int):putW p r k++[⟨(p:Int)+1+(k:Int),r.getD k 0⟩]=putW p r (k+1):=by
 rw[putW,show ((p+k+1:Nat):Int)=(p:Int)+1+(k:Int) by omega]
theorem app_yes2{c:List Int}{p k:Nat}{r:List Int}(hk:r.length=k)(h:p+k+1<c.length):putW p r k++[⟨(p:Int)+1+(k:Int),0⟩]++[⟨(p:Int),(k:Int)⟩]=appW c p r:=by
 subst hk;rw[← app_yes h,show (p:Int)+1+(r.length:Int)=(p:Int)+(r.length:Int)+1 by omega]
theorem app_no2{c:List Int}{p k:Nat}{r:List Int}(hk:r.length=k)(h:¬ p+k+1<c.length):putW p r k++[⟨(p:Int),(k:Int)⟩]=appW c p r:=by
 subst hk;exact app_no h
theorem laying_any(a:Option Addr)(m cap2:Nat)(r c:List Int)(p n:Nat)(w:World)(h:RowU w a m r)(h1:1≤m)(h2:m≤64)(hp:p≤2048)(hn:n≤2048)(hc:c.length=n):
  Calls Tryz.prog 123 #[.slice a m cap2,zI (p:Int),zI (n:Int)] w λe w'=>∃V,e=.returned V∧Lw w' w.heap.size V (appW c p r)∧zB w w':=by
 obtain⟨b,o,rfl,X,E⟩:=h.at (by omega);have O:Hid (∀W,zB w W→∀j,j<m→W.cell? ⟨b,o+j,none⟩=some (.int .u32 (r.getD j 0))):=λW Y j hj=>(Y.cell (p:=⟨b,o+j,none⟩) X).trans (E j hj);have I:Hid (c.length=n∧r.length=m):=⟨hc,h.1⟩
 have T:=make_wr m (by omega) w;have P:Hid (Lw (w.alloc (.cells (madeCells (Value.agg #[zI 0,.int .u32 0]).cells ((m+2)*2)) 85)) w.heap.size (.slice (some ⟨w.heap.size,0,none⟩) 0 (m+2)) []):=World.ownsRow_made w _ (m+2) zc (by unfold maxLen;omega) (size_madeCells _ _);have L:Hid (zB w (w.alloc (.cells (madeCells (Value.agg #[zI 0,.int .u32 0]).cells ((m+2)*2)) 85))):=zb.alloc zc _;clear h hc E X;generalize (w.alloc (.cells (madeCells (Value.agg #[zI 0,.int .u32 0]).cells ((m+2)*2)) 85))=W0 at *;go_enter Tryz.func123,Tryz.ntmps123;go_wp2_with fail;clear T;go_loopw [7,8,19] (λv7 v8 A wr=>∃(k:Nat)(V:Value),k≤m∧V=v7∧v8=zI ((p:Int)+1+(k:Int))∧A=zI (k:Int)∧Lw wr w.heap.size V (putW p r k)∧zB w wr) (λ_ _ A _=>m-(intOf A).toNat)
 case atStart=>exact⟨0,_,Nat.zero_le _,rfl,by go_num,rfl,P.o,L.o⟩
 case round=>
  obtain⟨k,V,hk,Z,rfl,rfl,F,q⟩:=hrel;subst Z;have N:Hid (zB w wr):=q;have z:(putW p r k).length≤1000000:=by rw[put_len];omega
  have l:Hid (∀o,Lw (wr.alloc o) w.heap.size V (putW p r k)):=λo=>F.alloc o;have y:Hid (∀o,zB w (wr.alloc o)):=λo=>q.alloc q.size o;have i:Hid (∀o,w.heap.size≤(wr.alloc o).heap.size):=λo=>(q.alloc q.size o).size;clear F q;by_cases S:k<m
  ·have k2:=O.o wr N.o k S;have Q:Hid (putW p r k++[⟨(p:Int)+1+(k:Int),r.getD k 0⟩]=putW p r (k+1)):=put_next2 p k r;generalize r.getD k 0=u at *;go_wp2_with (first|(refine wp_write rfl _ _ rfl w.heap.size wr.heap.size V (putW p r k) ⟨(p:Int)+1+(k:Int),u⟩ rfl rfl (l.o _) ⟨(Blk.new wr _ _).cell 0,(Blk.new wr _ _).cell 1⟩ z (i.o _) ?_;intro B t s f;have d:=own_bel (l.o _) f (y.o _) zc (i.o _);have J:Hid (Lw t w.heap.size B (putW p r k++[(⟨(p:Int)+1+(k:Int),u⟩:Wr)])):=s;have g:Hid (zB w t):=d;clear s f d)|fail)
   go_roundw
   case rel=>exact⟨k+1,B,by omega,rfl,by go_num,by go_num,by rw[← Q.o];exact J.o,g.o⟩
   case measure=>simp[intOf];omega
  ·obtain rfl:k=m:=by omega
   by_cases hz:(p:Int)+1+(k:Int)<(n:Int)
   ·have R:Hid (putW p r k++[⟨(p:Int)+1+(k:Int),0⟩]++[⟨(p:Int),(k:Int)⟩]=appW c p r):=app_yes2 I.o.2 (by rw[I.o.1];omega);have U:(putW p r k++[(⟨(p:Int)+1+(k:Int),0⟩:Wr)]).length≤1000000:=by rw[List.length_append,put_len];simp;omega
    go_upto_region 11 with(first|(refine wp_write rfl _ _ rfl w.heap.size wr.heap.size V (putW p r k) ⟨(p:Int)+1+(k:Int),0⟩ rfl rfl (l.o _) ⟨(Blk.new wr _ _).cell 0,(Blk.new wr _ _).cell 1⟩ z (i.o _) ?_;intro B t s f;have d:=own_bel (l.o _) f (y.o _) zc (i.o _);have J:Hid (Lw t w.heap.size B (putW p r k++[(⟨(p:Int)+1+(k:Int),0⟩:Wr)])):=s;have g:Hid (zB w t):=d;clear s f d)|fail)
    have D:Hid (∀o,Lw (t.alloc o) w.heap.size B (putW p r k++[(⟨(p:Int)+1+(k:Int),0⟩:Wr)])):=λo=>J.o.alloc o;have M:Hid (∀o,zB w (t.alloc o)):=λo=>g.o.alloc g.o.size o;have C:Hid (∀o,w.heap.size≤(t.alloc o).heap.size):=λo=>(g.o.alloc g.o.size o).size;go_wp2_with (first|(refine wp_write rfl _ _ rfl w.heap.size t.heap.size B (putW p r k++[(⟨(p:Int)+1+(k:Int),0⟩:Wr)]) ⟨(p:Int),(k:Int)⟩ rfl rfl (D.o _) ⟨(Blk.new t _ _).cell 0,(Blk.new t _ _).cell 1⟩ U (C.o _) ?_;intro G H s f;have d:=own_bel (D.o _) f (M.o _) zc (C.o _);have K:Hid (Lw H w.heap.size G (putW p r k++[(⟨(p:Int)+1+(k:Int),0⟩:Wr)]++[(⟨(p:Int),(k:Int)⟩:Wr)])):=s;have x:Hid (zB w H):=d;clear s f d)|fail)
    go_ret;exact⟨G,rfl,by rw[← R.o];exact K.o,x.o⟩
   ·have R:Hid (putW p r k++[⟨(p:Int),(k:Int)⟩]=appW c p r):=app_no2 I.o.2 (by rw[I.o.1];omega);go_wp2_with (first|(refine wp_write rfl _ _ rfl w.heap.size wr.heap.size V (putW p r k) ⟨(p:Int),(k:Int)⟩ rfl rfl (l.o _) ⟨(Blk.new wr _ _).cell 0,(Blk.new wr _ _).cell 1⟩ z (i.o _) ?_;intro G H s f;have d:=own_bel (l.o _) f (y.o _) zc (i.o _);have K:Hid (Lw H w.heap.size G (putW p r k++[(⟨(p:Int),(k:Int)⟩:Wr)])):=s;have x:Hid (zB w H):=d;clear s f d)|fail)
    go_ret;exact⟨G,rfl,by rw[← R.o];exact K.o,x.o⟩
def KAppend:Prop:=∀(W:World)(a:Option Addr)(n cap:Nat)(c:List Int)(b:Option Addr)(m cap2:Nat)(r:List Int),RowU W a n c→(a=none→cap=0)→n≤cap→n*4≤140737488351232→(∀x∈c,0≤x∧x<4294967296)→RowU W b m r→(b=none→cap2=0)→m≤cap2→m*4≤140737488351232→(∀x∈r,0≤x∧x<4294967296)→zC 77 #[.slice a n cap,.slice b m cap2] W λe w'=>AppGot W c r e w'
end disk
namespace vnd
open disk (RepIs AppIs)
open book (Ev ev0 EMay evL evOf EncIs DecIs Cm cm0 So so0 BookIs Sees ECame FirstAt NoneAt)
open acc (Ac Tm Bi TCame ACame)
open cell (Wr RowU)
open Go.RowKit
theorem puntag(kd me mo dr:Int)(F:Value)(l:Bi)(b:Ac)(p:Option Addr)(ln cp:Nat)(cl am:Int)(w:World)(h:(kd=4∧cl=2∧am=b.rv)∨(kd≠4∧cl=0∧am=l.un)):Calls Tryz.prog 39 #[.agg #[zI kd,zI me,zI mo,zI dr,F],.agg #[zI l.id,zI l.te,zI l.de,zI l.fe,zI l.pr,zI l.ch,zI l.un],.agg #[zI b.me,zI b.rv,zI b.nx,zI b.mo,zI b.bo,zI b.fr,.slice p ln cp]] w λe w'=>e=.returned (.agg #[zI cl,zI l.id,zI am,zI 0])∧zB w w':=by
 obtain⟨D,u,f,c,g,z,m,C⟩:=sh4 w #[zI kd,zI me,zI mo,zI dr,F] 61 #[zI l.id,zI l.te,zI l.de,zI l.fe,zI l.pr,zI l.ch,zI l.un] 33 #[zI b.me,zI b.rv,zI b.nx,zI b.mo,zI b.bo,zI b.fr,.slice p ln cp] 55 #[zI 0,zI 0,zI 0,zI 0] 73;go_enter Tryz.func39,Tryz.ntmps39;go_upto_region 1 with fail
 rw[u.o];rcases h with⟨n,rfl,rfl⟩|⟨n,rfl,rfl⟩
 ·have B:(kd==4)=true:=by simpa using n
  clear n;have j:=zy0 f;have k:=zy0 c;have x:=zy1 g;go_wp2_with (first|refine zs ?_|refine zw ?_)
  intro A d;obtain⟨s,t,r⟩:=zk3 d f c g;have i:=zk d m;have a:=zyb d;have q:=d.size;clear d;clear j k x;go_wp2_with fail;exact zr (.agg #[zI 2,zI l.id,zI b.rv,zI 0]) (by simp[results,Tryz.results39,zy0 a,zy1 a,zy2 a,zy3 a,go_sem]) ⟨rfl,i.o⟩
 ·have B:(kd==4)=false:=by simpa using n
  clear n;have j:=zy0 f;have k:=zy0 c;have y:=zy6 c;go_wp2_with (first|refine zs ?_|refine zw ?_)
  intro A d;obtain⟨s,t,r⟩:=zk3 d f c g;have i:=zk d m;have a:=zyb d;have q:=d.size;clear d;clear j k y;go_wp2_with fail;exact zr (.agg #[zI 0,zI l.id,zI l.un,zI 0]) (by simp[results,Tryz.results39,scl4 a,go_sem]) ⟨rfl,i.o⟩
end vnd
namespace words
open Go.RowKit
theorem str_zero:strOf (decL 0)=⟨#[48]⟩:=by rw[decL_one (by decide)];rfl
theorem text_zero(z:Nat)(w:World)(hg:Bg w z 0):
  Calls Tryz.prog 95 #[.pointer (some ⟨z,0,none⟩),zI 10] w λe w'=>StrPost w 0 e w':=by
 obtain⟨a,n,c,b,d⟩:=hg;have g:n=0:=by have:=d.len;rw[dig_zero] at this;simpa using this.symm
 subst g;obtain⟨c0,c1⟩:=bg_at b (Below.refl _ w);have f:Hid (StrPost w 0 (.returned (.string ⟨#[48]⟩)) w):=⟨by rw[str_zero],zb⟩
 clear d b;go_enter Tryz.func95,Tryz.ntmps95;go_wp2_with fail;go_ret;exact f.o
theorem string_any(z m:Nat)(w:World)(hg:Bg w z m)(hl:(dig m).length≤100)(hd:(decL m).length≤100):
  Calls Tryz.prog 60 #[.pointer (some ⟨z,0,none⟩)] w λe w'=>StrPost w m e w':=by
 have c:Hid (zC 95 #[.pointer (some ⟨z,0,none⟩),zI 10] w λe w'=>StrPost w m e w'):=by
  by_cases d:m=0
  ·subst d;exact text_zero z w hg
  ·exact text_any z m w hg (by omega) hl hd
 clear hg;go_enter Tryz.func60,Tryz.ntmps60;go_wp2_with fail;refine c.o.mono ?_;rintro e f ⟨rfl,a⟩;have b:Hid (zB w f):=a;clear a;go_wp2_with fail;go_ret;exact⟨rfl,b.o⟩
end words
namespace token
open words
open Go.RowKit
theorem zero_cat(n:Nat)(D:ByteArray):(⟨#[48]⟩:ByteArray)++((⟨(List.replicate n 48).toArray⟩:ByteArray)++D)=(⟨(List.replicate (n+1) 48).toArray⟩:ByteArray)++D:=by
 apply bytes_ext;simp[List.replicate_succ]
theorem zero_size(n:Nat)(D:ByteArray):((⟨(List.replicate n 48).toArray⟩:ByteArray)++D).size=n+D.size:=by
 rw[ByteArray.size_append]
 congr 1
 show (List.replicate n (48:UInt8)).toArray.size=n;simp
theorem zero_nil(D:ByteArray):(⟨(List.replicate 0 48).toArray⟩:ByteArray)++D=D:=by
 apply bytes_ext;simp
theorem formatted_ok(k:Tok)(w:World)(hk:k.ok):
  Calls Tryz.prog 28 #[k.v] w λe w'=>e=.returned (.tuple #[.string (fmtB (97*k.num)),zI 0])∧zB w w':=by
 have I:Hid (∀W,zC 52 #[.agg #[zI (k.c:Int),zI (k.i:Int),zI (k.a:Int),zI (k.t:Int)]] W λe w'=>e=.returned (zI 0)∧zB W w'):=λW=>by
  have:=fault_any k.c k.i k.a k.t W
  rwa [flaw_tok.2 hk] at this
 have N:Hid (∀W,zC 59 #[.agg #[zI (k.c:Int),zI (k.i:Int),zI (k.a:Int),zI (k.t:Int)]] W λe w'=>NewPost W (k.num*97) e w'):=λW=>number_any k W hk;have A:=num_bd hk;have d:=dec_len20 (V:=k.num*97) (by omega);have f:=str_size (decL (k.num*97));have O:Hid (∀(n:Nat) W,Bg W n (k.num*97)→zC 60 #[.pointer (some ⟨n,0,none⟩)] W λe w'=>e=.returned (.string (strOf (decL (k.num*97))))∧zB W w'):=λn W R=>string_any n _ W R (len100 (Nat.lt_trans (show k.num*97<73786976294838206464 by omega) (by decide))) (by omega)
 have P:Hid (∀n:Nat,n+(strOf (decL (k.num*97))).size=20→(⟨(List.replicate n 48).toArray⟩:ByteArray)++strOf (decL (k.num*97))=fmtB (97*k.num)):=λn m=>by
  rw[← rep_list,pad_fmt _ _ (by rw[← f];exact m),Nat.mul_comm]
 have G:Hid (zB w (w.alloc (.cells #[zI (k.c:Int),zI (k.i:Int),zI (k.a:Int),zI (k.t:Int)] 73))):=bel_box _ _;have L:Hid (Blk (w.alloc (.cells #[zI (k.c:Int),zI (k.i:Int),zI (k.a:Int),zI (k.t:Int)] 73)) w.heap.size #[zI (k.c:Int),zI (k.i:Int),zI (k.a:Int),zI (k.t:Int)] 73):=Blk.new _ _ _;rw[← f] at d;clear hk A f;generalize strOf (decL (k.num*97))=D at *;unfold Tok.v;go_enter Tryz.func28,Tryz.ntmps28;go_wp2_with fail;refine(I.o _).mono ?_;rintro e X ⟨rfl,b⟩;have p:=shB G b;have g:=L.o.next b;have c0:=g.cell 0;have c1:=g.cell 1;have c2:=g.cell 2;have Q:=g.cell 3;clear b g;go_wp2_with fail;refine(N.o _).mono ?_;rintro e U ⟨z,rfl,S,l,h⟩;have q:=shB p h;have J:Hid (Bg U z (k.num*97)):=l;clear h l S c0 c1 c2 Q;go_wp2_with fail;refine(O.o _ _ J.o).mono ?_;rintro e Y ⟨rfl,j⟩;have r:=shB q j;clear j;go_wp2_with fail;go_loop [5] (λv=>∃n:Nat,n+D.size≤20∧v=.string ((⟨(List.replicate n 48).toArray⟩:ByteArray)++D)) (λv=>20-(match v with | .string s=>s.size|_=>0))
 case atStart=>exact⟨0,by omega,by rw[zero_nil]⟩
 case round=>
  obtain⟨n,m,rfl⟩:=hrel;have B:=zero_size n D;have E:Hid ((⟨#[48]⟩:ByteArray)++((⟨(List.replicate n 48).toArray⟩:ByteArray)++D)=(⟨(List.replicate (n+1) 48).toArray⟩:ByteArray)++D):=zero_cat n D;have M:Hid (n+D.size=20→(⟨(List.replicate n 48).toArray⟩:ByteArray)++D=fmtB (97*k.num)):=P.o n;have u:Hid (((⟨(List.replicate (n+1) 48).toArray⟩:ByteArray)++D).size=n+1+D.size):=zero_size (n+1) D;by_cases y:n+D.size<20
  ·generalize (⟨(List.replicate n 48).toArray⟩:ByteArray)++D=Z at *;have C:(Z.size:Int)<20:=by omega
   have T:¬ 9223372036854775807<1+Z.size:=by omega
   have K:Hid (n+1+D.size≤20):=(by omega:n+1+D.size≤20)
   have x:Hid (Z.size=n+D.size):=B;clear B m d;go_wp2_with fail;go_round
   case rel=>exact⟨n+1,K.o,by rw[← E.o]⟩
   case measure=>
    show 20-((⟨#[48]⟩:ByteArray)++Z).size<20-Z.size;rw[E.o,u.o,x.o];omega
  ·have F:=M.o (by omega);have H:Hid ((⟨(List.replicate n 48).toArray⟩:ByteArray)++D=fmtB (97*k.num)):=F;clear F;generalize (⟨(List.replicate n 48).toArray⟩:ByteArray)++D=Z at *;have C:¬ (Z.size:Int)<20:=by omega
   clear B y m d;go_wp2_with fail;refine bodyPost_ret (v:=.tuple #[.string Z,zI 0]) (by simp[results,Tryz.results28,go_sem]) rfl ⟨by rw[H.o],r.o⟩
end token
end Go.Proofs.YtoepgdhiepedeaaGreatDoor
