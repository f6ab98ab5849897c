import Derived.Test.YtoepgdhiepedeaaGreatDoorVVRys11
import Derived.Test.YtoepgdhiepedeaaGreatDoorVVRys12
import Derived.Test.YtoepgdhiepedeaaGreatDoorVVRys14
import Derived.Test.YtoepgdhiepedeaaGreatDoorVVRys15
set_option linter.unusedVariables false
set_option linter.unusedSimpArgs false
set_option maxHeartbeats 4000000
set_option maxRecDepth 100000
namespace Go.Proofs.YtoepgdhiepedeaaGreatDoor
namespace vnd
open book (Ev ev0 Cm cm0 So so0 Sees)
open acc (Ac Tm Bi)
open ora (Pr)
open cell (Wr RowU)
open rcp (Rc rc0)
open Go.RowKit
def LoadPost(w:World)(t:Tm)(c:List Int)(e:Ending)(w':World):Prop:=∃p m cap xs bk f,e=.returned (.tuple #[.agg #[.slice p m cap],zI f])∧LoadIs t c bk f∧Sees w' p m xs bk∧m≤120∧zB w w'
structure Dk (w:World) (a:Option Addr) (n cap:Nat) (c:List Int):Prop where
 row:RowU w a n c
 nil:a=none→cap=0
 room:n≤cap
 bytes:n*4≤140737488351232
 wd:∀x∈c,0≤x∧x<4294967296
theorem Dk.below{w w':World}{a:Option Addr}{n cap:Nat}{c:List Int}(h:Dk w a n cap c)(hb:zB w w'):Dk w' a n cap c:=⟨h.row.below hb,h.nil,h.room,h.bytes,h.wd⟩
end vnd
namespace book
open Go.RowKit
open acc (Ac Tm Bi APost BPost TFault TRight OpenIs)
def Ev.cl(x:Ev):List Value:=[zI x.kd,zI x.me,zI x.mo,zI x.id,zI x.te,zI x.de,zI x.fe,zI x.pr,zI x.ch,zI x.un,zI x.tg,zI x.ow,zI x.bp]
def RowE(w:World)(a:Option Addr)(n:Nat)(l:List Ev):Prop:=l.length=n∧(n=0∨∃b off,a=some ⟨b,off,none⟩∧b<w.heap.size∧∀i j,i<n→j<13→w.cell? ⟨b,off+i*13+j,none⟩=(l.getD i ev0).cl[j]?)
theorem putAll_get(vs:List Value):∀(o:Nat)(cs:Array Value)(j:Nat),o+vs.length≤cs.size→(putAll cs o vs)[j]?=if o≤j∧j<o+vs.length then vs[j-o]? else cs[j]?:=by
 induction vs with
 |nil=>intro o cs j _;rw[if_neg (by simp only[List.length_nil];omega)];rfl
 |cons v r ih=>
  intro o cs j h;simp only[List.length_cons] at h;rw[putAll,ih (o+1) _ j (by simp;omega)];by_cases a:o+1≤j∧j<o+1+r.length
  ·rw[if_pos a,if_pos (by simp;omega),show j-o=(j-(o+1))+1 by omega,List.getElem?_cons_succ]
  ·rw[if_neg a];by_cases b:j=o
   ·subst b;rw[if_pos (by simp only[List.length_cons];omega),Nat.sub_self];simp[show j<cs.size by omega]
   ·rw[if_neg (by simp;omega),Array.getElem?_setIfInBounds_ne (by omega)]
theorem putAll_size(vs:List Value):∀(o:Nat)(cs:Array Value),(putAll cs o vs).size=cs.size:=by
 induction vs with
 |nil=>intro o cs;rfl
 |cons v r ih=>intro o cs;rw[putAll,ih];simp
theorem cellsC_get(xs:List Cu)(j:Nat):(cellsC xs)[j]?=if j<xs.length*8 then (xs.getD (j/8) cu0).cs[j%8]? else none:=by
 by_cases h:j<xs.length*8
 ·rw[if_pos h];have:=cellsC_at xs (j/8) (j%8) (by omega) (by omega);rw[show j/8*8+j%8=j by omega] at this;exact this
 ·rw[if_neg h,List.getElem?_eq_none (by rw[cellsC_len];omega)]
variable{xs:List Cu}
theorem lc_put{w W:World}{base g n cap k:Nat}{x':Cu}{cur:Array Value}(h:Lc w base (.slice (some ⟨g,0,none⟩) n cap) xs)(hB:Blk w g cur 71)(hk:k<xs.length)(hU:Upd w W g (putAll cur (k*8) x'.cs) 71):Lc W base (.slice (some ⟨g,0,none⟩) n cap) (xs.set k x'):=by
 unfold Lc at *;rw[List.length_set];refine⟨by rw[cellsC_len,List.length_set],?_⟩;rcases h.2 with⟨p,_⟩|⟨u,f,a,m,q,b,s,r,o,t⟩
 ·cases p
 ·simp only[Value.slice.injEq,Option.some.injEq,Addr.mk.injEq,and_true] at m;obtain⟨rfl,rfl,rfl⟩:=m
  have e:a=cur:=by
   have d:=hB;rw[d] at b;injection b with b
   injection b with b
   exact b.symm
  subst e;refine .inr ⟨g,cap,_,rfl,q,hU.blk,s,r,by rw[putAll_size];exact o,?_⟩;apply List.ext_getElem?;intro j;have l:x'.cs.length=8:=rfl;rw[cellsC_get,List.length_set,getD_put xs x' cu0 k (j/8) hk];by_cases c:j<xs.length*8
  ·rw[if_pos c,List.getElem?_take_of_lt c,Array.getElem?_toList,putAll_get _ _ _ _ (by rw[o,l];omega),l];by_cases d:k*8≤j∧j<k*8+8
   ·rw[if_pos d,if_pos (by omega),show j-k*8=j%8 by omega]
   ·rw[if_neg d,if_neg (by omega)];have i:a.toList[j]?=(cellsC xs)[j]?:=by rw[← t,List.getElem?_take_of_lt c]
    rw[Array.getElem?_toList] at i;rw[i,cellsC_get,if_pos c]
  ·rw[if_neg c,List.getElem?_eq_none (by rw[List.length_take];omega)]
theorem wp_cust{w:World}{ops:Array Oper}{rest:List Oper}{o:Oper}{a:Act}{Q:Exit→Act→World→Prop}(hgd:o.guard=none)(s x:Operand)
  (ho:o.op=.call { callee:=.builtin .append,args:=#[s,x],argTypes:=#[63,63] })
  (base G:Nat) (v:Value) (l:List Cu) (r:Cu) (hs:a.eval s=v) (hx:a.eval x=.slice (some ⟨G,0,none⟩) 1 1) (hv:Lc w base v l) (hu:Blk w G r.cs.toArray 71) (hn:l.length≤2000000) (hbase:base≤w.heap.size)
  (h:∀v' w',Lc w' base v' (l++[r])→w.grownBy w' v.ownBlock→(v'.ownBlock=v.ownBlock∨v'.ownBlock=some w.heap.size)→wpList Tryz.prog ops Q rest (a.put o.dst v') w'):wpList Tryz.prog ops Q (o::rest) a w:=
 wpList_plain hgd λK e=>step_cust s x ho base G v l r hs hx hv hu hn hbase (λv' w' b c d=>e _ _ (h v' w' b c d))
theorem lc_lies{w:World}{base n cap:Nat}{a:Option Addr}(h:Lc w base (.slice a n cap) xs)(hn:0<n):∃g cur,a=some ⟨g,0,none⟩∧base≤g∧Blk w g cur 71∧n*8≤cur.size∧∀i j,i<xs.length→j<8→cur[i*8+j]?=(xs.getD i cu0).cs[j]?:=by
 rcases h.2 with⟨e,q⟩|⟨g,b,cur,d,k,f,o,r,s,p⟩
 ·simp only[Value.slice.injEq] at e;omega
 ·simp only[Value.slice.injEq] at d;obtain⟨rfl,rfl,rfl⟩:=d;refine⟨g,cur,rfl,k,f,by omega,λi j l m=>?_⟩;have c:cur.toList[i*8+j]?=(cellsC xs)[i*8+j]?:=by rw[← p,List.getElem?_take_of_lt (by omega)]
  rw[Array.getElem?_toList] at c;rw[c];exact cellsC_at xs i j l m
theorem cuA_of{x:Cu}{a:Ac}(h:Nums x a):∃dp dn dc sp sn sc,x=⟨a.me,a.rv,a.nx,a.mo,a.bo,a.fr,dp,dn,dc,sp,sn,sc⟩:=by
 cases x;obtain⟨b,c,d,e,f,g⟩:=h;simp only at b c d e f g;subst b c d e f g;exact⟨_,_,_,_,_,_,rfl⟩
theorem first_of{bk:List Cm}{me at_:Int}(hl:xs.length=bk.length)(hn:∀i,i<xs.length→Nums (xs.getD i cu0) (bk.getD i cm0).a)(h:FoundIs xs me at_):(∃k,FirstAt bk me k∧at_=(k:Int))∨(NoneAt bk me∧at_=-1):=by
 rcases h with⟨k,d,e,c,rfl⟩|⟨c,rfl⟩
 ·exact .inl ⟨k,⟨by rw[← hl];exact d,by rw[← (hn k d).1];exact e,λj b=>by rw[← (hn j (by omega)).1];exact c j b⟩,rfl⟩
 ·exact .inr ⟨λj b=>by rw[← (hn j (by rw[hl];exact b)).1];exact c j (by rw[hl];exact b),rfl⟩
open acc (OweIs SellIs GrantIs RekeyIs)
def cuA(a:Ac)(dp:Option Addr)(dn dc:Nat)(sp:Option Addr)(sn sc:Nat):Cu:=⟨a.me,a.rv,a.nx,a.mo,a.bo,a.fr,dp,dn,dc,sp,sn,sc⟩
theorem cuA_num(a:Ac)(dp:Option Addr)(dn dc:Nat)(sp:Option Addr)(sn sc:Nat):Nums (cuA a dp dn dc sp sn sc) a:=⟨rfl,rfl,rfl,rfl,rfl,rfl⟩
def HapPost(w:World)(base:Nat)(t:Tm)(x:Cu)(c:Cm)(v:Ev)(e:Ending)(w':World):Prop:=∃x' c' f,e=.returned (.tuple #[Cu.v x',zI f])∧HapIs t c v c' f∧(f=0→Turned w w' base x x' c')∧w.grownBy w' x.sold.ownBlock
theorem grown_of{w w':World}(h:zB w w')(own:Option Nat):w.grownBy w' own:=⟨h.os,h.tape,h.output,h.size,λk a _=>h.block k a⟩
theorem acc_upd{w W:World}{g:Nat}{cs:Array Value}{ty:TypeId}{a:Option Addr}{n cap:Nat}{zs:List tar.Du}(h:tar.Came w a n cap zs)(hU:Upd w W g cs ty)(hne:0<n→∀x,a=some x→x.block≠g):tar.Came W a n cap zs:=by
 refine⟨⟨h.row.1,?_⟩,h.nil,h.room,h.bytes,h.wf⟩;rcases h.row.2 with e|⟨b,c,rfl,j⟩
 ·exact .inl e
 ·refine .inr ⟨b,c,rfl,λi k=>?_⟩;have f:=j i k;have d:b≠g:=hne (by omega) ⟨b,c,none⟩ rfl;rw[hU.cell ⟨b,c+i*2,none⟩ d rfl,hU.cell ⟨b,c+i*2+1,none⟩ d rfl];exact f
theorem drew_fresh{w:World}{base:Nat}{a:Option Addr}{n cap:Nat}{zs:List tar.Du}(h:deb.Fresh w base a n cap zs):deb.Fresh w.drew base a n cap zs:=h.below zb.drew
theorem bill_ne{l:Bi}{v:Ev}(h:l≠billOf v):¬ (l.id=v.id∧l.te=v.te∧l.de=v.de∧l.fe=v.fe∧l.pr=v.pr∧l.ch=v.ch∧l.un=v.un):=λ⟨h1,h2,h3,h4,h5,h6,h7⟩=>h (by
 cases l;unfold billOf;simp only at h1 h2 h3 h4 h5 h6 h7
 rw [h1,h2,h3,h4,h5,h6,h7])
theorem lo_upd{w W:World}{base g:Nat}{cs:Array Value}{t:TypeId}{v:Value}{l:List So}(h:Lo w base v l)(hU:Upd w W g cs t)(hg:∀k,v.ownBlock=some k→k≠g):Lo W base v l:=by
 refine⟨h.1,?_⟩;rcases h.2 with i|⟨c,a,b,d,e,f,rest⟩
 ·exact .inl i
 ·exact .inr ⟨c,a,b,d,e,by rw[hU.oth c (hg c (by rw[d];rfl))];exact f,rest⟩
theorem grown_upd{w w9 W:World}{g:Nat}{cs:Array Value}{t:TypeId}{own:Option Nat}(h:w.grownBy w9 own)(hU:Upd w9 W g cs t)(hg:w.heap.size≤g):w.grownBy W own:=by
 have a:=hU.bel w.heap.size w9 hg zb;exact⟨a.os.trans h.os,a.tape.trans h.tape,a.output.trans h.output,Nat.le_trans h.size (by rw[hU.size];exact zc),λk c b=>by rw[hU.oth k (by omega)];exact h.block k c b⟩
end book
section
open Go.RowKit
theorem wp_runOp{P:Program}{o:Oper}{a:Act}{w w':World}{v:Value}{K:Act→World→Prop}{Q:Exit→Act→World→Prop}(d:Nat)(hd:o.dst=some d)(hrun:(execOp a.eval o).run P w=.ok (.value v) w')(h:K (a.put (some d) v) w'):o.wp P a w K Q:=by
 rw[← hd] at h;unfold Oper.wp;rw[hrun,Oper.upon_value];exact h
theorem wp_callOp{P:Program}{o:Oper}{a:Act}{w:World}{f:FuncId}{args:Array Value}{R:Ending→World→Prop}{K:Act→World→Prop}{Q:Exit→Act→World→Prop}(d:Nat)(hd:o.dst=some d)(hrun:(execOp a.eval o).run P w=.ok (.enter f args) w)(hc:Calls P f args w R)
  (h:∀e w',R e w'→∃v,e=.returned v∧K (a.put (some d) v) w'):o.wp P a w K Q:=by
 rw[← hd] at h;unfold Oper.wp;rw[hrun,Oper.upon_enter];refine hc.mono λe w' c=>?_;obtain⟨v,rfl,b⟩:=h e w' c;exact b
end
namespace vnd
open cell (Wr RowU RowW)
open Go.RowKit
def WrGot(w:World)(R:List Wr→Int→Prop)(e:Ending)(w':World):Prop:=∃p m cp ls f,e=.returned (.tuple #[.slice p m cp,zI f])∧R ls f∧RowW w' p m ls∧(∀x,p=some x→w.heap.size≤x.block)∧m≤cp∧m≤100000∧zB w w'
end vnd
namespace rcp
open Go.RowKit
def Rc.cs(r:Rc):Array Value:=#[zI r.me,zI r.id,zI r.te,zI r.de,zI r.fe,zI r.pr,zI r.ch,zI r.un,.string ⟨r.tk.toArray⟩]
def Rc.v(r:Rc):Value:=.agg r.cs
end rcp
namespace acc
open tar (Du du0 Came RowD Ld PairT)
open Go.RowKit
set_option maxRecDepth 100000
set_option maxHeartbeats 8000000 in
theorem rrekeyed(x : Ac)(p : Option Addr)(len cap : Nat)(w : World)(h : RowD w p len x.ds)(hl : len ≤ maxLen): Calls Tryz.prog 24 #[.agg #[.int .i64 x.me, .int .i64 x.rv, .int .i64 x.nx, .int .i64 x.mo, .int .i64 x.bo, .int .i64 x.fr, .slice p len cap]] w λe w' => BPost w (RekeyIs x) e w' := by
 by_cases hm : AMay x
 ·have HM := zh hm
  have hdm := hm.1
  have hnx := hm.2.2.2.1
  have hrv := hm.2.2.1
  obtain⟨W0, HWW, H0d, H0r, H0l, H0B, hs0⟩ := sh3 w #[.int .i64 x.me, .int .i64 x.rv, .int .i64 x.nx, .int .i64 x.mo, .int .i64 x.bo, .int .i64 x.fr, .slice p len cap] 55 #[.int .i64 0, .int .i64 0, .int .i64 0, .int .i64 0, .int .i64 0, .int .i64 0, .slice none 0 0] 55 #[.int .i64 0, .int .i64 0, .int .i64 0, .int .i64 0, .int .i64 0, .int .i64 0, .int .i64 0] 33
  have H0R := zh (h.below H0B.out)
  go_enter Tryz.func24, Tryz.ntmps24
  go_upto_region 1 with fail
  rw[HWW.out]
  have HAM : Hid (zC 44 #[.agg #[.int .i64 x.me, .int .i64 x.rv, .int .i64 x.nx, .int .i64 x.mo, .int .i64 x.bo, .int .i64 x.fr, .slice p len cap]] W0 λe w' => e=.returned (.bool true) ∧ zB W0 w') := ramay x p len cap _ H0R.out hl hm
  go_wp2_with refine zw ?_
  refine HAM.out.mono ?_
  rintro e w1 ⟨rfl, hb1⟩
  obtain⟨H1d, H1r, H1l⟩ := zn3 hb1 H0d H0r H0l
  have H1R := zh (H0R.out.below hb1)
  have H1B := shB H0B hb1
  have hsw1 := hb1.size
  clear hb1
  clear hm
  by_cases h1 : x.rv<15
  ·have d1 : decide (15 ≤ x.rv) = false := decide_eq_false (by omega)
   by_cases h2 : x.nx ≤ 1048575
   ·have d2 : (x.nx==1048576) = false := by simp; omega
    have HCP := zh (rcopy x p len cap w1 H1R.out hdm)
    have qd1 := H1d.out.cell 1
    have qd2 := H1d.out.cell 2
    go_wp2_with refine zw ?_
    refine HCP.out.mono ?_
    rintro e w3 ⟨p3, cap3, rfl, hf3, hb3⟩
    obtain⟨H2d, H2r, H2l⟩ := zn3 hb3 H1d H1r H1l
    have H2R := zh (H1R.out.below hb3)
    have H2B := shB H1B hb3
    have hsw3 := hb3.size
    clear hb3
    clear qd1 qd2
    unfold Ac.v Ac.cs
    have H3F := zh hf3
    have HUPF := zh (came_lt H3F.out.came)
    clear hf3
    obtain⟨W4, HWW, H4n, HBB, hsW4⟩ := sh1 w3 #[.int .i64 x.me, .int .i64 x.rv, .int .i64 x.nx, .int .i64 x.mo, .int .i64 x.bo, .int .i64 x.fr, .slice p3 len cap3] 55
    obtain⟨H4d, H4r, H4l⟩ := zn3 HBB.out H2d H2r H2l
    have H4F := zh (H3F.out.below HBB.out)
    have H4B := shB H2B HBB.out
    go_upto_region 8 with fail
    rw[HWW.out]
    have qd1 := H4d.out.cell 1
    go_wp2_with (first|refine zl ?_|refine zw ?_)
    intro W5 hU
    obtain⟨H5d, H5r, H5l⟩ := zk3 hU H4d H4r H4l
    have H5n := zh hU.blk
    have H5F : Hid (deb.Fresh W5 w1.heap.size p3 len cap3 x.ds) := fresh_updN H4F.out hU (λhn y hy => by have f1 := H4F.out.new hn y hy; have f2 := HUPF.out hn y hy; omega)
    have H5B := zk hU H4B
    have hsW5 := hU.size
    clear hU
    clear qd1
    have qd2 := H5d.out.cell 2
    go_wp2_with (first|refine zl ?_|refine zw ?_)
    intro W6 hU
    obtain⟨H6d, H6r, H6l⟩ := zk3 hU H5d H5r H5l
    have H6n := zh hU.blk
    have H6F : Hid (deb.Fresh W6 w1.heap.size p3 len cap3 x.ds) := fresh_updN H5F.out hU (λhn y hy => by have f1 := H5F.out.new hn y hy; have f2 := HUPF.out hn y hy; omega)
    have H6B := zk hU H5B
    have hsW6 := hU.size
    clear hU
    clear qd2
    go_upto_region 10 with fail
    refine wp_region_held_drew (S := λv => Blk v (w3.heap.size) #[.int .i64 x.me, .int .i64 (x.rv + 1), .int .i64 (x.nx + 1), .int .i64 x.mo, .int .i64 x.bo, .int .i64 x.fr, .slice p3 len cap3] 55 ∧ Blk v (w.heap.size) #[.int .i64 x.me, .int .i64 x.rv, .int .i64 x.nx, .int .i64 x.mo, .int .i64 x.bo, .int .i64 x.fr, .slice p len cap] 55) (by kernel_rfl) ⟨Blk.drew H6n.out 1, Blk.drew H6d.out 1⟩ (λhHeld => ?_)
    refine zu' 0 (.agg #[.int .i64 x.me, .int .i64 (x.rv + 1), .int .i64 (x.nx + 1), .int .i64 x.mo, .int .i64 x.bo, .int .i64 x.fr, .slice p3 len cap3]) rfl rfl (Or.inl ⟨by rfl, λv hv => by have g0 := hv.1.cell 0; have g1 := hv.1.cell 1; have g2 := hv.1.cell 2; have g3 := hv.1.cell 3; have g4 := hv.1.cell 4; have g5 := hv.1.cell 5; have g6 := hv.1.cell 6; clear hv; go_simp⟩) ?_
    refine zt' 1 (.pointer (some ⟨w.heap.size, 2, none⟩)) ?_
    refine zu' 2 (.int .i64 x.nx) rfl rfl (Or.inl ⟨by rfl, λv hv => by have g := hv.2.cell 2; clear hv; go_simp⟩) ?_
    refine zt' 3 (.agg #[.int .i64 x.nx, .int .i64 0, .int .i64 0, .int .i64 0, .int .i64 0, .int .i64 0, .int .i64 0]) ?_
    refine zo 4 λK hK => ?_
    rw[if_pos (by rfl)]
    refine wp_letOp 55 _ _ rfl (w.heap.size + 1) rfl #[.int .i64 x.me, .int .i64 (x.rv + 1), .int .i64 (x.nx + 1), .int .i64 x.mo, .int .i64 x.bo, .int .i64 x.fr, .slice p3 len cap3] rfl (by kernel_rfl) (by simp[Value.oneCell']) #[.int .i64 0, .int .i64 0, .int .i64 0, .int .i64 0, .int .i64 0, .int .i64 0, .slice none 0 0] 55 (Blk.drew H6r.out 1) rfl rfl ?_
    intro V1 hU
    have H7d := zh (hU.keep (Blk.drew H6d.out 1) (by omega))
    have H7r := zh hU.blk
    have H7l := zh (hU.keep (Blk.drew H6l.out 1) (by omega))
    have H7n := zh (hU.keep (Blk.drew H6n.out 1) (by omega))
    have H7F : Hid (deb.Fresh V1 w1.heap.size p3 len cap3 x.ds) := fresh_updN (fresh_drew H6F.out) hU (λhn y hy => by have f1 := H6F.out.new hn y hy; have f2 := HUPF.out hn y hy; omega)
    have H7B : Hid (zB w V1) := hU.bel _ _ (by omega) H6B.out.drew
    clear hU
    refine hK.out _ _ ⟨H7n.out, H7d.out⟩ (λhHeld => ?_)
    clear hK K
    refine zo 5 λK hK => ?_
    rw[if_pos (by rfl)]
    refine wp_letOp 33 _ _ rfl (w.heap.size + 1 + 1) rfl #[.int .i64 x.nx, .int .i64 0, .int .i64 0, .int .i64 0, .int .i64 0, .int .i64 0, .int .i64 0] rfl (by kernel_rfl) (by simp[Value.oneCell']) #[.int .i64 0, .int .i64 0, .int .i64 0, .int .i64 0, .int .i64 0, .int .i64 0, .int .i64 0] 33 H7l.out rfl rfl ?_
    intro V2 hU
    obtain⟨H8d, H8r⟩ := zk2 hU H7d H7r
    have H8l := zh hU.blk
    have H8n := zk1 hU H7n
    have H8F : Hid (deb.Fresh V2 w1.heap.size p3 len cap3 x.ds) := fresh_updN H7F.out hU (λhn y hy => by have f1 := H7F.out.new hn y hy; have f2 := HUPF.out hn y hy; omega)
    have H8B := zk hU H7B
    clear hU
    refine hK.out _ _ ⟨H8n.out, H8d.out⟩ (λhHeld => ?_)
    clear hK K
    refine zt' 6 (.int .i64 0) ?_
    refine wpAnyH_done (by kernel_rfl) ?_ _
    clear hHeld
    obtain⟨Rr0, Rr1, Rr2, Rr3, Rr4, Rr5, Rr6⟩ := shc7 H8r
    obtain⟨Rl0, Rl1, Rl2, Rl3, Rl4, Rl5, Rl6⟩ := shc7 H8l
    go_wp2_with fail
    exact zr (.tuple #[.agg #[.int .i64 x.me, .int .i64 (x.rv + 1), .int .i64 (x.nx + 1), .int .i64 x.mo, .int .i64 x.bo, .int .i64 x.fr, .slice p3 len cap3], .agg #[.int .i64 x.nx, .int .i64 0, .int .i64 0, .int .i64 0, .int .i64 0, .int .i64 0, .int .i64 0], .int .i64 0]) (by simp[results, Tryz.results24, Rr0.out, Rr1.out, Rr2.out, Rr3.out, Rr4.out, Rr5.out, Rr6.out, Rl0.out, Rl1.out, Rl2.out, Rl3.out, Rl4.out, Rl5.out, Rl6.out, go_sem]) ⟨⟨x.me, x.rv + 1, x.nx + 1, x.mo, x.bo, x.fr, x.ds⟩, ⟨x.nx, 0, 0, 0, 0, 0, 0⟩, p3, len, cap3, _, rfl, .inr (.inr (.inr ⟨HM.out, h1, h2, rfl, rfl, rfl⟩)), H8F.out.low (by omega), H8B.out⟩
   ·have d2 : (x.nx==1048576) = true := by simp; omega
    have HV : Hid (RekeyIs x ac0 bi0 20) :=.inr (.inr (.inl ⟨HM.out, h1, h2, rfl, rfl, rfl⟩))
    clear h2
    have q1 := H1d.out.cell 1
    have q2 := H1d.out.cell 2
    go_wp2_with (first|refine zs ?_|refine zw ?_)
    intro w1a hU
    have H2d := zk1 hU H1d
    have H2r := zh hU.blk
    have H2l := zk1 hU H1l
    have H2B := zk hU H1B
    have hsw1a := hU.size
    clear hU
    go_wp2_with (first|refine zs ?_|refine zw ?_)
    intro w1ab hU
    obtain⟨H3d, H3r⟩ := zk2 hU H2d H2r
    have H3l := zh hU.blk
    have H3B := zk hU H2B
    have hsw1ab := hU.size
    clear hU
    obtain⟨Rr0, Rr1, Rr2, Rr3, Rr4, Rr5, Rr6⟩ := shc7 H3r
    obtain⟨Rl0, Rl1, Rl2, Rl3, Rl4, Rl5, Rl6⟩ := shc7 H3l
    go_wp2_with fail
    exact zr (.tuple #[.agg #[.int .i64 0, .int .i64 0, .int .i64 0, .int .i64 0, .int .i64 0, .int .i64 0, .slice none 0 0], .agg #[.int .i64 0, .int .i64 0, .int .i64 0, .int .i64 0, .int .i64 0, .int .i64 0, .int .i64 0], .int .i64 20]) (by simp[results, Tryz.results24, Rr0.out, Rr1.out, Rr2.out, Rr3.out, Rr4.out, Rr5.out, Rr6.out, Rl0.out, Rl1.out, Rl2.out, Rl3.out, Rl4.out, Rl5.out, Rl6.out, go_sem]) ⟨ac0, bi0, none, 0, 0, _, rfl, HV.out, deb.fresh_nil _ _, H3B.out⟩
  ·have d1 : decide (15 ≤ x.rv) = true := decide_eq_true (by omega)
   have HV : Hid (RekeyIs x ac0 bi0 24) :=.inr (.inl ⟨HM.out, h1, rfl, rfl, rfl⟩)
   clear h1
   have q1 := H1d.out.cell 1
   go_wp2_with (first|refine zs ?_|refine zw ?_)
   intro w1a hU
   have H2d := zk1 hU H1d
   have H2r := zh hU.blk
   have H2l := zk1 hU H1l
   have H2B := zk hU H1B
   have hsw1a := hU.size
   clear hU
   go_wp2_with (first|refine zs ?_|refine zw ?_)
   intro w1ab hU
   obtain⟨H3d, H3r⟩ := zk2 hU H2d H2r
   have H3l := zh hU.blk
   have H3B := zk hU H2B
   have hsw1ab := hU.size
   clear hU
   obtain⟨Rr0, Rr1, Rr2, Rr3, Rr4, Rr5, Rr6⟩ := shc7 H3r
   obtain⟨Rl0, Rl1, Rl2, Rl3, Rl4, Rl5, Rl6⟩ := shc7 H3l
   go_wp2_with fail
   exact zr (.tuple #[.agg #[.int .i64 0, .int .i64 0, .int .i64 0, .int .i64 0, .int .i64 0, .int .i64 0, .slice none 0 0], .agg #[.int .i64 0, .int .i64 0, .int .i64 0, .int .i64 0, .int .i64 0, .int .i64 0, .int .i64 0], .int .i64 24]) (by simp[results, Tryz.results24, Rr0.out, Rr1.out, Rr2.out, Rr3.out, Rr4.out, Rr5.out, Rr6.out, Rl0.out, Rl1.out, Rl2.out, Rl3.out, Rl4.out, Rl5.out, Rl6.out, go_sem]) ⟨ac0, bi0, none, 0, 0, _, rfl, HV.out, deb.fresh_nil _ _, H3B.out⟩
 ·have HM := zh hm
  obtain⟨W0, HWW, H0d, H0r, H0l, H0B, hs0⟩ := sh3 w #[.int .i64 x.me, .int .i64 x.rv, .int .i64 x.nx, .int .i64 x.mo, .int .i64 x.bo, .int .i64 x.fr, .slice p len cap] 55 #[.int .i64 0, .int .i64 0, .int .i64 0, .int .i64 0, .int .i64 0, .int .i64 0, .slice none 0 0] 55 #[.int .i64 0, .int .i64 0, .int .i64 0, .int .i64 0, .int .i64 0, .int .i64 0, .int .i64 0] 33
  have H0R := zh (h.below H0B.out)
  go_enter Tryz.func24, Tryz.ntmps24
  go_upto_region 1 with fail
  rw[HWW.out]
  have HAM : Hid (zC 44 #[.agg #[.int .i64 x.me, .int .i64 x.rv, .int .i64 x.nx, .int .i64 x.mo, .int .i64 x.bo, .int .i64 x.fr, .slice p len cap]] W0 λe w' => e=.returned (.bool false) ∧ zB W0 w') := ranot x p len cap _ H0R.out hl hm
  go_wp2_with refine zw ?_
  refine HAM.out.mono ?_
  rintro e w1 ⟨rfl, hb1⟩
  obtain⟨H1d, H1r, H1l⟩ := zn3 hb1 H0d H0r H0l
  have H1R := zh (H0R.out.below hb1)
  have H1B := shB H0B hb1
  have hsw1 := hb1.size
  clear hb1
  go_wp2_with (first|refine zs ?_|refine zw ?_)
  intro w1a hU
  have H2d := zk1 hU H1d
  have H2r := zh hU.blk
  have H2l := zk1 hU H1l
  have H2B := zk hU H1B
  have hsw1a := hU.size
  clear hU
  go_wp2_with (first|refine zs ?_|refine zw ?_)
  intro w1ab hU
  obtain⟨H3d, H3r⟩ := zk2 hU H2d H2r
  have H3l := zh hU.blk
  have H3B := zk hU H2B
  have hsw1ab := hU.size
  clear hU
  obtain⟨Rr0, Rr1, Rr2, Rr3, Rr4, Rr5, Rr6⟩ := shc7 H3r
  obtain⟨Rl0, Rl1, Rl2, Rl3, Rl4, Rl5, Rl6⟩ := shc7 H3l
  go_wp2_with fail
  exact zr (.tuple #[.agg #[.int .i64 0, .int .i64 0, .int .i64 0, .int .i64 0, .int .i64 0, .int .i64 0, .slice none 0 0], .agg #[.int .i64 0, .int .i64 0, .int .i64 0, .int .i64 0, .int .i64 0, .int .i64 0, .int .i64 0], .int .i64 5]) (by simp[results, Tryz.results24, Rr0.out, Rr1.out, Rr2.out, Rr3.out, Rr4.out, Rr5.out, Rr6.out, Rl0.out, Rl1.out, Rl2.out, Rl3.out, Rl4.out, Rl5.out, Rl6.out, go_sem]) ⟨ac0, bi0, none, 0, 0, _, rfl, .inl ⟨HM.out, rfl, rfl, rfl⟩, deb.fresh_nil _ _, H3B.out⟩
end acc
namespace token
open Go.RowKit
theorem bodyOf_ok(k:Tok)(w:World)(hk:k.ok):
  Calls Tryz.prog 25 #[k.v] w λe w'=>e=.returned (.tuple #[zI (k.body:Int),zI 0])∧zB w w':=by
 have j:Hid (∀W,zC 52 #[.agg #[zI (k.c:Int),zI (k.i:Int),zI (k.a:Int),zI (k.t:Int)]] W λe w'=>e=.returned (zI 0)∧zB W w'):=λW=>by
  have:=fault_any k.c k.i k.a k.t W
  rwa [flaw_tok.2 hk] at this
 have h:Hid (zB w (w.alloc (.cells #[zI (k.c:Int),zI (k.i:Int),zI (k.a:Int),zI (k.t:Int)] 73))):=zb.alloc zc _;have l:Hid (Blk (w.alloc (.cells #[zI (k.c:Int),zI (k.i:Int),zI (k.a:Int),zI (k.t:Int)] 73)) w.heap.size #[zI (k.c:Int),zI (k.i:Int),zI (k.a:Int),zI (k.t:Int)] 73):=Blk.new _ _ _
 have g:Hid ((k.body:Int)=(k.c:Int)*2199023255552+(k.i:Int)*2097152+(k.a:Int)):=by
  show (k.body:Int)=_;unfold Tok.body;omega
 have m:=hk.c3;have n:=hk.i2;have p:=hk.a2;have A:(0:Int)≤(k.c:Int):=by omega
 have B:(0:Int)≤(k.i:Int):=by omega
 have C:(0:Int)≤(k.a:Int):=by omega
 have x:(k.c:Int)≤3:=by omega
 have y:(k.i:Int)≤1048575:=by omega
 have z:(k.a:Int)≤2097151:=by omega
 clear hk m n p;unfold Tok.v;rw[g.o];clear g;generalize (k.c:Int)=c at *;generalize (k.i:Int)=i at *;generalize (k.a:Int)=a at *;generalize (k.t:Int)=t at *;go_enter Tryz.func25,Tryz.ntmps25;go_wp2_with fail;refine(j.o _).mono ?_;rintro e q ⟨rfl,b⟩;have f:=shB h b;have d:=l.o.next b;have r:=d.cell 0;have s:=d.cell 1;have u:=d.cell 2;clear b d;go_wp2_with fail;refine bodyPost_ret (v:=.tuple #[zI (c*2199023255552+i*2097152+a),zI 0]) (by simp[results,Tryz.results25,go_sem]) rfl ⟨rfl,f.o⟩
end token
namespace words
open Go.RowKit
theorem sh_lt(v:Nat)(k:Int)(hv:v<2^64):sh v k<2^64:=by
 unfold sh;split
 ·exact Nat.lt_of_le_of_lt (Nat.div_le_self _ _) hv
 ·exact Nat.mod_lt _ (by decide)
theorem ones_lt(n:Nat)(h:n≤64):onesN n<2^64:=by
 unfold onesN;have:=Nat.pow_le_pow_right (show 0<2 by decide) h;have a:0<2^n:=Nat.two_pow_pos _;omega
theorem idx0(x y z:Int)(w:World):(Instr.index 135 (.agg #[.int .u32 x,.int .u32 y,.int .u32 z]) (zI 0)).run Tryz.prog w=.ok (.int .u32 x) w:=by kernel_rfl
theorem idx1(x y z:Int)(w:World):(Instr.index 135 (.agg #[.int .u32 x,.int .u32 y,.int .u32 z]) (zI 1)).run Tryz.prog w=.ok (.int .u32 y) w:=by kernel_rfl
theorem idx2(x y z:Int)(w:World):(Instr.index 135 (.agg #[.int .u32 x,.int .u32 y,.int .u32 z]) (zI 2)).run Tryz.prog w=.ok (.int .u32 z) w:=by kernel_rfl
theorem bits_any(a b c lo n:Nat)(w:World)(ha:a<2^32)(hb:b<2^32)(hc:c<2^32)(n0:1≤n)(n1:n≤64)(hl:lo+n≤96):
  Calls Tryz.prog 112 #[.agg #[.int .u32 (a:Int),.int .u32 (b:Int),.int .u32 (c:Int)],zI (lo:Int),zI (n:Int)] w λe w'=>e=.returned (.tuple #[.int .u64 (bitsN a b c lo n:Nat),zI 0])∧zB w w':=by
 have x:(a:Int)<4294967296:=by omega
 have y:(b:Int)<4294967296:=by omega
 have c1:(c:Int)<4294967296:=by omega
 have m:Hid (zB w (w.alloc (.cells #[.int .u32 (a:Int),.int .u32 (b:Int),.int .u32 (c:Int)] 135))):=(Below.refl _ w).alloc zc _;have h:bitsN a b c lo n=(sh a (-(lo:Int)) ||| sh b (32-(lo:Int)) ||| sh c (64-(lo:Int))) &&& onesN n:=by unfold bitsN;rw[Int.zero_sub]
 have p:Hid (bitsN a b c lo n=(sh a (-(lo:Int)) ||| sh b (32-(lo:Int)) ||| sh c (64-(lo:Int))) &&& onesN n):=h;clear h;have z:=idx0 (a:Int) (b:Int) (c:Int);have A:=idx1 (a:Int) (b:Int) (c:Int);have B:=idx2 (a:Int) (b:Int) (c:Int);go_enter Tryz.func112,Tryz.ntmps112;go_wp2_with fail;refine(isField_yes _ _ _ (by omega) (by omega) (by omega) (by omega)).mono ?_;rintro e wr ⟨rfl,rfl⟩;go_wp2_with fail;refine wp_loop_rounds 4 ?_;rw[rounds_succ];go_wp2_with fail;refine(shift_any a _ _ (by omega) (by omega) (by omega)).mono ?_;rintro e wr ⟨rfl,rfl⟩
 have r:bits .or .u64 0 ((sh a (-(lo:Int)):Nat):Int)=((sh a (-(lo:Int)):Nat):Int):=by
  have:=or64 0 (sh a (-(lo:Int))) (by decide) (sh_lt _ _ (by omega));simpa using this
 have i:sh a (-(lo:Int))<2^64:=sh_lt _ _ (by omega);generalize sh a (-(lo:Int))=g at *;go_wp2_with fail;rw[rounds_succ];go_wp2_with fail;refine(shift_any b _ _ (by omega) (by omega) (by omega)).mono ?_;rintro e wr ⟨rfl,rfl⟩;have j:sh b (32-(lo:Int))<2^64:=sh_lt _ _ (by omega);have s:=or64 g (sh b (32-(lo:Int))) i j;have d:=Nat.or_lt_two_pow i j;clear r;generalize sh b (32-(lo:Int))=l at *;go_wp2_with fail;rw[rounds_succ];go_wp2_with fail;refine(shift_any c _ _ (by omega) (by omega) (by omega)).mono ?_;rintro e wr ⟨rfl,rfl⟩;have k:sh c (64-(lo:Int))<2^64:=sh_lt _ _ (by omega);have t:=or64 (g ||| l) (sh c (64-(lo:Int))) d k;have f:=Nat.or_lt_two_pow d k;clear s;generalize sh c (64-(lo:Int))=u at *;go_wp2_with fail;rw[rounds_succ];go_wp2_with fail;refine(ones_any n _ (by omega) (by omega)).mono ?_;rintro e wr ⟨rfl,rfl⟩;have q:onesN n<2^64:=ones_lt n (by omega);have C:=and64 (g ||| l ||| u) (onesN n) f q;clear t;go_wp2_with fail;go_ret2;exact⟨by rw[p.o];rfl,m.o⟩
end words
section
open Go.RowKit
structure WQ (P : Program) (ops : Array Oper) (C : World → Prop) (Q : Act → Prop) (l : List Oper) (a : Act) : Prop where
 out : wpQuiet P ops C Q l a
variable{C : World → Prop}{ops : Array Oper}{Q : Act → Prop}{P : Program}{a : Act}
theorem wq_nil(h : Q a): WQ P ops C Q [] a := ⟨h⟩
theorem wq_step{o : Oper}{rest : List Oper}
  (h : ∀K : Act → Prop, (∀a, WQ P ops C Q rest a → K a) → if Region.wanted o (yielded ops a.tmps) then o.quiet P a C K else K (a.put o.dst undef)) : WQ P ops C Q (o::rest) a :=
 ⟨wpQuiet_step λK b => h K λa c => b a c.out⟩
theorem wq_skip{o : Oper}{rest : List Oper}(hw : Region.wanted o (yielded ops a.tmps) = false)(h : WQ P ops C Q rest (a.put o.dst undef)): WQ P ops C Q (o::rest) a := by
 refine⟨?_⟩
 unfold wpQuiet
 rw[if_neg (by rw[hw]; decide)]
 exact h.out
theorem wq_below{id : Nat}{Q : Exit → Act → World → Prop}{w : World}{l : List Oper}(hm : P.follows .mixedOrders = true)(hB : Region.lexB .any l.toArray = true)
  (h : WQ P l.toArray (λw' => ∃p : Regrown, w' = Sort.grow (redrawn w p.d) p.os) (λa' => ∀w', (∃p : Regrown, w' = Sort.grow (redrawn w p.d) p.os) → Q .normal a' w') l a) : (Code.region id l.toArray true).wp P Q a w :=
 wp_region_quiet_below hm hB h.out
end
namespace met
open Go.RowKit ora
def Alive(w:World)(a:Option Addr):Prop:=∀y,a=some y→y.block<w.heap.size
theorem Alive.none(w:World):Alive w none:=λy h=>by cases h
end met
section
open Go.RowKit
theorem run_neOp{P:Program}{o:Oper}{a:Act}{w:World}(ty rt:TypeId)(x y:Operand)(ho:o.op=.binOp .neq ty x y rt)(ca cb:Array Value)(hx:a.eval x=.agg ca)(hy:a.eval y=.agg cb)(hg:P.eqGuardType P.depth ty=false)(b:Bool)
  (hr:(Op.equalIn 10000 ty (.agg ca) (.agg cb)).run P w=.ok b w):(execOp a.eval o).run P w=.ok (.value (.bool (!b))) w:=by
 have c:(Op.equal ty (.agg ca) (.agg cb)).run P w=.ok b w:=hr;unfold execOp;simp only[ho,hx,hy];have d:∀w':World,(program:Sem Program).run P w'=.ok P w':=λ_=>rfl;simp[eqGuard,hg,binOp,c,d,Sem.run_bind]
theorem wp_neE{P:Program}{ops:Array Oper}{rest:List Oper}{o:Oper}{a:Act}{w:World}{Q:Exit→Act→World→Prop}(hw:Region.wanted o (yielded ops a.tmps)=true)(ty rt:TypeId)(x y:Operand)(ho:o.op=.binOp .neq ty x y rt)(ca cb:Array Value)(hx:a.eval x=.agg ca)(hy:a.eval y=.agg cb)(hg:P.eqGuardType P.depth ty=false)(b:Bool)
  (hr:(Op.equalIn 10000 ty (.agg ca) (.agg cb)).run P w=.ok b w) (d:Nat) (hd:o.dst=some d) (h:wpList P ops Q rest (a.put (some d) (.bool (!b))) w):wpList P ops Q (o::rest) a w:=
 wpList_step λK c=>by
  rw[if_pos hw];exact wp_runOp d hd (run_neOp ty rt x y ho ca cb hx hy hg b hr) (c _ _ h)
end
namespace book
open Go.RowKit cell
def DecGot(w:World)(l:List Int)(e:Ending)(w':World):Prop:=∃v f,e=.returned (.tuple #[Ev.v v,zI f])∧DecIs l v f∧zB w w'
def KDec:Prop:=∀(W:World)(a:Option Addr)(n cap:Nat)(l:List Int),RowU W a n l→(a=none→cap=0)→n≤cap→n*4≤140737488351232→(∀x∈l,0≤x∧x<4294967296)→zC 105 #[.slice a n cap] W λe w'=>DecGot W l e w'
end book
namespace acc
open tar (Du du0 Came RowD Ld PairT)
open Go.RowKit
theorem kcheck:KcCheck:=by
 intro w t A lt z G;have h:=G.ts;unfold Tm.v;have g:Hid (∀W,zC 66 #[zI 0,zI 100000,zI t.ff] W λe l=>e=.returned (.bool (decide (0≤t.ff∧t.ff≤100000)))∧l=W):=λW=>awithin 0 100000 t.ff W;have i:Hid (∀W,zC 66 #[zI 0,zI 10000,zI t.fb] W λe l=>e=.returned (.bool (decide (0≤t.fb∧t.fb≤10000)))∧l=W):=λW=>awithin 0 10000 t.fb W;have j:Hid (∀W,zC 66 #[zI 0,zI 10000,zI t.db] W λe l=>e=.returned (.bool (decide (0≤t.db∧t.db≤10000)))∧l=W):=λW=>awithin 0 10000 t.db W;have k:Hid (∀W,zC 66 #[zI 0,zI 2097151,zI t.al] W λe l=>e=.returned (.bool (decide (0≤t.al∧t.al≤2097151)))∧l=W):=λW=>awithin 0 2097151 t.al W;obtain⟨F,E,u,s,-⟩:=sh1 w #[.slice A lt z,zI t.ff,zI t.fb,zI t.db,zI t.al] 24;have D:Hid (zC 101 #[.slice A lt z] F λe l=>tar.ErrPost F (tar.FaultIs t.ts) e l):=tar.kcheck _ A lt z t.ts (h.below s.o);have c0:F.cell? ⟨w.heap.size,0,none⟩=some (.slice A lt z):=u.o.cell 0;clear h G;go_enter Tryz.func97,Tryz.ntmps97;go_upto_region 1 with fail
 rw[E.o];go_wp2_with fail;refine D.o.mono ?_;rintro e K ⟨f,rfl,hf,m⟩;have c:=shB s m;have C:=shN u m;have B:Hid (tar.FaultIs t.ts f):=hf;clear hf m c0;obtain⟨c0,c1,c2,H,I⟩:=scl5 C;by_cases y:f=0
 ·have x:Hid (tar.Right t.ts):=B.o.ok.1 y;subst y;by_cases n:0≤t.ff∧t.ff≤100000
  ·rw[decide_eq_true n] at g;go_wp2_with fail;refine(g.o _).mono ?_;rintro e b ⟨rfl,a⟩;subst b;by_cases p:0≤t.fb∧t.fb≤10000
   ·rw[decide_eq_true p] at i;go_wp2_with fail;refine(i.o _).mono ?_;rintro e b ⟨rfl,a⟩;subst b;by_cases q:0≤t.db∧t.db≤10000
    ·rw[decide_eq_true q] at j;go_wp2_with fail;refine(j.o _).mono ?_;rintro e b ⟨rfl,a⟩;subst b;by_cases r:0≤t.al∧t.al≤2097151
     ·rw[decide_eq_true r] at k;go_wp2_with fail;refine(k.o _).mono ?_;rintro e b ⟨rfl,a⟩;subst b;have d:Hid (TFault t 0):=.inr (.inr ⟨⟨x.o,n,p,q,r⟩,rfl⟩);clear n p q r;go_wp2_with fail;go_ret;exact⟨0,rfl,d.o,c.o⟩
     ·rw[decide_eq_false r] at k;have d:Hid (TFault t 2):=.inr (.inl ⟨x.o,λh=>r h.2.2.2,rfl⟩);clear r;go_wp2_with fail;refine(k.o _).mono ?_;rintro e b ⟨rfl,a⟩;subst b;go_wp2_with fail
      all_goals first
       |(rename_i q1 q2;exact absurd q1 (by simp[undef]))
       |(go_ret;exact⟨2,rfl,d.o,c.o⟩)
    ·rw[decide_eq_false q] at j;have d:Hid (TFault t 2):=.inr (.inl ⟨x.o,λh=>q h.2.2.1,rfl⟩);clear q;go_wp2_with fail;refine(j.o _).mono ?_;rintro e b ⟨rfl,a⟩;subst b;go_wp2_with fail
     all_goals first
      |(rename_i q1 q2;exact absurd q1 (by simp[undef]))
      |(go_ret;exact⟨2,rfl,d.o,c.o⟩)
   ·rw[decide_eq_false p] at i;have d:Hid (TFault t 2):=.inr (.inl ⟨x.o,λh=>p h.2.1,rfl⟩);clear p;go_wp2_with fail;refine(i.o _).mono ?_;rintro e b ⟨rfl,a⟩;subst b;go_wp2_with fail
    all_goals first
     |(rename_i q1 q2;exact absurd q1 (by simp[undef]))
     |(go_ret;exact⟨2,rfl,d.o,c.o⟩)
  ·rw[decide_eq_false n] at g;have d:Hid (TFault t 2):=.inr (.inl ⟨x.o,λh=>n h.1,rfl⟩);clear n;go_wp2_with fail;refine(g.o _).mono ?_;rintro e b ⟨rfl,a⟩;subst b;go_wp2_with fail
   all_goals first
    |(rename_i q1 q2;exact absurd q1 (by simp[undef]))
    |(go_ret;exact⟨2,rfl,d.o,c.o⟩)
 ·have J:(f != 0)=true:=by simpa using y
  have d:Hid (TFault t f):=.inl ⟨λh=>y (B.o.ok.2 h),B.o⟩;clear y;go_wp2_with fail;go_ret;exact⟨f,rfl,d.o,c.o⟩
def MayPost(w:World)(x:Ac)(e:Ending)(w':World):Prop:=∃r,e=.returned (.bool r)∧(r=true↔AMay x)∧zB w w'
theorem pmay(x:Ac)(p:Option Addr)(len cap:Nat)(w:World)(h:Came w p len cap x.ds):Calls Tryz.prog 64 #[.agg #[zI x.me,zI x.rv,zI x.nx,zI x.mo,zI x.bo,zI x.fr,.slice p len cap]] w λe w'=>MayPost w x e w':=by
 have g:Hid (∀W,zC 66 #[zI 0,zI 49,zI x.me] W λe w'=>e=.returned (.bool (decide (0≤x.me∧x.me≤49)))∧w'=W):=λW=>awithin 0 49 x.me W;have i:Hid (∀W,zC 66 #[zI 0,zI 15,zI x.rv] W λe w'=>e=.returned (.bool (decide (0≤x.rv∧x.rv≤15)))∧w'=W):=λW=>awithin 0 15 x.rv W;have j:Hid (∀W,zC 66 #[zI 1,zI 1048576,zI x.nx] W λe w'=>e=.returned (.bool (decide (1≤x.nx∧x.nx≤1048576)))∧w'=W):=λW=>awithin 1 1048576 x.nx W;have k:Hid (∀W,zC 66 #[zI 0,zI 2399,zI x.mo] W λe w'=>e=.returned (.bool (decide (0≤x.mo∧x.mo≤2399)))∧w'=W):=λW=>awithin 0 2399 x.mo W;have l:Hid (∀W,zC 66 #[zI 0,zI 10000000,zI x.bo] W λe w'=>e=.returned (.bool (decide (0≤x.bo∧x.bo≤10000000)))∧w'=W):=λW=>awithin 0 10000000 x.bo W;have m:Hid (∀W,zC 66 #[zI (-1),zI x.mo,zI x.fr] W λe w'=>e=.returned (.bool (decide (-1≤x.fr∧x.fr≤x.mo)))∧w'=W):=λW=>awithin (-1) x.mo x.fr W;obtain⟨F,E,r,q,-⟩:=sh1 w #[zI x.me,zI x.rv,zI x.nx,zI x.mo,zI x.bo,zI x.fr,.slice p len cap] 55;have D:Hid (zC 96 #[.slice p len cap] F λe w'=>tar.TwoPost F (deb.OwedIs x.ds) e w'):=deb.ktotal _ p len cap x.ds (h.below q.o);have H:F.cell? ⟨w.heap.size,6,none⟩=some (.slice p len cap):=r.o.cell 6;clear h;go_enter Tryz.func64,Tryz.ntmps64;go_upto_region 1 with fail
 rw[E.o];go_wp2_with fail;refine D.o.mono ?_;rintro e P ⟨O,f,rfl,hf,n⟩;have c:=shB q n;have C:=shN r n;have G:Hid (f=0↔deb.Mays x.ds):=hf.1.ok;clear hf n H;obtain⟨c0,c1,c2,K,L,M,H⟩:=scl7 C;by_cases B:f=0
 ·have I:Hid (deb.Mays x.ds):=G.o.1 B;subst B;by_cases s:0≤x.me∧x.me≤49
  ·rw[decide_eq_true s] at g;go_wp2_with fail;refine(g.o _).mono ?_;rintro e b ⟨rfl,a⟩;subst b;by_cases t:0≤x.rv∧x.rv≤15
   ·rw[decide_eq_true t] at i;go_wp2_with fail;refine(i.o _).mono ?_;rintro e b ⟨rfl,a⟩;subst b;by_cases u:1≤x.nx∧x.nx≤1048576
    ·rw[decide_eq_true u] at j;go_wp2_with fail;refine(j.o _).mono ?_;rintro e b ⟨rfl,a⟩;subst b;by_cases y:0≤x.mo∧x.mo≤2399
     ·rw[decide_eq_true y] at k;go_wp2_with fail;refine(k.o _).mono ?_;rintro e b ⟨rfl,a⟩;subst b;by_cases z:0≤x.bo∧x.bo≤10000000
      ·rw[decide_eq_true z] at l;go_wp2_with fail;refine(l.o _).mono ?_;rintro e b ⟨rfl,a⟩;subst b;by_cases A:-1≤x.fr∧x.fr≤x.mo
       ·rw[decide_eq_true A] at m;go_wp2_with fail;refine(m.o _).mono ?_;rintro e b ⟨rfl,a⟩;subst b;have J:Hid (AMay x):=⟨I.o,s,t,u,y,z,A⟩
        go_wp2_with fail;go_ret;exact⟨true,rfl,⟨λ_=>J.o,λ_=>rfl⟩,c.o⟩
       ·rw[decide_eq_false A] at m;have d:Hid (¬ AMay x):=λh=>A h.2.2.2.2.2.2;clear A;go_wp2_with fail;refine(m.o _).mono ?_;rintro e b ⟨rfl,a⟩;subst b;go_wp2_with fail
        all_goals first
         |(rename_i q1 q2;exact absurd q1 (by simp[undef]))
         |(go_ret;exact⟨false,rfl,⟨λh=>absurd h (by decide),λh=>absurd h d.o⟩,c.o⟩)
      ·rw[decide_eq_false z] at l;have d:Hid (¬ AMay x):=λh=>z h.2.2.2.2.2.1;clear z;go_wp2_with fail;refine(l.o _).mono ?_;rintro e b ⟨rfl,a⟩;subst b;go_wp2_with fail
       all_goals first
        |(rename_i q1 q2;exact absurd q1 (by simp[undef]))
        |(go_ret;exact⟨false,rfl,⟨λh=>absurd h (by decide),λh=>absurd h d.o⟩,c.o⟩)
     ·rw[decide_eq_false y] at k;have d:Hid (¬ AMay x):=λh=>y h.2.2.2.2.1;clear y;go_wp2_with fail;refine(k.o _).mono ?_;rintro e b ⟨rfl,a⟩;subst b;go_wp2_with fail
      all_goals first
       |(rename_i q1 q2;exact absurd q1 (by simp[undef]))
       |(go_ret;exact⟨false,rfl,⟨λh=>absurd h (by decide),λh=>absurd h d.o⟩,c.o⟩)
    ·rw[decide_eq_false u] at j;have d:Hid (¬ AMay x):=λh=>u h.2.2.2.1;clear u;go_wp2_with fail;refine(j.o _).mono ?_;rintro e b ⟨rfl,a⟩;subst b;go_wp2_with fail
     all_goals first
      |(rename_i q1 q2;exact absurd q1 (by simp[undef]))
      |(go_ret;exact⟨false,rfl,⟨λh=>absurd h (by decide),λh=>absurd h d.o⟩,c.o⟩)
   ·rw[decide_eq_false t] at i;have d:Hid (¬ AMay x):=λh=>t h.2.2.1;clear t;go_wp2_with fail;refine(i.o _).mono ?_;rintro e b ⟨rfl,a⟩;subst b;go_wp2_with fail
    all_goals first
     |(rename_i q1 q2;exact absurd q1 (by simp[undef]))
     |(go_ret;exact⟨false,rfl,⟨λh=>absurd h (by decide),λh=>absurd h d.o⟩,c.o⟩)
  ·rw[decide_eq_false s] at g;have d:Hid (¬ AMay x):=λh=>s h.2.1;clear s;go_wp2_with fail;refine(g.o _).mono ?_;rintro e b ⟨rfl,a⟩;subst b;go_wp2_with fail
   all_goals first
    |(rename_i q1 q2;exact absurd q1 (by simp[undef]))
    |(go_ret;exact⟨false,rfl,⟨λh=>absurd h (by decide),λh=>absurd h d.o⟩,c.o⟩)
 ·have N:(f==0)=false:=by simpa using B
  have d:Hid (¬ AMay x):=λh=>B (G.o.2 h.1);clear B;go_wp2_with fail
  all_goals first
   |(rename_i q1 q2;exact absurd q1 (by simp[undef]))
   |(go_ret;exact⟨false,rfl,⟨λh=>absurd h (by decide),λh=>absurd h d.o⟩,c.o⟩)
def KcGrant:Prop:=∀(W:World)(x:Ac)(p:Option Addr)(len cap:Nat)(t:Tm)(pt:Option Addr)(lt ct:Nat)(m:Int),ACame W x p len cap→TCame W t pt lt ct→(Lit.int .i64 m).wf=true→zC 30 #[x.v p len cap,t.v pt lt ct,zI m] W λe w'=>BPost W (GrantIs x t m) e w'
end acc
namespace words
open Go.RowKit
theorem eq1(d:Nat)(a a':Int)(w:World):(Op.equalIn (d+1) 83 (.int .u32 a) (.int .u32 a')).run Tryz.prog w=.ok (a==a') w:=by
 simp[Op.equalIn,run_underlying Tryz.underlying83,go_sem]
theorem part0(a b c:Int)(w:World):(part 83 #[.int .u32 a,.int .u32 b,.int .u32 c] 0).run Tryz.prog w=.ok (.int .u32 a) w:=by kernel_rfl
theorem part1(a b c:Int)(w:World):(part 83 #[.int .u32 a,.int .u32 b,.int .u32 c] 1).run Tryz.prog w=.ok (.int .u32 b) w:=by kernel_rfl
theorem part2(a b c:Int)(w:World):(part 83 #[.int .u32 a,.int .u32 b,.int .u32 c] 2).run Tryz.prog w=.ok (.int .u32 c) w:=by kernel_rfl
theorem eq3(a b c a' b' c':Int)(w:World):
  (Op.equalIn 10000 135 (.agg #[.int .u32 a,.int .u32 b,.int .u32 c]) (.agg #[.int .u32 a',.int .u32 b',.int .u32 c'])).run Tryz.prog w=.ok (a==a'&&(b==b'&&c==c')) w:=by
 obtain⟨i0,hi⟩:∃i,Tryz.prog.info? 83=some i:=⟨_,rfl⟩
 rw[show (10000:Nat)=9999+1 from rfl,run_equalIn_array (w:=w) 9999 _ _ Tryz.underlying135 hi,cells_word,show List.range 3=[0,1,2] from rfl];simp only[Op.eqItems,Sem.run_bind,Nat.mul_one,part0,Result.andThen_ok,show (9999:Nat)=9998+1 from rfl,eq1];by_cases d:a=a'
 ·by_cases e:b=b'
  ·by_cases f:c=c'
   ·simp[part1,part2,Sem.run_bind,eq1,d,e,f]
   ·simp[part1,part2,Sem.run_bind,eq1,d,e,f]
  ·simp[part1,Sem.run_bind,eq1,d,e]
 ·simp[d]
theorem eq3_same(x:W3)(w:World):(Op.equalIn 10000 135 (wv x) (wv x)).run Tryz.prog w=.ok true w:=by
 rw[eq3];simp
theorem eq3_other{x y:W3}(h:x≠y)(w:World):(Op.equalIn 10000 135 (wv x) (wv y)).run Tryz.prog w=.ok false w:=by
 rw[eq3];have:=agg_ne h
 congr 1
 simp;intro a b c;exact this ⟨a,b,c⟩
end words
end Go.Proofs.YtoepgdhiepedeaaGreatDoor
