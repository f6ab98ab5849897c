import Derived.Test.YtnpblpbohcegoaaGreatDoorVVRry17
import Derived.Test.YtnpblpbohcegoaaGreatDoorVVRry18
set_option linter.unusedVariables false
set_option linter.unusedSimpArgs false
set_option maxHeartbeats 4000000
set_option maxRecDepth 100000
namespace Go.Proofs.YtnpblpbohcegoaaGreatDoor
namespace vnd
open book (Ev ev0 Cm cm0 So so0 Sees)
open acc (Ac Tm Bi)
open ora (Pr)
open cell (Wr RowU RowW)
open rcp (Rc rc0)
open Go.RowKit
def KvCha:Prop:=∀ (W:World) (t:Tm) (pt:Option Addr) (lt ct:Nat) (a:Option Addr) (n cap:Nat) (c:List Int) (me:Int) (q:tar.Du),acc.TCame W t pt lt ct→Dk W a n cap c→(Lit.int .i64 me).wf=true→(Lit.int .i64 q.a).wf=true→(Lit.int .i64 q.b).wf=true→Calls Tryz.prog 42 #[t.v pt lt ct,.slice a n cap,zI me,.agg #[zI q.a,zI q.b]] W fun e w'=>WrGot W (ChaIs t c me q.a q.b) e w'
end vnd
namespace cell
open Go.RowKit
def GaveC (w:World) (zs:List Int) (c:Int) (e:Ending) (w':World):Prop:=
 ∃ a cap,e = .returned (.tuple #[.slice a zs.length cap,zI c])∧RowU w' a zs.length zs∧(a=none→cap=0)∧zs.length≤cap∧Below w.heap.size w w'
theorem GaveC.mk {w w':World} {zs:List Int} {c:Int} {a:Option Addr} {n cap:Nat} (hr:RowU w' a n zs) (hn:a=none→cap=0) (hc:n≤cap) (hb:Below w.heap.size w w'):GaveC w zs c (.returned (.tuple #[.slice a n cap,zI c])) w':=by
 obtain ⟨h1,h2⟩:=hr;subst h1;exact ⟨a,cap,rfl,⟨rfl,h2⟩,hn,hc,hb⟩
end cell
namespace book
open Go.RowKit
theorem cellsE_app (l m:List Ev):cellsE (l++m)=cellsE l++cellsE m:=by
 induction l with
 | nil=>rfl
 | cons e l ih=>rw [List.cons_append,cellsE,cellsE,ih,List.append_assoc]
def Le (w:World) (base:Nat) (v:Value) (l:List Ev):Prop:=w.ownsRow base 72 13 v l.length (cellsE l)
theorem Le.alloc {w:World} {base:Nat} {v:Value} {l:List Ev} (h:Le w base v l) (o:Obj):Le (w.alloc o) base v l:=World.ownsRow.alloc h o
theorem Le.next {w w':World} {base:Nat} {v:Value} {l:List Ev} (h:Le w base v l) (hb:Below w.heap.size w w'):Le w' base v l:=by
 refine ⟨h.1,?_⟩;rcases h.2 with hn | ⟨g,cap,cur,hv,hg,hc,rest⟩
 ·exact .inl hn
 ·exact .inr ⟨g,cap,cur,hv,hg,Blk.next hc hb,rest⟩
theorem Le.came {w:World} {base:Nat} {v:Value} {l:List Ev} (h:Le w base v l) (hl:l.length≤100000) (hw:∀ x∈l,wf13 x):∃ a cap,v = .slice a l.length cap∧ECame w a l.length cap l:=by
 rcases h.2 with ⟨hv,hn⟩ | ⟨g,cap,cur,hv,_,hc,h1,_⟩
 ·exact ⟨none,0,by rw [hn];exact hv,⟨⟨rfl,.inl hn⟩,fun _=>rfl,by omega,by omega,hw⟩⟩
 ·subst hv;refine ⟨_,cap,rfl,⟨⟨rfl,.inr ⟨g,0,rfl,Blk.lt hc,fun i j hi hj=>?_⟩⟩,(fun h=>by cases h),h1,by omega,hw⟩⟩;have e1:=World.ownsRow.cellAt h (i*13+j) (by omega);rw [Nat.zero_add,e1];exact cellsE_at l i j hi hj
theorem wp_ev {w:World} {ops:Array Oper} {rest:List Oper} {o:Oper} {a:Act} {Q:Exit→Act→World→Prop} (hgd:o.guard=none) (s x:Operand)
  (ho:o.op = .call { callee:= .builtin .append,args:=#[s,x],argTypes:=#[58,58] })
  (base G:Nat) (v:Value) (l:List Ev) (r:Ev) (hs:a.eval s=v) (hx:a.eval x = .slice (some ⟨G,0,none⟩) 1 1) (hv:Le w base v l) (hu:Blk w G r.cl.toArray 72) (hn:l.length≤1000000) (hbase:base≤w.heap.size)
  (h:∀ v' w',Le w' base v' (l++[r])→w.grownBy w' v.ownBlock→wpList Tryz.prog ops Q rest (a.put o.dst v') w'):wpList Tryz.prog ops Q (o :: rest) a w:=by
 obtain ⟨i0,hi,hz0,hz1,hz2⟩:=info_parts evI;refine wpList_append_own w hgd s x 58 ho base 72 i0 (.agg ev0.cl.toArray) 13 104 Tryz.underlying58 hi hz0 hz1 hz2 rfl (by decide) v l.length (cellsE l) hs hv ⟨G,0,none⟩ 1 1 (cellsE [r]) hx (by rw [cellsE_len];rfl) ?_ (oneE [r]) (by unfold maxLen;omega) (by omega) hbase ?_
 ·intro j u hj;rw [Addr.add_lit,Nat.zero_add,hu.cell j];rw [cellsE,cellsE,List.append_nil] at hj;simpa using hj
 intro v' w' h1 h2 _;refine h v' w' ?_ h2;unfold Le;rw [List.length_append,cellsE_app];exact h1
def leftE (v:Ev):Ev:=if v.kd=2 then ⟨0,0,0,0,0,0,0,0,0,0,0,v.ow,v.bp⟩ else if v.kd=3 then ⟨0,0,0,0,v.te,v.de,v.fe,v.pr,v.ch,0,0,v.ow,v.bp⟩ else if v.kd=4 then ⟨0,0,v.mo,0,v.te,v.de,v.fe,v.pr,v.ch,v.un,0,v.ow,v.bp⟩ else if v.kd=5 then ⟨0,0,v.mo,v.id,v.te,v.de,v.fe,v.pr,v.ch,v.un,v.tg,0,0⟩ else ⟨0,0,v.mo,v.id,v.te,v.de,v.fe,v.pr,v.ch,v.un,v.tg,v.ow,v.bp⟩
def Numd (id tg:Int):Prop:=(1≤id∧id≤1048575)∧0≤tg∧tg≤65535
def Unt (un:Int):Prop:=1≤un∧un≤2097151
def Mon (mo:Int):Prop:=0≤mo∧mo≤2399
def Mony (te de fe pr ch:Int):Prop:=(1≤te∧te≤100000000)∧((0≤de∧de≤100000000)∧(0≤fe∧fe≤100000000)∧(0≤pr∧pr≤100000000)∧0≤ch∧ch≤100000000)∧de+fe+pr+ch=te
def Dbt (ow bp:Int):Prop:=(1≤ow∧ow≤1000000000)∧0≤bp∧bp≤10000
def KindR (v:Ev):Prop:=v.kd=1∨(v.kd=2∧Mon v.mo∧Numd v.id v.tg∧Unt v.un∧Mony v.te v.de v.fe v.pr v.ch)∨(v.kd=3∧Mon v.mo∧Numd v.id v.tg∧Unt v.un)∨(v.kd=4∧Numd v.id v.tg)∨(v.kd=5∧Dbt v.ow v.bp)
theorem may_iff (v:Ev):EMay v↔(0≤v.me∧v.me≤49)∧KindR v∧leftE v=ev0:=by
 obtain ⟨kd,me,mo,id,te,de,fe,pr,ch,un,tg,ow,bp⟩:=v;unfold EMay KindR leftE ev0 Numd Unt Mon Mony Dbt;simp only;by_cases h1:kd=1
 ·subst h1;simp
 by_cases h2:kd=2
 ·subst h2;simp;intro _ _;constructor <;> intro h <;> omega
 by_cases h3:kd=3
 ·subst h3;simp;intro _ _;constructor <;> intro h <;> omega
 by_cases h4:kd=4
 ·subst h4;simp;intro _ _;constructor <;> intro h <;> omega
 by_cases h5:kd=5
 ·subst h5;simp;intro _ _;constructor <;> intro h <;> omega
 constructor
 ·rintro ⟨_,h | h | h⟩
  ·exact absurd h.1 h1
  ·exact absurd h.1 h5
  ·have:=h.1;omega
 ·rintro ⟨_,h | h | h | h | h,_⟩
  ·exact absurd h h1
  ·exact absurd h.1 h2
  ·exact absurd h.1 h3
  ·exact absurd h.1 h4
  ·exact absurd h.1 h5
theorem kind_2 {v:Ev} (h:v.kd=2):KindR v↔Mon v.mo∧Numd v.id v.tg∧Unt v.un∧Mony v.te v.de v.fe v.pr v.ch:=by simp [KindR,h]
theorem kind_3 {v:Ev} (h:v.kd=3):KindR v↔Mon v.mo∧Numd v.id v.tg∧Unt v.un:=by simp [KindR,h]
theorem kind_4 {v:Ev} (h:v.kd=4):KindR v↔Numd v.id v.tg:=by simp [KindR,h]
theorem kind_5 {v:Ev} (h:v.kd=5):KindR v↔Dbt v.ow v.bp:=by simp [KindR,h]
def YN (w:World) (P:Prop) (e:Ending) (w':World):Prop:=∃ B,e = .returned (.bool B)∧(B=true↔P)∧Below w.heap.size w w'
theorem YN.yes {w w':World} {P:Prop} (h:P) (hb:Below w.heap.size w w'):YN w P (.returned (.bool true)) w':=⟨true,rfl,⟨fun _=>h,fun _=>rfl⟩,hb⟩
theorem YN.no {w w':World} {P:Prop} (h:¬ P) (hb:Below w.heap.size w w'):YN w P (.returned (.bool false)) w':=⟨false,rfl,⟨fun q=>(by cases q),fun q=>absurd q h⟩,hb⟩
theorem bnum (kd me mo id te de fe pr ch un tg ow bp:Int) (w:World):Calls Tryz.prog 156 #[.agg #[zI kd,zI me,zI mo,zI id,zI te,zI de,zI fe,zI pr,zI ch,zI un,zI tg,zI ow,zI bp]] w fun e w'=>YN w (Numd id tg) e w':=by
 obtain ⟨W0,HWW,HX0,HB0,-⟩:=sh1 w #[zI kd,zI me,zI mo,zI id,zI te,zI de,zI fe,zI pr,zI ch,zI un,zI tg,zI ow,zI bp] 72;go_enter Tryz.func156,Tryz.ntmps156;go_upto_region 1 with fail
 rw [HWW.o];clear HWW;have c0:W0.cell? ⟨w.heap.size,0,none⟩=some (zI kd):=HX0.o.cell 0;have c1:W0.cell? ⟨w.heap.size,1,none⟩=some (zI me):=HX0.o.cell 1;have c2:W0.cell? ⟨w.heap.size,2,none⟩=some (zI mo):=HX0.o.cell 2;have c3:W0.cell? ⟨w.heap.size,3,none⟩=some (zI id):=HX0.o.cell 3;have c4:W0.cell? ⟨w.heap.size,4,none⟩=some (zI te):=HX0.o.cell 4;have c5:W0.cell? ⟨w.heap.size,5,none⟩=some (zI de):=HX0.o.cell 5;have c6:W0.cell? ⟨w.heap.size,6,none⟩=some (zI fe):=HX0.o.cell 6;have c7:W0.cell? ⟨w.heap.size,7,none⟩=some (zI pr):=HX0.o.cell 7;have c8:W0.cell? ⟨w.heap.size,8,none⟩=some (zI ch):=HX0.o.cell 8;have c9:W0.cell? ⟨w.heap.size,9,none⟩=some (zI un):=HX0.o.cell 9;have c10:W0.cell? ⟨w.heap.size,10,none⟩=some (zI tg):=HX0.o.cell 10;have c11:W0.cell? ⟨w.heap.size,11,none⟩=some (zI ow):=HX0.o.cell 11;have c12:W0.cell? ⟨w.heap.size,12,none⟩=some (zI bp):=HX0.o.cell 12;have HW0:Hid (Calls Tryz.prog 109 #[zI 1,zI 1048575,.slice (some ⟨W0.heap.size,0,none⟩) 1 1] (W0.alloc (.cells #[zI id] 3)) fun e w'=>e = .returned (.bool (decide (1≤id∧id≤1048575)))∧w'=(W0.alloc (.cells #[zI id] 3))):=bki.within_one 1 1048575 id W0 _ rfl;have HB1:Hid (Below w.heap.size w (W0.alloc (.cells #[zI id] 3))):=HB0.o.alloc HB0.o.size _;have HX1:Hid (Blk (W0.alloc (.cells #[zI id] 3)) w.heap.size #[zI kd,zI me,zI mo,zI id,zI te,zI de,zI fe,zI pr,zI ch,zI un,zI tg,zI ow,zI bp] 72):=HX0.o.alloc _;by_cases h0:1≤id∧id≤1048575
 case neg=>
  rw [decide_eq_false h0] at HW0;go_wp2_with fail;refine HW0.o.mono ?_;rintro e W ⟨rfl,hw⟩;subst hw;clear HW0;go_wp2_with fail;go_ret;exact YN.no (fun q=>h0 q.1) HB1.o
 rw [decide_eq_true h0] at HW0;go_wp2_with fail;refine HW0.o.mono ?_;rintro e W ⟨rfl,hw⟩;subst hw;clear HW0 HB0 HX0;clear c0 c1 c2 c3 c4 c5 c6 c7 c8 c9 c10 c11 c12;generalize (W0.alloc (.cells #[zI id] 3))=W1 at *;have c0:W1.cell? ⟨w.heap.size,0,none⟩=some (zI kd):=HX1.o.cell 0;have c1:W1.cell? ⟨w.heap.size,1,none⟩=some (zI me):=HX1.o.cell 1;have c2:W1.cell? ⟨w.heap.size,2,none⟩=some (zI mo):=HX1.o.cell 2;have c3:W1.cell? ⟨w.heap.size,3,none⟩=some (zI id):=HX1.o.cell 3;have c4:W1.cell? ⟨w.heap.size,4,none⟩=some (zI te):=HX1.o.cell 4;have c5:W1.cell? ⟨w.heap.size,5,none⟩=some (zI de):=HX1.o.cell 5;have c6:W1.cell? ⟨w.heap.size,6,none⟩=some (zI fe):=HX1.o.cell 6;have c7:W1.cell? ⟨w.heap.size,7,none⟩=some (zI pr):=HX1.o.cell 7;have c8:W1.cell? ⟨w.heap.size,8,none⟩=some (zI ch):=HX1.o.cell 8;have c9:W1.cell? ⟨w.heap.size,9,none⟩=some (zI un):=HX1.o.cell 9;have c10:W1.cell? ⟨w.heap.size,10,none⟩=some (zI tg):=HX1.o.cell 10;have c11:W1.cell? ⟨w.heap.size,11,none⟩=some (zI ow):=HX1.o.cell 11;have c12:W1.cell? ⟨w.heap.size,12,none⟩=some (zI bp):=HX1.o.cell 12;have HW1:Hid (Calls Tryz.prog 109 #[zI 0,zI 65535,.slice (some ⟨W1.heap.size,0,none⟩) 1 1] (W1.alloc (.cells #[zI tg] 3)) fun e w'=>e = .returned (.bool (decide (0≤tg∧tg≤65535)))∧w'=(W1.alloc (.cells #[zI tg] 3))):=bki.within_one 0 65535 tg W1 _ rfl;have HB2:Hid (Below w.heap.size w (W1.alloc (.cells #[zI tg] 3))):=HB1.o.alloc HB1.o.size _;have HX2:Hid (Blk (W1.alloc (.cells #[zI tg] 3)) w.heap.size #[zI kd,zI me,zI mo,zI id,zI te,zI de,zI fe,zI pr,zI ch,zI un,zI tg,zI ow,zI bp] 72):=HX1.o.alloc _;by_cases h1:0≤tg∧tg≤65535
 case neg=>
  rw [decide_eq_false h1] at HW1;go_wp2_with fail;refine HW1.o.mono ?_;rintro e W ⟨rfl,hw⟩;subst hw;clear HW1;go_wp2_with fail;go_ret;exact YN.no (fun q=>h1 q.2) HB2.o
 rw [decide_eq_true h1] at HW1;go_wp2_with fail;refine HW1.o.mono ?_;rintro e W ⟨rfl,hw⟩;subst hw;clear HW1 HB1 HX1;clear c0 c1 c2 c3 c4 c5 c6 c7 c8 c9 c10 c11 c12;generalize (W1.alloc (.cells #[zI tg] 3))=W2 at *;have c0:W2.cell? ⟨w.heap.size,0,none⟩=some (zI kd):=HX2.o.cell 0;have c1:W2.cell? ⟨w.heap.size,1,none⟩=some (zI me):=HX2.o.cell 1;have c2:W2.cell? ⟨w.heap.size,2,none⟩=some (zI mo):=HX2.o.cell 2;have c3:W2.cell? ⟨w.heap.size,3,none⟩=some (zI id):=HX2.o.cell 3;have c4:W2.cell? ⟨w.heap.size,4,none⟩=some (zI te):=HX2.o.cell 4;have c5:W2.cell? ⟨w.heap.size,5,none⟩=some (zI de):=HX2.o.cell 5;have c6:W2.cell? ⟨w.heap.size,6,none⟩=some (zI fe):=HX2.o.cell 6;have c7:W2.cell? ⟨w.heap.size,7,none⟩=some (zI pr):=HX2.o.cell 7;have c8:W2.cell? ⟨w.heap.size,8,none⟩=some (zI ch):=HX2.o.cell 8;have c9:W2.cell? ⟨w.heap.size,9,none⟩=some (zI un):=HX2.o.cell 9;have c10:W2.cell? ⟨w.heap.size,10,none⟩=some (zI tg):=HX2.o.cell 10;have c11:W2.cell? ⟨w.heap.size,11,none⟩=some (zI ow):=HX2.o.cell 11;have c12:W2.cell? ⟨w.heap.size,12,none⟩=some (zI bp):=HX2.o.cell 12;go_wp2_with fail;go_ret;exact YN.yes (⟨h0,h1⟩) HB2.o
theorem bunt (kd me mo id te de fe pr ch un tg ow bp:Int) (w:World):Calls Tryz.prog 157 #[.agg #[zI kd,zI me,zI mo,zI id,zI te,zI de,zI fe,zI pr,zI ch,zI un,zI tg,zI ow,zI bp]] w fun e w'=>YN w (Unt un) e w':=by
 obtain ⟨W0,HWW,HX0,HB0,-⟩:=sh1 w #[zI kd,zI me,zI mo,zI id,zI te,zI de,zI fe,zI pr,zI ch,zI un,zI tg,zI ow,zI bp] 72;go_enter Tryz.func157,Tryz.ntmps157;go_upto_region 1 with fail
 rw [HWW.o];clear HWW;have c0:W0.cell? ⟨w.heap.size,0,none⟩=some (zI kd):=HX0.o.cell 0;have c1:W0.cell? ⟨w.heap.size,1,none⟩=some (zI me):=HX0.o.cell 1;have c2:W0.cell? ⟨w.heap.size,2,none⟩=some (zI mo):=HX0.o.cell 2;have c3:W0.cell? ⟨w.heap.size,3,none⟩=some (zI id):=HX0.o.cell 3;have c4:W0.cell? ⟨w.heap.size,4,none⟩=some (zI te):=HX0.o.cell 4;have c5:W0.cell? ⟨w.heap.size,5,none⟩=some (zI de):=HX0.o.cell 5;have c6:W0.cell? ⟨w.heap.size,6,none⟩=some (zI fe):=HX0.o.cell 6;have c7:W0.cell? ⟨w.heap.size,7,none⟩=some (zI pr):=HX0.o.cell 7;have c8:W0.cell? ⟨w.heap.size,8,none⟩=some (zI ch):=HX0.o.cell 8;have c9:W0.cell? ⟨w.heap.size,9,none⟩=some (zI un):=HX0.o.cell 9;have c10:W0.cell? ⟨w.heap.size,10,none⟩=some (zI tg):=HX0.o.cell 10;have c11:W0.cell? ⟨w.heap.size,11,none⟩=some (zI ow):=HX0.o.cell 11;have c12:W0.cell? ⟨w.heap.size,12,none⟩=some (zI bp):=HX0.o.cell 12;have HW0:Hid (Calls Tryz.prog 109 #[zI 1,zI 2097151,.slice (some ⟨W0.heap.size,0,none⟩) 1 1] (W0.alloc (.cells #[zI un] 3)) fun e w'=>e = .returned (.bool (decide (1≤un∧un≤2097151)))∧w'=(W0.alloc (.cells #[zI un] 3))):=bki.within_one 1 2097151 un W0 _ rfl;have HB1:Hid (Below w.heap.size w (W0.alloc (.cells #[zI un] 3))):=HB0.o.alloc HB0.o.size _;have HX1:Hid (Blk (W0.alloc (.cells #[zI un] 3)) w.heap.size #[zI kd,zI me,zI mo,zI id,zI te,zI de,zI fe,zI pr,zI ch,zI un,zI tg,zI ow,zI bp] 72):=HX0.o.alloc _;by_cases h0:1≤un∧un≤2097151
 case neg=>
  rw [decide_eq_false h0] at HW0;go_wp2_with fail;refine HW0.o.mono ?_;rintro e W ⟨rfl,hw⟩;subst hw;clear HW0;go_wp2_with fail;go_ret;exact YN.no (fun q=>h0 q) HB1.o
 rw [decide_eq_true h0] at HW0;go_wp2_with fail;refine HW0.o.mono ?_;rintro e W ⟨rfl,hw⟩;subst hw;clear HW0 HB0 HX0;clear c0 c1 c2 c3 c4 c5 c6 c7 c8 c9 c10 c11 c12;generalize (W0.alloc (.cells #[zI un] 3))=W1 at *;have c0:W1.cell? ⟨w.heap.size,0,none⟩=some (zI kd):=HX1.o.cell 0;have c1:W1.cell? ⟨w.heap.size,1,none⟩=some (zI me):=HX1.o.cell 1;have c2:W1.cell? ⟨w.heap.size,2,none⟩=some (zI mo):=HX1.o.cell 2;have c3:W1.cell? ⟨w.heap.size,3,none⟩=some (zI id):=HX1.o.cell 3;have c4:W1.cell? ⟨w.heap.size,4,none⟩=some (zI te):=HX1.o.cell 4;have c5:W1.cell? ⟨w.heap.size,5,none⟩=some (zI de):=HX1.o.cell 5;have c6:W1.cell? ⟨w.heap.size,6,none⟩=some (zI fe):=HX1.o.cell 6;have c7:W1.cell? ⟨w.heap.size,7,none⟩=some (zI pr):=HX1.o.cell 7;have c8:W1.cell? ⟨w.heap.size,8,none⟩=some (zI ch):=HX1.o.cell 8;have c9:W1.cell? ⟨w.heap.size,9,none⟩=some (zI un):=HX1.o.cell 9;have c10:W1.cell? ⟨w.heap.size,10,none⟩=some (zI tg):=HX1.o.cell 10;have c11:W1.cell? ⟨w.heap.size,11,none⟩=some (zI ow):=HX1.o.cell 11;have c12:W1.cell? ⟨w.heap.size,12,none⟩=some (zI bp):=HX1.o.cell 12;go_wp2_with fail;go_ret;exact YN.yes (h0) HB1.o
theorem bmony (id te de fe pr ch un:Int) (w:World):Calls Tryz.prog 158 #[.agg #[zI id,zI te,zI de,zI fe,zI pr,zI ch,zI un]] w fun e w'=>YN w (Mony te de fe pr ch) e w':=by
 obtain ⟨W0,HWW,HX0,HB0,-⟩:=sh1 w #[zI id,zI te,zI de,zI fe,zI pr,zI ch,zI un] 68;go_enter Tryz.func158,Tryz.ntmps158;go_upto_region 1 with fail
 rw [HWW.o];clear HWW;obtain ⟨c0,c1,c2,c3,c4,c5,c6⟩:=scl7 HX0;have HW0:Hid (Calls Tryz.prog 109 #[zI 1,zI 100000000,.slice (some ⟨W0.heap.size,0,none⟩) 1 1] (W0.alloc (.cells #[zI te] 3)) fun e w'=>e = .returned (.bool (decide (1≤te∧te≤100000000)))∧w'=(W0.alloc (.cells #[zI te] 3))):=bki.within_one 1 100000000 te W0 _ rfl;have HB1:Hid (Below w.heap.size w (W0.alloc (.cells #[zI te] 3))):=HB0.o.alloc HB0.o.size _;have HX1:Hid (Blk (W0.alloc (.cells #[zI te] 3)) w.heap.size #[zI id,zI te,zI de,zI fe,zI pr,zI ch,zI un] 68):=HX0.o.alloc _;by_cases h0:1≤te∧te≤100000000
 case neg=>
  rw [decide_eq_false h0] at HW0;go_wp2_with fail;refine HW0.o.mono ?_;rintro e W ⟨rfl,hw⟩;subst hw;clear HW0;go_wp2_with fail;go_ret;exact YN.no (fun q=>h0 q.1) HB1.o
 rw [decide_eq_true h0] at HW0;go_wp2_with fail;refine HW0.o.mono ?_;rintro e W ⟨rfl,hw⟩;subst hw;clear HW0 HB0 HX0;clear c0 c1 c2 c3 c4 c5 c6;generalize (W0.alloc (.cells #[zI te] 3))=W1 at *;obtain ⟨c0,c1,c2,c3,c4,c5,c6⟩:=scl7 HX1;have HW1:Hid (Calls Tryz.prog 109 #[zI 0,zI 100000000,.slice (some ⟨W1.heap.size,0,none⟩) 4 4] (W1.alloc (.cells #[zI de,zI fe,zI pr,zI ch] 3)) fun e w'=>e = .returned (.bool (bki.okAll 0 100000000 [de,fe,pr,ch]))∧w'=(W1.alloc (.cells #[zI de,zI fe,zI pr,zI ch] 3))):=bki.within_any 0 100000000 _ 4 4 [de,fe,pr,ch] _ (bki.row_four W1 de fe pr ch 3) (by decide);have HB2:Hid (Below w.heap.size w (W1.alloc (.cells #[zI de,zI fe,zI pr,zI ch] 3))):=HB1.o.alloc HB1.o.size _;have HX2:Hid (Blk (W1.alloc (.cells #[zI de,zI fe,zI pr,zI ch] 3)) w.heap.size #[zI id,zI te,zI de,zI fe,zI pr,zI ch,zI un] 68):=HX1.o.alloc _;by_cases h1:bki.okAll 0 100000000 [de,fe,pr,ch]=true
 case neg=>
  rw [show bki.okAll 0 100000000 [de,fe,pr,ch]=false by simpa using h1] at HW1;go_wp2_with fail;refine HW1.o.mono ?_;rintro e W ⟨rfl,hw⟩;subst hw;clear HW1;go_wp2_with fail;go_ret;exact YN.no (fun q=>h1 (by simpa [bki.okAll] using q.2.1)) HB2.o
 rw [h1] at HW1;go_wp2_with fail;refine HW1.o.mono ?_;rintro e W ⟨rfl,hw⟩;subst hw;clear HW1 HB1 HX1;clear c0 c1 c2 c3 c4 c5 c6;generalize (W1.alloc (.cells #[zI de,zI fe,zI pr,zI ch] 3))=W2 at *;obtain ⟨c0,c1,c2,c3,c4,c5,c6⟩:=scl7 HX2;have hh:(0≤de∧de≤100000000)∧(0≤fe∧fe≤100000000)∧(0≤pr∧pr≤100000000)∧0≤ch∧ch≤100000000:=by simpa [bki.okAll] using h1
 have e1:IntKind.i64.wrap (de+fe)=de+fe:=by rw [IntKind.wrap_i64];omega
 have e2:IntKind.i64.wrap (de+fe+pr)=de+fe+pr:=by rw [IntKind.wrap_i64];omega
 have e3:IntKind.i64.wrap (de+fe+pr+ch)=de+fe+pr+ch:=by rw [IntKind.wrap_i64];omega
 have HH:Hid ((0≤de∧de≤100000000)∧(0≤fe∧fe≤100000000)∧(0≤pr∧pr≤100000000)∧0≤ch∧ch≤100000000):=hh;have H0:Hid (1≤te∧te≤100000000):=h0;clear hh h1 h0;by_cases h2:de+fe+pr+ch=te
 ·have hq:((de+fe+pr+ch) == te)=true:=by simpa using h2
  have H2:Hid (de+fe+pr+ch=te):=h2;clear h2;go_wp2_with fail;go_ret;exact YN.yes ⟨H0.o,HH.o,H2.o⟩ HB2.o
 ·have hq:((de+fe+pr+ch) == te)=false:=by simpa using h2
  have H2:Hid (¬ de+fe+pr+ch=te):=h2;clear h2;go_wp2_with fail;go_ret;exact YN.no (fun q=>H2.o q.2.2) HB2.o
end book
namespace words
open Go.RowKit
abbrev Wat (w:World) (G:Nat) (x:W3):Prop:=Trio w G (.int .u32 x.a) (.int .u32 x.b) (.int .u32 x.c)
theorem Trio.lt {w:World} {G:Nat} {y0 y1 y2:Value} (h:Trio w G y0 y1 y2):G<w.heap.size:=by
 by_cases hh:G<w.heap.size
 ·exact hh
 ·unfold Trio at h;rw [Array.getElem?_eq_none (by omega)] at h;cases h
theorem Trio.below {w w':World} {G:Nat} {y0 y1 y2:Value} (h:Trio w G y0 y1 y2) (hb:Below w.heap.size w w'):Trio w' G y0 y1 y2:=by
 have hlt:=h.lt;unfold Trio at *;rw [hb.block G hlt];exact h
abbrev put3 (w:World) (G:Nat) (a b c:Value):World:=((w.setCell ⟨G,0,none⟩ a).setCell ⟨G,1,none⟩ b).setCell ⟨G,2,none⟩ c
theorem Trio.put {w:World} {G:Nat} {y0 y1 y2:Value} (h:Trio w G y0 y1 y2) (a b c:Value):Trio (put3 w G a b c) G a b c:=((h.set0 a).set1 b).set2 c
theorem below_put3 {B:Nat} {w w':World} (h:Below B w w') (G:Nat) (u v x:Value) (hG:B≤G):Below B w (put3 w' G u v x):=below_set (below_set (below_set h G 0 u hG) G 1 v hG) G 2 x hG
theorem agg_ne {x y:W3} (h:x≠y):¬ (x.a=y.a∧x.b=y.b∧x.c=y.c):=fun ⟨h1,h2,h3⟩=>h (by cases x;cases y;simp_all)
theorem pow_min {j:Nat} (hj:¬ j≤64):∃ d,2 ^ j=2 ^ 64*2 ^ d:=⟨j - 64,by rw [← Nat.pow_add];congr 1;omega⟩
theorem sh_down (v j:Nat) (hj:0<j) (hv:v<2 ^ 64):((sh v (-(j:Int)):Nat):Int)=(v:Int) / 2 ^ min j 64:=by
 unfold sh;rw [if_pos (by omega),show (-(-(j:Int))).toNat=j by omega];by_cases h:j≤64
 ·rw [Nat.min_eq_left h];simp
 ·rw [Nat.min_eq_right (by omega)];have h1:v / 2 ^ j=0:=Nat.div_eq_of_lt (Nat.lt_of_lt_of_le hv (Nat.pow_le_pow_right (by decide) (by omega)));rw [h1];omega
theorem sh_up (v:Nat) (k:Int) (hk:0≤k):((sh v k:Nat):Int)=IntKind.u64.wrap ((v:Int)*2 ^ min k.toNat 64):=by
 unfold sh;rw [if_neg (by omega),IntKind.wrap_u64];by_cases h:k.toNat≤64
 ·rw [Nat.min_eq_left h];simp
 ·rw [Nat.min_eq_right (by omega)];obtain ⟨d,hd⟩:=pow_min h;rw [hd,Nat.mul_left_comm,Nat.mul_mod_right];omega
theorem ones_shift (n:Nat) (h0:1≤n) (h1:n≤64):((onesN n:Nat):Int)=18446744073709551615 / 2 ^ (64 - n):=by
 have e:(18446744073709551615:Int) / 2 ^ (64 - n)=((18446744073709551615 / 2 ^ (64 - n):Nat):Int):=by simp
 rw [e]
 congr 1
 unfold onesN;have hp:2 ^ 64=2 ^ n*2 ^ (64 - n):=by rw [← Nat.pow_add];congr 1;omega
 have h2:0<2 ^ (64 - n):=Nat.two_pow_pos _;have h3:0<2 ^ n:=Nat.two_pow_pos _;symm;apply Nat.div_eq_of_lt_le
 ·have:(2 ^ n - 1)*2 ^ (64 - n)=2 ^ 64 - 2 ^ (64 - n):=by rw [hp,Nat.sub_mul,Nat.one_mul]
  omega
 ·have:(2 ^ n - 1+1)*2 ^ (64 - n)=2 ^ 64:=by rw [hp,Nat.sub_add_cancel h3]
  omega
theorem shift_any (v:Nat) (k:Int) (w:World) (hv:v<2 ^ 64) (k0:-96≤k) (k1:k≤96) :
  Calls Tryz.prog 170 #[.int .u64 (v:Int),zI k] w fun e w'=>e = .returned (.int .u64 (sh v k:Nat))∧w'=w:=by
 by_cases h:k<0
 ·obtain ⟨j,rfl⟩:∃ j:Nat,k=-(j:Int):=⟨(-k).toNat,by omega⟩
  have hj:0<j:=by omega
  have e:=sh_down v j hj hv;have e2:-(-(j:Int))=(j:Int):=by omega
  rw [e];clear e;go_enter Tryz.func170,Tryz.ntmps170;go_wp2;go_ret;exact ⟨rfl,rfl⟩
 ·have e:=sh_up v k (by omega);rw [e];clear e;go_enter Tryz.func170,Tryz.ntmps170;go_wp2;go_ret;exact ⟨rfl,rfl⟩
theorem ones_any (n:Nat) (w:World) (h0:1≤n) (h1:n≤64) :
  Calls Tryz.prog 168 #[zI (n:Int)] w fun e w'=>e = .returned (.int .u64 (onesN n:Nat))∧w'=w:=by
 rw [ones_shift n h0 h1];go_enter Tryz.func168,Tryz.ntmps168;go_wp2;go_ret;exact ⟨rfl,rfl⟩
theorem isField_yes (lo n:Int) (w:World) (h0:0≤lo) (h1:1≤n) (h2:n≤64) (h3:lo≤96 - n) :
  Calls Tryz.prog 167 #[zI lo,zI n] w fun e w'=>e = .returned (.bool true)∧w'=w:=by
 go_enter Tryz.func167,Tryz.ntmps167;go_wp2;go_ret;exact ⟨rfl,rfl⟩
end words
end Go.Proofs.YtnpblpbohcegoaaGreatDoor
