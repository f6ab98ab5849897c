import Derived.Test.YtnpblpbohcegoaaGreatDoorVBTed10
import Derived.Test.YtnpblpbohcegoaaGreatDoorVBTed11
set_option linter.unusedVariables false
set_option linter.unusedSimpArgs false
set_option maxHeartbeats 4000000
set_option maxRecDepth 100000
namespace Go.Proofs.YtnpblpbohcegoaaGreatDoor
namespace rcp
open Go.RowKit
def Rc.cs (r:Rc):Array Value:=#[zI r.me,zI r.id,zI r.te,zI r.de,zI r.fe,zI r.pr,zI r.ch,zI r.un,.string ⟨r.tk.toArray⟩]
def Rc.v (r:Rc):Value:= .agg r.cs
end rcp
namespace book
open Go.RowKit
open acc (Ac Tm Bi APost BPost TFault TRight OpenIs)
def Ev.cl (x:Ev):List Value:=[zI x.kd,zI x.me,zI x.mo,zI x.id,zI x.te,zI x.de,zI x.fe,zI x.pr,zI x.ch,zI x.un,zI x.tg,zI x.ow,zI x.bp]
def RowE (w:World) (a:Option Addr) (n:Nat) (l:List Ev):Prop:=l.length=n∧(n=0∨∃ b off,a=some ⟨b,off,none⟩∧b<w.heap.size∧∀ i j,i<n→j<13→w.cell? ⟨b,off+i*13+j,none⟩=(l.getD i ev0).cl[j]?)
theorem putAll_get (vs:List Value):∀ (o:Nat) (cs:Array Value) (j:Nat),o+vs.length≤cs.size→(putAll cs o vs)[j]?=if o≤j∧j<o+vs.length then vs[j - o]? else cs[j]?:=by
 induction vs with
 | nil=>intro o cs j _;rw [if_neg (by simp only [List.length_nil];omega)];rfl
 | cons v r ih=>
  intro o cs j h;simp only [List.length_cons] at h;rw [putAll,ih (o+1) _ j (by simp;omega)];by_cases h1:o+1≤j∧j<o+1+r.length
  ·rw [if_pos h1,if_pos (by simp;omega),show j - o=(j - (o+1))+1 by omega,List.getElem?_cons_succ]
  ·rw [if_neg h1];by_cases h2:j=o
   ·subst h2;rw [if_pos (by simp only [List.length_cons];omega),Nat.sub_self];simp [show j<cs.size by omega]
   ·rw [if_neg (by simp;omega),Array.getElem?_setIfInBounds_ne (by omega)]
theorem putAll_size (vs:List Value):∀ (o:Nat) (cs:Array Value),(putAll cs o vs).size=cs.size:=by
 induction vs with
 | nil=>intro o cs;rfl
 | cons v r ih=>intro o cs;rw [putAll,ih];simp
theorem cellsC_get (xs:List Cu) (j:Nat):(cellsC xs)[j]?=if j<xs.length*8 then (xs.getD (j / 8) cu0).cs[j % 8]? else none:=by
 by_cases h:j<xs.length*8
 ·rw [if_pos h];have:=cellsC_at xs (j / 8) (j % 8) (by omega) (by omega);rw [show j / 8*8+j % 8=j by omega] at this;exact this
 ·rw [if_neg h,List.getElem?_eq_none (by rw [cellsC_len];omega)]
theorem lc_lies {w:World} {base n cap:Nat} {a:Option Addr} {xs:List Cu} (h:Lc w base (.slice a n cap) xs) (hn:0<n):∃ g cur,a=some ⟨g,0,none⟩∧base≤g∧Blk w g cur 54∧n*8≤cur.size∧∀ i j,i<xs.length→j<8→cur[i*8+j]?=(xs.getD i cu0).cs[j]?:=by
 rcases h.2 with ⟨h',h0⟩ | ⟨g,cap',cur,hv,hg,hc,hle,hm,hz,ht⟩
 ·simp only [Value.slice.injEq] at h';omega
 ·simp only [Value.slice.injEq] at hv;obtain ⟨rfl,rfl,rfl⟩:=hv;refine ⟨g,cur,rfl,hg,hc,by omega,fun i j hi hj=>?_⟩;have h1:cur.toList[i*8+j]?=(cellsC xs)[i*8+j]?:=by rw [← ht,List.getElem?_take_of_lt (by omega)]
  rw [Array.getElem?_toList] at h1;rw [h1];exact cellsC_at xs i j hi hj
theorem cuA_of {x:Cu} {a:Ac} (h:Nums x a):∃ dp dn dc sp sn sc,x=⟨a.me,a.rv,a.nx,a.mo,a.bo,a.fr,dp,dn,dc,sp,sn,sc⟩:=by
 cases x;obtain ⟨h1,h2,h3,h4,h5,h6⟩:=h;simp only at h1 h2 h3 h4 h5 h6;subst h1 h2 h3 h4 h5 h6;exact ⟨_,_,_,_,_,_,rfl⟩
def cellsE:List Ev→List Value
 | []=>[]
 | x :: l=>x.cl++cellsE l
theorem cellsE_len (l:List Ev):(cellsE l).length=l.length*13:=by
 induction l with
 | nil=>rfl
 | cons e l ih=>rw [cellsE,List.length_append,ih,List.length_cons];show 13+_=_;omega
theorem oneE (l:List Ev):∀ u∈cellsE l,u.oneCell'=true:=by
 induction l with
 | nil=>intro u hu;cases hu
 | cons e l ih=>
  intro u hu;rw [cellsE] at hu;rcases List.mem_append.1 hu with hu | hu
  ·simp only [Ev.cl,List.mem_cons,List.not_mem_nil,or_false] at hu;rcases hu with rfl | rfl | rfl | rfl | rfl | rfl | rfl | rfl | rfl | rfl | rfl | rfl | rfl <;> rfl
  ·exact ih u hu
theorem cellsE_at (l:List Ev) (k j:Nat) (hk:k<l.length) (hj:j<13):(cellsE l)[k*13+j]?=(l.getD k ev0).cl[j]?:=by
 induction l generalizing k with
 | nil=>simp at hk
 | cons x l ih=>
  have h8:x.cl.length=13:=rfl;cases k with
  | zero=>rw [Nat.zero_mul,Nat.zero_add,cellsE,List.getElem?_append_left (by omega)];rfl
  | succ k=>
   rw [show (k+1)*13+j=x.cl.length+(k*13+j) by omega,cellsE,List.getElem?_append_right (by omega),Nat.add_sub_cancel_left];exact ih k (by simpa using hk)
structure ECame (w:World) (a:Option Addr) (n cap:Nat) (l:List Ev):Prop where
 row:RowE w a n l
 nil:a=none→cap=0
 room:n≤cap
 bytes:n*104≤140737488351232
 wf:∀ v∈l,wf13 v
theorem evI:(Tryz.prog.info? 72).map (fun i=>(i.zero,i.size,i.bytes))=some (some (.agg ev0.cl.toArray),13,104):=by kernel_rfl
theorem bnum (kd me mo id te de fe pr ch un tg ow bp:Int) (w:World):Calls Tryz.prog 156 #[.agg #[zI kd,zI me,zI mo,zI id,zI te,zI de,zI fe,zI pr,zI ch,zI un,zI tg,zI ow,zI bp]] w fun e w'=>YN w (Numd id tg) e w':=by
 obtain ⟨W0,HWW,HX0,HB0,-⟩:=sh1 w #[zI kd,zI me,zI mo,zI id,zI te,zI de,zI fe,zI pr,zI ch,zI un,zI tg,zI ow,zI bp] 72;go_enter Tryz.func156,Tryz.ntmps156;go_upto_region 1 with fail
 rw [HWW.o];clear HWW;have c0:W0.cell? ⟨w.heap.size,0,none⟩=some (zI kd):=HX0.o.cell 0;have c1:W0.cell? ⟨w.heap.size,1,none⟩=some (zI me):=HX0.o.cell 1;have c2:W0.cell? ⟨w.heap.size,2,none⟩=some (zI mo):=HX0.o.cell 2;have c3:W0.cell? ⟨w.heap.size,3,none⟩=some (zI id):=HX0.o.cell 3;have c4:W0.cell? ⟨w.heap.size,4,none⟩=some (zI te):=HX0.o.cell 4;have c5:W0.cell? ⟨w.heap.size,5,none⟩=some (zI de):=HX0.o.cell 5;have c6:W0.cell? ⟨w.heap.size,6,none⟩=some (zI fe):=HX0.o.cell 6;have c7:W0.cell? ⟨w.heap.size,7,none⟩=some (zI pr):=HX0.o.cell 7;have c8:W0.cell? ⟨w.heap.size,8,none⟩=some (zI ch):=HX0.o.cell 8;have c9:W0.cell? ⟨w.heap.size,9,none⟩=some (zI un):=HX0.o.cell 9;have c10:W0.cell? ⟨w.heap.size,10,none⟩=some (zI tg):=HX0.o.cell 10;have c11:W0.cell? ⟨w.heap.size,11,none⟩=some (zI ow):=HX0.o.cell 11;have c12:W0.cell? ⟨w.heap.size,12,none⟩=some (zI bp):=HX0.o.cell 12;have HW0:Hid (Calls Tryz.prog 109 #[zI 1,zI 1048575,.slice (some ⟨W0.heap.size,0,none⟩) 1 1] (W0.alloc (.cells #[zI id] 3)) fun e w'=>e = .returned (.bool (decide (1≤id∧id≤1048575)))∧w'=(W0.alloc (.cells #[zI id] 3))):=bki.within_one 1 1048575 id W0 _ rfl;have HB1:Hid (Below w.heap.size w (W0.alloc (.cells #[zI id] 3))):=HB0.o.alloc HB0.o.size _;have HX1:Hid (Blk (W0.alloc (.cells #[zI id] 3)) w.heap.size #[zI kd,zI me,zI mo,zI id,zI te,zI de,zI fe,zI pr,zI ch,zI un,zI tg,zI ow,zI bp] 72):=HX0.o.alloc _;by_cases h0:1≤id∧id≤1048575
 case neg=>
  rw [decide_eq_false h0] at HW0;go_wp2_with fail;refine HW0.o.mono ?_;rintro e W ⟨rfl,hw⟩;subst hw;clear HW0;go_wp2_with fail;go_ret;exact YN.no (fun q=>h0 q.1) HB1.o
 rw [decide_eq_true h0] at HW0;go_wp2_with fail;refine HW0.o.mono ?_;rintro e W ⟨rfl,hw⟩;subst hw;clear HW0 HB0 HX0;clear c0 c1 c2 c3 c4 c5 c6 c7 c8 c9 c10 c11 c12;generalize (W0.alloc (.cells #[zI id] 3))=W1 at *;have c0:W1.cell? ⟨w.heap.size,0,none⟩=some (zI kd):=HX1.o.cell 0;have c1:W1.cell? ⟨w.heap.size,1,none⟩=some (zI me):=HX1.o.cell 1;have c2:W1.cell? ⟨w.heap.size,2,none⟩=some (zI mo):=HX1.o.cell 2;have c3:W1.cell? ⟨w.heap.size,3,none⟩=some (zI id):=HX1.o.cell 3;have c4:W1.cell? ⟨w.heap.size,4,none⟩=some (zI te):=HX1.o.cell 4;have c5:W1.cell? ⟨w.heap.size,5,none⟩=some (zI de):=HX1.o.cell 5;have c6:W1.cell? ⟨w.heap.size,6,none⟩=some (zI fe):=HX1.o.cell 6;have c7:W1.cell? ⟨w.heap.size,7,none⟩=some (zI pr):=HX1.o.cell 7;have c8:W1.cell? ⟨w.heap.size,8,none⟩=some (zI ch):=HX1.o.cell 8;have c9:W1.cell? ⟨w.heap.size,9,none⟩=some (zI un):=HX1.o.cell 9;have c10:W1.cell? ⟨w.heap.size,10,none⟩=some (zI tg):=HX1.o.cell 10;have c11:W1.cell? ⟨w.heap.size,11,none⟩=some (zI ow):=HX1.o.cell 11;have c12:W1.cell? ⟨w.heap.size,12,none⟩=some (zI bp):=HX1.o.cell 12;have HW1:Hid (Calls Tryz.prog 109 #[zI 0,zI 65535,.slice (some ⟨W1.heap.size,0,none⟩) 1 1] (W1.alloc (.cells #[zI tg] 3)) fun e w'=>e = .returned (.bool (decide (0≤tg∧tg≤65535)))∧w'=(W1.alloc (.cells #[zI tg] 3))):=bki.within_one 0 65535 tg W1 _ rfl;have HB2:Hid (Below w.heap.size w (W1.alloc (.cells #[zI tg] 3))):=HB1.o.alloc HB1.o.size _;have HX2:Hid (Blk (W1.alloc (.cells #[zI tg] 3)) w.heap.size #[zI kd,zI me,zI mo,zI id,zI te,zI de,zI fe,zI pr,zI ch,zI un,zI tg,zI ow,zI bp] 72):=HX1.o.alloc _;by_cases h1:0≤tg∧tg≤65535
 case neg=>
  rw [decide_eq_false h1] at HW1;go_wp2_with fail;refine HW1.o.mono ?_;rintro e W ⟨rfl,hw⟩;subst hw;clear HW1;go_wp2_with fail;go_ret;exact YN.no (fun q=>h1 q.2) HB2.o
 rw [decide_eq_true h1] at HW1;go_wp2_with fail;refine HW1.o.mono ?_;rintro e W ⟨rfl,hw⟩;subst hw;clear HW1 HB1 HX1;clear c0 c1 c2 c3 c4 c5 c6 c7 c8 c9 c10 c11 c12;generalize (W1.alloc (.cells #[zI tg] 3))=W2 at *;have c0:W2.cell? ⟨w.heap.size,0,none⟩=some (zI kd):=HX2.o.cell 0;have c1:W2.cell? ⟨w.heap.size,1,none⟩=some (zI me):=HX2.o.cell 1;have c2:W2.cell? ⟨w.heap.size,2,none⟩=some (zI mo):=HX2.o.cell 2;have c3:W2.cell? ⟨w.heap.size,3,none⟩=some (zI id):=HX2.o.cell 3;have c4:W2.cell? ⟨w.heap.size,4,none⟩=some (zI te):=HX2.o.cell 4;have c5:W2.cell? ⟨w.heap.size,5,none⟩=some (zI de):=HX2.o.cell 5;have c6:W2.cell? ⟨w.heap.size,6,none⟩=some (zI fe):=HX2.o.cell 6;have c7:W2.cell? ⟨w.heap.size,7,none⟩=some (zI pr):=HX2.o.cell 7;have c8:W2.cell? ⟨w.heap.size,8,none⟩=some (zI ch):=HX2.o.cell 8;have c9:W2.cell? ⟨w.heap.size,9,none⟩=some (zI un):=HX2.o.cell 9;have c10:W2.cell? ⟨w.heap.size,10,none⟩=some (zI tg):=HX2.o.cell 10;have c11:W2.cell? ⟨w.heap.size,11,none⟩=some (zI ow):=HX2.o.cell 11;have c12:W2.cell? ⟨w.heap.size,12,none⟩=some (zI bp):=HX2.o.cell 12;go_wp2_with fail;go_ret;exact YN.yes (⟨h0,h1⟩) HB2.o
theorem bunt (kd me mo id te de fe pr ch un tg ow bp:Int) (w:World):Calls Tryz.prog 157 #[.agg #[zI kd,zI me,zI mo,zI id,zI te,zI de,zI fe,zI pr,zI ch,zI un,zI tg,zI ow,zI bp]] w fun e w'=>YN w (Unt un) e w':=by
 obtain ⟨W0,HWW,HX0,HB0,-⟩:=sh1 w #[zI kd,zI me,zI mo,zI id,zI te,zI de,zI fe,zI pr,zI ch,zI un,zI tg,zI ow,zI bp] 72;go_enter Tryz.func157,Tryz.ntmps157;go_upto_region 1 with fail
 rw [HWW.o];clear HWW;have c0:W0.cell? ⟨w.heap.size,0,none⟩=some (zI kd):=HX0.o.cell 0;have c1:W0.cell? ⟨w.heap.size,1,none⟩=some (zI me):=HX0.o.cell 1;have c2:W0.cell? ⟨w.heap.size,2,none⟩=some (zI mo):=HX0.o.cell 2;have c3:W0.cell? ⟨w.heap.size,3,none⟩=some (zI id):=HX0.o.cell 3;have c4:W0.cell? ⟨w.heap.size,4,none⟩=some (zI te):=HX0.o.cell 4;have c5:W0.cell? ⟨w.heap.size,5,none⟩=some (zI de):=HX0.o.cell 5;have c6:W0.cell? ⟨w.heap.size,6,none⟩=some (zI fe):=HX0.o.cell 6;have c7:W0.cell? ⟨w.heap.size,7,none⟩=some (zI pr):=HX0.o.cell 7;have c8:W0.cell? ⟨w.heap.size,8,none⟩=some (zI ch):=HX0.o.cell 8;have c9:W0.cell? ⟨w.heap.size,9,none⟩=some (zI un):=HX0.o.cell 9;have c10:W0.cell? ⟨w.heap.size,10,none⟩=some (zI tg):=HX0.o.cell 10;have c11:W0.cell? ⟨w.heap.size,11,none⟩=some (zI ow):=HX0.o.cell 11;have c12:W0.cell? ⟨w.heap.size,12,none⟩=some (zI bp):=HX0.o.cell 12;have HW0:Hid (Calls Tryz.prog 109 #[zI 1,zI 2097151,.slice (some ⟨W0.heap.size,0,none⟩) 1 1] (W0.alloc (.cells #[zI un] 3)) fun e w'=>e = .returned (.bool (decide (1≤un∧un≤2097151)))∧w'=(W0.alloc (.cells #[zI un] 3))):=bki.within_one 1 2097151 un W0 _ rfl;have HB1:Hid (Below w.heap.size w (W0.alloc (.cells #[zI un] 3))):=HB0.o.alloc HB0.o.size _;have HX1:Hid (Blk (W0.alloc (.cells #[zI un] 3)) w.heap.size #[zI kd,zI me,zI mo,zI id,zI te,zI de,zI fe,zI pr,zI ch,zI un,zI tg,zI ow,zI bp] 72):=HX0.o.alloc _;by_cases h0:1≤un∧un≤2097151
 case neg=>
  rw [decide_eq_false h0] at HW0;go_wp2_with fail;refine HW0.o.mono ?_;rintro e W ⟨rfl,hw⟩;subst hw;clear HW0;go_wp2_with fail;go_ret;exact YN.no (fun q=>h0 q) HB1.o
 rw [decide_eq_true h0] at HW0;go_wp2_with fail;refine HW0.o.mono ?_;rintro e W ⟨rfl,hw⟩;subst hw;clear HW0 HB0 HX0;clear c0 c1 c2 c3 c4 c5 c6 c7 c8 c9 c10 c11 c12;generalize (W0.alloc (.cells #[zI un] 3))=W1 at *;have c0:W1.cell? ⟨w.heap.size,0,none⟩=some (zI kd):=HX1.o.cell 0;have c1:W1.cell? ⟨w.heap.size,1,none⟩=some (zI me):=HX1.o.cell 1;have c2:W1.cell? ⟨w.heap.size,2,none⟩=some (zI mo):=HX1.o.cell 2;have c3:W1.cell? ⟨w.heap.size,3,none⟩=some (zI id):=HX1.o.cell 3;have c4:W1.cell? ⟨w.heap.size,4,none⟩=some (zI te):=HX1.o.cell 4;have c5:W1.cell? ⟨w.heap.size,5,none⟩=some (zI de):=HX1.o.cell 5;have c6:W1.cell? ⟨w.heap.size,6,none⟩=some (zI fe):=HX1.o.cell 6;have c7:W1.cell? ⟨w.heap.size,7,none⟩=some (zI pr):=HX1.o.cell 7;have c8:W1.cell? ⟨w.heap.size,8,none⟩=some (zI ch):=HX1.o.cell 8;have c9:W1.cell? ⟨w.heap.size,9,none⟩=some (zI un):=HX1.o.cell 9;have c10:W1.cell? ⟨w.heap.size,10,none⟩=some (zI tg):=HX1.o.cell 10;have c11:W1.cell? ⟨w.heap.size,11,none⟩=some (zI ow):=HX1.o.cell 11;have c12:W1.cell? ⟨w.heap.size,12,none⟩=some (zI bp):=HX1.o.cell 12;go_wp2_with fail;go_ret;exact YN.yes (h0) HB1.o
theorem bmony (id te de fe pr ch un:Int) (w:World):Calls Tryz.prog 158 #[.agg #[zI id,zI te,zI de,zI fe,zI pr,zI ch,zI un]] w fun e w'=>YN w (Mony te de fe pr ch) e w':=by
 obtain ⟨W0,HWW,HX0,HB0,-⟩:=sh1 w #[zI id,zI te,zI de,zI fe,zI pr,zI ch,zI un] 68;go_enter Tryz.func158,Tryz.ntmps158;go_upto_region 1 with fail
 rw [HWW.o];clear HWW;obtain ⟨c0,c1,c2,c3,c4,c5,c6⟩:=scl7 HX0;have HW0:Hid (Calls Tryz.prog 109 #[zI 1,zI 100000000,.slice (some ⟨W0.heap.size,0,none⟩) 1 1] (W0.alloc (.cells #[zI te] 3)) fun e w'=>e = .returned (.bool (decide (1≤te∧te≤100000000)))∧w'=(W0.alloc (.cells #[zI te] 3))):=bki.within_one 1 100000000 te W0 _ rfl;have HB1:Hid (Below w.heap.size w (W0.alloc (.cells #[zI te] 3))):=HB0.o.alloc HB0.o.size _;have HX1:Hid (Blk (W0.alloc (.cells #[zI te] 3)) w.heap.size #[zI id,zI te,zI de,zI fe,zI pr,zI ch,zI un] 68):=HX0.o.alloc _;by_cases h0:1≤te∧te≤100000000
 case neg=>
  rw [decide_eq_false h0] at HW0;go_wp2_with fail;refine HW0.o.mono ?_;rintro e W ⟨rfl,hw⟩;subst hw;clear HW0;go_wp2_with fail;go_ret;exact YN.no (fun q=>h0 q.1) HB1.o
 rw [decide_eq_true h0] at HW0;go_wp2_with fail;refine HW0.o.mono ?_;rintro e W ⟨rfl,hw⟩;subst hw;clear HW0 HB0 HX0;clear c0 c1 c2 c3 c4 c5 c6;generalize (W0.alloc (.cells #[zI te] 3))=W1 at *;obtain ⟨c0,c1,c2,c3,c4,c5,c6⟩:=scl7 HX1;have HW1:Hid (Calls Tryz.prog 109 #[zI 0,zI 100000000,.slice (some ⟨W1.heap.size,0,none⟩) 4 4] (W1.alloc (.cells #[zI de,zI fe,zI pr,zI ch] 3)) fun e w'=>e = .returned (.bool (bki.okAll 0 100000000 [de,fe,pr,ch]))∧w'=(W1.alloc (.cells #[zI de,zI fe,zI pr,zI ch] 3))):=bki.within_any 0 100000000 _ 4 4 [de,fe,pr,ch] _ (bki.row_four W1 de fe pr ch 3) (by decide);have HB2:Hid (Below w.heap.size w (W1.alloc (.cells #[zI de,zI fe,zI pr,zI ch] 3))):=HB1.o.alloc HB1.o.size _;have HX2:Hid (Blk (W1.alloc (.cells #[zI de,zI fe,zI pr,zI ch] 3)) w.heap.size #[zI id,zI te,zI de,zI fe,zI pr,zI ch,zI un] 68):=HX1.o.alloc _;by_cases h1:bki.okAll 0 100000000 [de,fe,pr,ch]=true
 case neg=>
  rw [show bki.okAll 0 100000000 [de,fe,pr,ch]=false by simpa using h1] at HW1;go_wp2_with fail;refine HW1.o.mono ?_;rintro e W ⟨rfl,hw⟩;subst hw;clear HW1;go_wp2_with fail;go_ret;exact YN.no (fun q=>h1 (by simpa [bki.okAll] using q.2.1)) HB2.o
 rw [h1] at HW1;go_wp2_with fail;refine HW1.o.mono ?_;rintro e W ⟨rfl,hw⟩;subst hw;clear HW1 HB1 HX1;clear c0 c1 c2 c3 c4 c5 c6;generalize (W1.alloc (.cells #[zI de,zI fe,zI pr,zI ch] 3))=W2 at *;obtain ⟨c0,c1,c2,c3,c4,c5,c6⟩:=scl7 HX2;have hh:(0≤de∧de≤100000000)∧(0≤fe∧fe≤100000000)∧(0≤pr∧pr≤100000000)∧0≤ch∧ch≤100000000:=by simpa [bki.okAll] using h1
 have e1:IntKind.i64.wrap (de+fe)=de+fe:=by rw [IntKind.wrap_i64];omega
 have e2:IntKind.i64.wrap (de+fe+pr)=de+fe+pr:=by rw [IntKind.wrap_i64];omega
 have e3:IntKind.i64.wrap (de+fe+pr+ch)=de+fe+pr+ch:=by rw [IntKind.wrap_i64];omega
 have HH:Hid ((0≤de∧de≤100000000)∧(0≤fe∧fe≤100000000)∧(0≤pr∧pr≤100000000)∧0≤ch∧ch≤100000000):=hh;have H0:Hid (1≤te∧te≤100000000):=h0;clear hh h1 h0;by_cases h2:de+fe+pr+ch=te
 ·have hq:((de+fe+pr+ch) == te)=true:=by simpa using h2
  have H2:Hid (de+fe+pr+ch=te):=h2;clear h2;go_wp2_with fail;go_ret;exact YN.yes ⟨H0.o,HH.o,H2.o⟩ HB2.o
 ·have hq:((de+fe+pr+ch) == te)=false:=by simpa using h2
  have H2:Hid (¬ de+fe+pr+ch=te):=h2;clear h2;go_wp2_with fail;go_ret;exact YN.no (fun q=>H2.o q.2.2) HB2.o
theorem eqI (d:Nat) (a b:Int) (w:World):(Op.equalIn (d+1) 3 (zI a) (zI b)).run Tryz.prog w = .ok (a == b) w:=run_equalIn_int w d _ _ _ a b Tryz.underlying3
end book
namespace acc
open tar (Du)
open Go.RowKit
def KcSell:Prop:=∀ (W:World) (x:Ac) (p:Option Addr) (len cap:Nat) (t:Tm) (pt:Option Addr) (lt ct:Nat) (te m:Int),ACame W x p len cap→TCame W t pt lt ct→(Lit.int .i64 te).wf=true→(Lit.int .i64 m).wf=true→Calls Tryz.prog 81 #[x.v p len cap,t.v pt lt ct,zI te,zI m] W fun e w'=>BPost W (SellIs x t te m) e w'
def KcOpen:Prop:=∀ (W:World) (m:Int),(Lit.int .i64 m).wf=true→Calls Tryz.prog 115 #[zI m] W fun e w'=>APost W (OpenIs m) e w'
end acc
namespace book
open Go.RowKit
theorem of_caught (ge gn ga:Nat) (f0 m0 a0 f:Int) (hf:f≠0) (w:World) (he:Blk w ge #[zI f0] 27) (hn:Blk w gn #[zI m0] 3) (ha:Blk w ga #[zI a0] 3) (h1:gn≠ge) (h2:ga≠ge) :
  CallsD Tryz.prog 38 #[.pointer (some ⟨ge,0,none⟩),.pointer (some ⟨gn,0,none⟩),.pointer (some ⟨ga,0,none⟩)] (.panicking (thrown f)) w fun e u' w'=>e = .returned (.tuple #[])∧settle u' = .returning∧∃ W W2,Below w.heap.size w W∧Upd W W2 ge #[zI f] 27∧Upd W2 w' ga #[zI m0] 3:=by
 refine callsD_of_wpS Tryz.func38 rfl fun c₀ cs hu=>?_;apply wpS_seq;apply wpS_region;simp only [thrown] at hu;simp [wpOpsS,go_sem,recoverD,hu,Tryz.ntmps38,Exit.thenS];refine (reason_is f w).mono ?_;rintro e w1 ⟨rfl,hb1⟩;have hE:=he.next hb1;have hN:=hn.next hb1;have hA:=ha.next hb1;have hc:w1.cell? ⟨ge,0,none⟩=some (zI f0):=hE.cell 0;have hz:w1.frozen? ⟨ge,0,none⟩=false:=hE.free 0;have hU:Upd w1 (w1.setCell ⟨ge,0,none⟩ (zI f)) ge #[zI f] 27:=upd_cells ge _ [zI f] 0 w1 _ hE;simp [go_sem,hc,hz,Exit.thenS];generalize w1.setCell ⟨ge,0,none⟩ (zI f)=W2 at *;have hE2:=hU.blk;have hN2:=hU.keep hN h1;have hA2:=hU.keep hA h2;have q0:W2.cell? ⟨ge,0,none⟩=some (zI f):=hE2.cell 0;have q1:W2.cell? ⟨gn,0,none⟩=some (zI m0):=hN2.cell 0;have nf:(f != 0)=true:=by simpa using hf
 change Code.wpS _ _ _ { tmps:=#[.pointer (some ⟨ge,0,none⟩),.pointer (some ⟨gn,0,none⟩),.pointer (some ⟨ga,0,none⟩),refV f,zI f,undef,undef,undef],defers:=[] } _ _;apply wpS_of_wp;have HA2:Hid (Blk W2 ga #[zI a0] 3):=hA2;have HU:Hid (Upd w1 W2 ge #[zI f] 27):=hU;have HB:Hid (Below w.heap.size w w1):=hb1;clear hf he hn ha hE hN hA hc hz hU hE2 hN2 hA2 hb1 hu;go_wp2_with (first | (refine wp_let1 rfl 3 _ _ rfl ga 0 rfl .i64 m0 rfl (by kernel_rfl) #[zI a0] 3 HA2.o (by simp) ?_) | fail)
 intro W3 hU3;have HU3:Hid (Upd W2 W3 ga #[zI m0] 3):=hU3;clear hU3;go_wp2_with fail;simp [bodyPostS,results,Tryz.results38,settle];exact ⟨w1,HB.o,W2,HU.o,HU3.o⟩
theorem of_idle (ge gn ga:Nat) (f0:Int) (w:World) (he:Blk w ge #[zI f0] 27) :
  CallsD Tryz.prog 38 #[.pointer (some ⟨ge,0,none⟩),.pointer (some ⟨gn,0,none⟩),.pointer (some ⟨ga,0,none⟩)] .returning w fun e u' w'=>e = .returned (.tuple #[])∧settle u' = .returning∧∃ W,Below w.heap.size w W∧Upd W w' ge #[zI 0] 27:=by
 refine callsD_of_wpS Tryz.func38 rfl fun c₀ cs hu=>?_;apply wpS_seq;apply wpS_region;simp [wpOpsS,go_sem,recoverD,hu,Tryz.ntmps38,Exit.thenS];refine (reason_nil w).mono ?_;rintro e w1 ⟨rfl,rfl⟩;have hc:w1.cell? ⟨ge,0,none⟩=some (zI f0):=he.cell 0;have hz:w1.frozen? ⟨ge,0,none⟩=false:=he.free 0;have hU:Upd w1 (w1.setCell ⟨ge,0,none⟩ (zI 0)) ge #[zI 0] 27:=upd_cells ge _ [zI 0] 0 w1 _ he;simp [go_sem,hc,hz,Exit.thenS];generalize w1.setCell ⟨ge,0,none⟩ (zI 0)=W2 at *;have q0:W2.cell? ⟨ge,0,none⟩=some (zI 0):=hU.blk.cell 0;change Code.wpS _ _ _ { tmps:=#[.pointer (some ⟨ge,0,none⟩),.pointer (some ⟨gn,0,none⟩),.pointer (some ⟨ga,0,none⟩),.nilIface,zI 0,undef,undef,undef],defers:=[] } _ _;apply wpS_of_wp;have HU:Hid (Upd w1 W2 ge #[zI 0] 27):=hU;have HH:Hid (c₀.mode = .returning):=hu;clear he hc hz hU hu;go_wp2_with fail;have hu:=HH.o;have hU:=HU.o;simp [bodyPostS,results,Tryz.results38,hu,settle];exact ⟨.returning,(by cases c₀;simp_all),rfl,w1,Below.refl _ _,hU⟩
end book
namespace met
open Go.RowKit ora
def Alive (w:World) (a:Option Addr):Prop:=∀ y,a=some y→y.block<w.heap.size
theorem Alive.none (w:World):Alive w none:=fun y h=>by cases h
end met
namespace acc
open Go.ChangeShapes Go.WideShapes Go.ChangeAt Go.RowKit Go.Deep
theorem open_deal {H:Type} {enc:TypeId × Value→H} {W:World} {r:Reach} {b0 b1:Nat} {held:Bool} {v:Value} {d:DataW H} {ps:List MemPlace}
  (hval:Value.okWide Tryz.prog W r b0 35 v) (h:DataW.Trod enc Tryz.prog W b1 (fun _=>true) held 35 v d ps) (hs:∀ n∈d.weights Tryz.prog 35,n≤reachBytes) :
  ∃ (x:Tm) (p:Option Addr) (len cap:Nat),v=x.v p len cap∧TCame W x p len cap:=by
 have hu:=Tryz.underlying35;have hc:Tryz.prog.cellsOf 35=5:=by kernel_rfl
 have ci:Tryz.prog.cellsOf 3=1:=by kernel_rfl
 have csl:Tryz.prog.cellsOf 33=1:=by kernel_rfl
 obtain ⟨cs,rfl,hsz⟩:=okWide_struct hu hval;rw [hc] at hsz
 obtain ⟨c0,c1,c2,c3,c4,rfl⟩:∃ c0 c1 c2 c3 c4,cs=#[c0,c1,c2,c3,c4]:=by
  cases cs with
  | mk l=>match l,hsz with
   | [c0,c1,c2,c3,c4],_=>exact ⟨c0,c1,c2,c3,c4,rfl⟩
 obtain ⟨fuel,hf⟩:=h;obtain ⟨xs,n,hx,hd,_,hlen,hg⟩:=DataW.trod_struct hu hf
 match xs,hlen with
 | [y0,y1,y2,y3,y4],_=>
  have g0:=hg 0 _ rfl;have g1:=hg 1 _ rfl;have g2:=hg 2 _ rfl;have g3:=hg 3 _ rfl;have g4:=hg 4 _ rfl;simp [Value.cells,ci,csl] at g0 g1 g2 g3 g4;obtain ⟨x1,e1,-,w1⟩:=DataW.trod_int Tryz.underlying3 g1;obtain ⟨x2,e2,-,w2⟩:=DataW.trod_int Tryz.underlying3 g2;obtain ⟨x3,e3,-,w3⟩:=DataW.trod_int Tryz.underlying3 g3;obtain ⟨x4,e4,-,w4⟩:=DataW.trod_int Tryz.underlying3 g4;simp at e1 e2 e3 e4;subst e1 e2 e3 e4;rcases Deep.open_slice_pairs Tryz.underlying33 Tryz.underlying196 (by kernel_rfl) rfl rfl (by kernel_rfl) (by kernel_rfl) g0 with ⟨hcs,_⟩ | ⟨x,l,c,mm,fu,V0,V1,D0,D1,P0,P1,hcs,_,hl,hm,hmm,hy,hall⟩
  ·simp at hcs;subst hcs;exact ⟨⟨[],x1,x2,x3,x4⟩,none,0,0,rfl,⟨tar.RowD.nil _ _,(fun _=>rfl),Nat.le_refl _,by omega,(fun x hx=>by cases hx)⟩,⟨w1,w2,w3,w4⟩⟩
  ·simp at hcs;subst hcs;simp only [if_true] at hmm;subst hmm
   have hr:=tar.rowD_of (len:=l) (w:=W) (a:=x) (m:=mm) (by omega) (fun j hj=>by
    obtain ⟨k0,k1,t0,t1⟩:=hall j hj;obtain ⟨z0,hv0,_,hw0⟩:=DataW.trod_int Tryz.underlying3 t0;obtain ⟨z1,hv1,_,hw1⟩:=DataW.trod_int Tryz.underlying3 t1;simp only [List.cons.injEq,and_true] at hv0 hv1;rw [hv0] at k0;rw [hv1] at k1
    exact ⟨z0,z1,k0,k1,hw0,hw1⟩)
   obtain ⟨zs,r1,r2⟩:=hr;subst hy;obtain ⟨hd1,_⟩:=Prod.mk.inj hd;subst hd1;have h1:=hs ((l+(mm - l))*Tryz.prog.bytesOf 196) (by simp [DataW.weights,hu,DataW.weightsEach,Tryz.underlying33]);rw [show Tryz.prog.bytesOf 196=16 from by kernel_rfl] at h1;simp only [reachBytes] at h1;exact ⟨⟨zs,x1,x2,x3,x4⟩,some x,l,mm,rfl,⟨r1,(fun h=>by cases h),hl,by omega,r2⟩,⟨w1,w2,w3,w4⟩⟩
end acc
namespace rct
open Go.RowKit
theorem met_tail {P:Program} {x:String × DataW Unit} {rest:List (String × DataW Unit)} {W:World} (h:laidMet P (x :: rest) W):laidMet P rest W:=by
 obtain ⟨ps,hv,hn,hc⟩:=h;obtain ⟨g',t',cs,fuel,p,q,hg',ht',hvar,hd,hr,rfl⟩:=hv;exact ⟨q,hr,(List.nodup_append.1 hn).2.1,fun b off hm=>hc b off (List.mem_append_right _ hm)⟩
end rct
end Go.Proofs.YtnpblpbohcegoaaGreatDoor
