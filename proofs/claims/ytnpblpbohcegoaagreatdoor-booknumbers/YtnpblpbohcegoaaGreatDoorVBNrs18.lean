import Derived.Test.YtnpblpbohcegoaaGreatDoorVBNrs14
import Derived.Test.YtnpblpbohcegoaaGreatDoorVBNrs16
set_option linter.unusedVariables false
set_option linter.unusedSimpArgs false
set_option maxHeartbeats 4000000
set_option maxRecDepth 100000
namespace Go.Proofs.YtnpblpbohcegoaaGreatDoor
namespace vnd
open book (Ev ev0 Cm cm0 So so0 Sees)
open acc (Ac Tm Bi)
open ora (Pr)
open cell (Wr RowU RowW)
open rcp (Rc rc0)
open Go.RowKit
def TokGot (w:World) (R:List Wr→List Pr→Rc→Int→Prop) (e:Ending) (w':World):Prop:=∃ p m cp ls p5 n5 c5 o' r f,e = .returned (.tuple #[.slice p m cp,.agg #[.slice p5 n5 c5],rcp.Rc.v r,zI f])∧R ls o' r f∧RowW w' p m ls∧(∀ x,p=some x→w.heap.size≤x.block)∧m≤cp∧m≤100000∧ora.RowP w' p5 n5 o'∧(p5=none→c5=0)∧n5≤c5∧(∀ y,p5=some y→w.heap.size≤y.block)∧Below w.heap.size w w'
def KvCha:Prop:=∀ (W:World) (t:Tm) (pt:Option Addr) (lt ct:Nat) (a:Option Addr) (n cap:Nat) (c:List Int) (me:Int) (q:tar.Du),acc.TCame W t pt lt ct→Dk W a n cap c→(Lit.int .i64 me).wf=true→(Lit.int .i64 q.a).wf=true→(Lit.int .i64 q.b).wf=true→Calls Tryz.prog 42 #[t.v pt lt ct,.slice a n cap,zI me,.agg #[zI q.a,zI q.b]] W fun e w'=>WrGot W (ChaIs t c me q.a q.b) e w'
end vnd
namespace acc
open tar (Du du0 Came RowD Ld PairT)
open Go.RowKit
theorem rest_bd {a:Ac} {t:Tm} {te m:Int} (h:Ready a t m) (h0:1≤te) (h1:te≤100000000):(0≤paid a t te m∧paid a t te m≤te)∧(0≤fee t te∧fee t te≤100100000)∧rest a t te m=te - paid a t te m - fee t te:=by
 obtain ⟨a1,⟨b1,⟨c1,c2⟩,⟨d1,d2⟩,⟨e1,e2⟩,_⟩,r⟩:=h;have hs:=mays_sum (rolled_may a1 r).1;have h2:=rec_bd (te:=te) (db:=t.db) (by omega) h1 e1 e2;have h3:=rec_bd (te:=te) (db:=t.fb) (by omega) h1 d1 d2;refine ⟨⟨?_,?_⟩,⟨?_,?_⟩,rfl⟩
 ·show 0≤min (te*t.db / 10000) _;omega
 ·show min (te*t.db / 10000) _≤te;omega
 ·show 0≤t.ff+te*t.fb / 10000;omega
 ·show t.ff+te*t.fb / 10000≤_;omega
end acc
namespace cell
open Go.RowKit
theorem copy_run (a:Addr) (n cc g:Nat) (zs:List Int) (w:World) (hz:zs.length=n) (hr:Blk w g (arr (List.replicate n 0)) 99) (hc:∀ i,i<n→w.cell? (a.add i)=some (.int .u32 (zs.getD i 0))) :
  (Builtin.copy_ #[25,25] 3 #[.slice (some ⟨g,0,none⟩) n n,.slice (some a) n cc]).run Tryz.prog w = .ok (zI (n:Int)) (w.setRow g (arr zs)):=by
 have hrun:=run_copy_row (P:=Tryz.prog) w 25 25 3 99 g 0 n n a n cc (arr (List.replicate n 0)) 99 (zs.map (Value.int .u32)) Tryz.underlying25 (by kernel_rfl) hr (by
   rw [List.length_map,hz];exact (Nat.min_self n).symm) (by
   intro j u hu;by_cases hj:j<zs.length
   ·simp [List.getElem?_eq_getElem hj] at hu;subst hu;have:=hc j (by omega);simpa [List.getD,List.getElem?_eq_getElem hj] using this
   ·rw [List.getElem?_eq_none (by simp;omega)] at hu;cases hu) (by simp [arr,hz]) (by
   intro u hu;obtain ⟨z,_,rfl⟩:=List.mem_map.1 hu;rfl)
 rw [hrun]
 congr 2
 ·rw [List.length_map,hz]
 ·unfold arr;simp [hz]
theorem setRow_blk {w:World} {g:Nat} {c0 c1:Array Value} {t:TypeId} (h:Blk w g c0 t):Blk (w.setRow g c1) g c1 t:=setRow_heap w g _ _ t _ h
theorem written_any (a b:Option Addr) (n m c1 c2:Nat) (xs:List Int) (ls:List Wr) (w:World) (h1:RowU w a n xs) (h2:RowW w b m ls) (hn:1≤n) (hn2:n≤2048) (hm:m≤4096) (hall:allN n ls=true) :
  Calls Tryz.prog 49 #[.slice a n c1,.slice b m c2] w fun e w'=>∃ g,e = .returned (.slice (some ⟨g,0,none⟩) n n)∧RowU w' (some ⟨g,0,none⟩) n (wrt xs ls)∧Below w.heap.size w w':=by
 have hmk:∀ W:World,(Instr.makeSlice 25 (zI (n:Int)) (zI (n:Int))).run Tryz.prog W = .ok (.slice (some ⟨W.heap.size,0,none⟩) n n) (W.alloc (.cells (arr (List.replicate n 0)) 99)):=make_u32 n (by omega);obtain ⟨b1,o1,rfl,l1,hc1⟩:=h1.at (by omega);have hz:=h1.1
 have hcp:=copy_run ⟨b1,o1,none⟩ n c1 w.heap.size xs (w.alloc (.cells (arr (List.replicate n 0)) 99)) hz (Blk.new _ _ _) (fun i hi=>by
  rw [Addr.add_lit,World.cell?_alloc_lt w _ _ l1];exact hc1 i hi)
 have HG0:Hid (Blk ((w.alloc (.cells (arr (List.replicate n 0)) 99)).setRow w.heap.size (arr xs)) w.heap.size (arr xs) 99):=setRow_blk (Blk.new _ _ _);have HB0:Hid (Below w.heap.size w ((w.alloc (.cells (arr (List.replicate n 0)) 99)).setRow w.heap.size (arr xs))):=below_setRow ((Below.refl _ _).alloc (Nat.le_refl _) _) (Nat.le_refl _) _;have HR:Hid (RowW w b m ls):=h2;have HA:Hid (allN n ls=true):=hall;have HL:Hid (xs.length=n∧ls.length=m):=⟨hz,h2.1⟩
 clear h1 h2 hc1 hall hz l1;generalize arr (List.replicate n 0)=zz at *;go_enter Tryz.func49,Tryz.ntmps49;go_wp2_with fail;generalize (w.alloc (Obj.cells zz 99)).setRow w.heap.size (arr xs)=W0 at *;generalize hgg:w.heap.size=g at *;have HGG:Hid (w.heap.size=g):=hgg;clear hgg hcp hmk;go_loopw [16] (fun i wr=>∃ k:Nat,k≤m∧i=zI (k:Int)∧Blk wr g (arr (wrt xs (ls.take k))) 99∧Below g w wr) (fun i _=>m - (intOf i).toNat)
 case atStart=>exact ⟨0,Nat.zero_le _,rfl,HG0.o,HB0.o⟩
 case round=>
  obtain ⟨k,hk,rfl,hg,hb⟩:=hrel;have HK:Hid (Blk wr g (arr (wrt xs (ls.take k))) 99):=hg;have HB:Hid (Below g w wr):=hb;clear hg hb HG0 HB0;by_cases hlt:k<m
  ·obtain ⟨b2,o2,rfl,l2,hc2⟩:=HR.o.at (by omega);rw [HGG.o] at l2;have f1:wr.cell? ⟨b2,o2+k*2,none⟩=some (zI (ls.getD k wr0).p):=(HB.o.cell (p:=⟨b2,o2+k*2,none⟩) l2).trans (hc2 k hlt).1;have f2:wr.cell? ⟨b2,o2+k*2+1,none⟩=some (.int .u32 (ls.getD k wr0).d):=(HB.o.cell (p:=⟨b2,o2+k*2+1,none⟩) l2).trans (hc2 k hlt).2;have hin:=allN_at HA.o k (by have:=HL.o.2;omega);have HST:Hid (wrt xs (ls.take (k+1))=(wrt xs (ls.take k)).set (ls.getD k wr0).p.toNat (ls.getD k wr0).d):=wrt_step xs ls k (by have:=HL.o.2;omega);have HLZ:Hid ((wrt xs (ls.take k)).length=n):=by show _=_;rw [wrt_len];exact HL.o.1
   clear hc2 l2;generalize (ls.getD k wr0).p=pz at *;generalize (ls.getD k wr0).d=d at *;generalize wrt xs (ls.take k)=zs at *;obtain ⟨p,rfl⟩:∃ p:Nat,pz=p:=⟨pz.toNat,by omega⟩
   obtain ⟨_,hp⟩:=hin;have hp':p<n:=by omega
   clear hp;rw [Int.toNat_natCast] at HST;have hN:=Blk.new wr #[zI (p:Int),.int .u32 d] 122;have hK:=HK.o.alloc (.cells #[zI (p:Int),.int .u32 d] 122);have n0:=hN.cell 0;have n1:=hN.cell 1;have k0:=Blk.word hK p (by rw [HLZ.o];exact hp');have k1:=hK.free p
   have HNX:Hid (Blk ((wr.alloc (.cells #[zI (p:Int),.int .u32 d] 122)).setCell ⟨g,p,none⟩ (.int .u32 d)) g (arr (wrt xs (ls.take (k+1)))) 99):=by
    have h:=hK.set p (.int .u32 d);rw [arr_set] at h;rw [HST.o];exact h
   have HBX:Hid (Below g w ((wr.alloc (.cells #[zI (p:Int),.int .u32 d] 122)).setCell ⟨g,p,none⟩ (.int .u32 d))):=by
    have h0:g≤wr.heap.size:=by have:=HB.o.size;have h3:=HGG.o;omega
    exact bel_set (HB.o.alloc h0 _) g p _ (Nat.le_refl _)
   clear hN hK;go_wp2_with fail;go_roundw
   case rel=>exact ⟨k+1,by omega,by go_num,HNX.o,HBX.o⟩
   case measure=>simp [intOf];omega
  ·obtain rfl:k=m:=by omega
   have HX:Hid (RowU wr (some ⟨g,0,none⟩) n (wrt xs ls)):=Blk.rowU (by have:=HK.o;rw [List.take_of_length_le (by have:=HL.o.2;omega)] at this;exact this) (by rw [wrt_len];exact HL.o.1);go_wp2_with fail;go_ret;exact ⟨g,rfl,HX.o,by rw [HGG.o];exact HB.o⟩
end cell
namespace book
open Go.RowKit
theorem states_small {t:acc.Tm} {l:List Ev} {k:Nat} {st:Nat→List Cm} (h0:st 0=[]) (h:∀ i,i<k→StepIs t (st i) (l.getD i ev0) (st (i+1)) 0):∀ i,i≤k→Small (st i) i
 | 0,_=>by rw [h0];exact Small.zero
 | i+1,hk=>step_small (h i (by omega)) (states_small h0 h i (by omega))
theorem book_small {t:acc.Tm} {l:List Ev} {bk:List Cm} {at_ f:Int} (h:BookIs t l bk at_ f):∀ c∈bk,c.so.length≤1000000:=by
 rcases h with ⟨_,_,rfl,_⟩ | ⟨_,_,rfl,_⟩ | ⟨_,q,k,st,s0,s1,s2⟩
 ·intro c hc;cases hc
 ·intro c hc;cases hc
 ·rcases s2 with ⟨e,rfl,_⟩ | ⟨_,_,_,rfl,_⟩
  ·intro c hc;have:=((states_small s0 s1 k (Nat.le_refl _)).2 c hc).1;omega
  ·intro c hc;cases hc
def cellsE:List Ev→List Value
 | []=>[]
 | x :: l=>x.cl++cellsE l
theorem cellsE_len (l:List Ev):(cellsE l).length=l.length*13:=by
 induction l with
 | nil=>rfl
 | cons e l ih=>rw [cellsE,List.length_append,ih,List.length_cons];show 13+_=_;omega
theorem oneE (l:List Ev):∀ u∈cellsE l,u.oneCell'=true:=by
 induction l with
 | nil=>intro u hu;cases hu
 | cons e l ih=>
  intro u hu;rw [cellsE] at hu;rcases List.mem_append.1 hu with hu | hu
  ·simp only [Ev.cl,List.mem_cons,List.not_mem_nil,or_false] at hu;rcases hu with rfl | rfl | rfl | rfl | rfl | rfl | rfl | rfl | rfl | rfl | rfl | rfl | rfl <;> rfl
  ·exact ih u hu
theorem cellsE_at (l:List Ev) (k j:Nat) (hk:k<l.length) (hj:j<13):(cellsE l)[k*13+j]?=(l.getD k ev0).cl[j]?:=by
 induction l generalizing k with
 | nil=>simp at hk
 | cons x l ih=>
  have h8:x.cl.length=13:=rfl;cases k with
  | zero=>rw [Nat.zero_mul,Nat.zero_add,cellsE,List.getElem?_append_left (by omega)];rfl
  | succ k=>
   rw [show (k+1)*13+j=x.cl.length+(k*13+j) by omega,cellsE,List.getElem?_append_right (by omega),Nat.add_sub_cancel_left];exact ih k (by simpa using hk)
structure ECame (w:World) (a:Option Addr) (n cap:Nat) (l:List Ev):Prop where
 row:RowE w a n l
 nil:a=none→cap=0
 room:n≤cap
 bytes:n*104≤140737488351232
 wf:∀ v∈l,wf13 v
theorem evI:(Tryz.prog.info? 72).map (fun i=>(i.zero,i.size,i.bytes))=some (some (.agg ev0.cl.toArray),13,104):=by kernel_rfl
theorem cellsE_app (l m:List Ev):cellsE (l++m)=cellsE l++cellsE m:=by
 induction l with
 | nil=>rfl
 | cons e l ih=>rw [List.cons_append,cellsE,cellsE,ih,List.append_assoc]
def Le (w:World) (base:Nat) (v:Value) (l:List Ev):Prop:=w.ownsRow base 72 13 v l.length (cellsE l)
theorem Le.alloc {w:World} {base:Nat} {v:Value} {l:List Ev} (h:Le w base v l) (o:Obj):Le (w.alloc o) base v l:=World.ownsRow.alloc h o
theorem Le.next {w w':World} {base:Nat} {v:Value} {l:List Ev} (h:Le w base v l) (hb:Below w.heap.size w w'):Le w' base v l:=by
 refine ⟨h.1,?_⟩;rcases h.2 with hn | ⟨g,cap,cur,hv,hg,hc,rest⟩
 ·exact .inl hn
 ·exact .inr ⟨g,cap,cur,hv,hg,Blk.next hc hb,rest⟩
theorem Le.came {w:World} {base:Nat} {v:Value} {l:List Ev} (h:Le w base v l) (hl:l.length≤100000) (hw:∀ x∈l,wf13 x):∃ a cap,v = .slice a l.length cap∧ECame w a l.length cap l:=by
 rcases h.2 with ⟨hv,hn⟩ | ⟨g,cap,cur,hv,_,hc,h1,_⟩
 ·exact ⟨none,0,by rw [hn];exact hv,⟨⟨rfl,.inl hn⟩,fun _=>rfl,by omega,by omega,hw⟩⟩
 ·subst hv;refine ⟨_,cap,rfl,⟨⟨rfl,.inr ⟨g,0,rfl,Blk.lt hc,fun i j hi hj=>?_⟩⟩,(fun h=>by cases h),h1,by omega,hw⟩⟩;have e1:=World.ownsRow.cellAt h (i*13+j) (by omega);rw [Nat.zero_add,e1];exact cellsE_at l i j hi hj
theorem wp_ev {w:World} {ops:Array Oper} {rest:List Oper} {o:Oper} {a:Act} {Q:Exit→Act→World→Prop} (hgd:o.guard=none) (s x:Operand)
  (ho:o.op = .call { callee:= .builtin .append,args:=#[s,x],argTypes:=#[58,58] })
  (base G:Nat) (v:Value) (l:List Ev) (r:Ev) (hs:a.eval s=v) (hx:a.eval x = .slice (some ⟨G,0,none⟩) 1 1) (hv:Le w base v l) (hu:Blk w G r.cl.toArray 72) (hn:l.length≤1000000) (hbase:base≤w.heap.size)
  (h:∀ v' w',Le w' base v' (l++[r])→w.grownBy w' v.ownBlock→wpList Tryz.prog ops Q rest (a.put o.dst v') w'):wpList Tryz.prog ops Q (o :: rest) a w:=by
 obtain ⟨i0,hi,hz0,hz1,hz2⟩:=info_parts evI;refine wpList_append_own w hgd s x 58 ho base 72 i0 (.agg ev0.cl.toArray) 13 104 Tryz.underlying58 hi hz0 hz1 hz2 rfl (by decide) v l.length (cellsE l) hs hv ⟨G,0,none⟩ 1 1 (cellsE [r]) hx (by rw [cellsE_len];rfl) ?_ (oneE [r]) (by unfold maxLen;omega) (by omega) hbase ?_
 ·intro j u hj;rw [Addr.add_lit,Nat.zero_add,hu.cell j];rw [cellsE,cellsE,List.append_nil] at hj;simpa using hj
 intro v' w' h1 h2 _;refine h v' w' ?_ h2;unfold Le;rw [List.length_append,cellsE_app];exact h1
end book
namespace vnd
open disk (RepIs AppIs)
open book (Ev ev0 EMay evL evOf EncIs DecIs Cm cm0 So so0 BookIs Sees ECame FirstAt NoneAt)
open acc (Ac Tm Bi TCame ACame)
open cell (Wr RowU)
open Go.RowKit
def NoTwo (w:World) (g:Nat):Prop:=∀ o x y,w.cell? ⟨g,o,none⟩=some (zI x)→w.cell? ⟨g,o+1,none⟩=some (zI y)→False
theorem shop_odd {w:World} {g:Nat} {T:TypeId} {a1 b1:Option Addr} {a2 a3 b2 b3:Nat} {z:Value} (hB:Blk w g #[.slice a1 a2 a3,.slice b1 b2 b3,z] T):NoTwo w g:=by
 intro o x y h1 h2
 match o,h1,h2 with
 | 0,h1,_=>rw [hB.cell 0] at h1;cases h1
 | 1,h1,_=>rw [hB.cell 1] at h1;cases h1
 | o+2,_,h2=>rw [hB.cell (o+2+1)] at h2;simp at h2
theorem rowC_far {w W:World} {g:Nat} {v':Array Value} {T':TypeId} {p:Option Addr} {n:Nat} {xs:List book.Cu} (h:book.RowC w p n xs) (hg:NoTwo w g) (hU:Upd w W g v' T'):book.RowC W p n xs:=by
 refine ⟨h.1,?_⟩;rcases h.2 with h0 | ⟨b,off,rfl,lb,hc⟩
 ·exact .inl h0
 ·rcases Nat.eq_zero_or_pos n with h0 | h0
  ·exact .inl h0
  ·have hne:b≠g:=fun e=>by
    subst e;have h1:=hc 0 0 h0 (by decide);have h2:=hc 0 1 h0 (by decide);exact hg (off+0*8+0) (xs.getD 0 book.cu0).me (xs.getD 0 book.cu0).rv (by rw [h1];rfl) (by rw [show off+0*8+0+1=off+0*8+1 by omega,h2];rfl)
   exact .inr ⟨b,off,rfl,by rw [hU.size];exact lb,fun i j hi hj=>by rw [hU.cell _ hne rfl];exact hc i j hi hj⟩
theorem rowS_far {w W:World} {g:Nat} {v':Array Value} {T':TypeId} {p:Option Addr} {n:Nat} {l:List So} (h:book.RowS w p n l) (hg:NoTwo w g) (hU:Upd w W g v' T'):book.RowS W p n l:=by
 refine ⟨h.1,?_⟩;rcases h.2 with h0 | ⟨b,off,rfl,lb,hc⟩
 ·exact .inl h0
 ·rcases Nat.eq_zero_or_pos n with h0 | h0
  ·exact .inl h0
  ·have hne:b≠g:=fun e=>by
    subst e;have h1:=hc 0 0 h0 (by decide);have h2:=hc 0 1 h0 (by decide);exact hg (off+0*5+0) (l.getD 0 so0).id (l.getD 0 so0).cl (by rw [h1];rfl) (by rw [show off+0*5+0+1=off+0*5+1 by omega,h2];rfl)
   exact .inr ⟨b,off,rfl,by rw [hU.size];exact lb,fun i j hi hj=>by rw [hU.cell _ hne rfl];exact hc i j hi hj⟩
theorem came_far {w W:World} {g:Nat} {v':Array Value} {T':TypeId} {p:Option Addr} {n cap:Nat} {l:List tar.Du} (h:tar.Came w p n cap l) (hg:NoTwo w g) (hU:Upd w W g v' T'):tar.Came W p n cap l:=
 acc.came_upd h hU fun hn x hx e=>by
  obtain ⟨b,off,hp,lb,hc⟩:=h.row.at hn;rw [hp] at hx;cases hx;have e2:b=g:=e;subst e2;exact hg _ _ _ (hc 0 hn).1 (hc 0 hn).2
theorem sees_far {w W:World} {g:Nat} {v':Array Value} {T':TypeId} {p:Option Addr} {n:Nat} {xs:List book.Cu} {bk:List Cm} (h:Sees w p n xs bk) (hg:NoTwo w g) (hU:Upd w W g v' T'):Sees W p n xs bk:=
 ⟨rowC_far h.row hg hU,h.len,h.num,fun i hi=>came_far (h.ds i hi) hg hU,fun i hi=>rowS_far (h.so i hi) hg hU⟩
theorem one_odd {w:World} {g:Nat} {T:TypeId} {z:Value} (hB:Blk w g #[z] T):NoTwo w g:=by
 intro o x y h1 h2;rw [hB.cell (o+1)] at h2;simp at h2
end vnd
namespace acc
open tar (Du du0 Came RowD Ld PairT)
open Go.RowKit
theorem grown_blk {w w':World} {own:Option Nat} {G:Nat} {cs:Array Value} {t:TypeId} (h:Blk w G cs t) (hg:w.grownBy w' own) (hne:some G≠own):Blk w' G cs t:=by
 unfold Blk at *;rw [hg.block G (Blk.lt h) hne];exact h
set_option maxRecDepth 100000
set_option maxHeartbeats 4000000 in
theorem powe (g : Nat) (x : Ac) (p : Option Addr) (len cap : Nat) (q : Du) (w : World) (hw : Blk w g (wcs x bi0 p len cap) 252) (hl : Ld 70 w (g + 1) (.slice p len cap) x.ds) (ha : AMay x) : Calls Tryz.prog 119 #[.pointer (some ⟨g, 0, none⟩), .agg #[.int .i64 q.a, .int .i64 q.b]] w fun e w' => WPost w g (Or0 (fun y _ f => OweIs x q y f)) e w' := by
 have hgl := hw.lt
 have hdm := ha.1
 have hle : x.ds.length = len := by obtain ⟨a0, c0, hv, _⟩ := hl.row; injection hv with _ h2 _; exact h2.symm
 have HDF : Hid (deb.Fresh w (g + 1) p len cap x.ds) := by
  obtain ⟨a0, c0, hv, hf⟩ := deb.ld_fresh hl hdm
  injection hv with h1 h2 h3
  rw [h1, h2, h3]; exact hf
 have hl8 : len ≤ 8 := by have := hdm.1; omega
 have HM : Hid (AMay x) := ha
 have HI1 : Hid (∀ W, Calls Tryz.prog 69 #[.int .i64 1, .int .i64 1000000000, .int .i64 q.a] W fun e w' => e = .returned (.bool (decide (1 ≤ q.a ∧ q.a ≤ 1000000000))) ∧ w' = W) := fun W => awithin 1 1000000000 q.a W
 have HI2 : Hid (∀ W, Calls Tryz.prog 69 #[.int .i64 0, .int .i64 10000, .int .i64 q.b] W fun e w' => e = .returned (.bool (decide (0 ≤ q.b ∧ q.b ≤ 10000))) ∧ w' = W) := fun W => awithin 0 10000 q.b W
 have HOW : Hid (∀ (e : some w.heap.size = (Value.slice p len cap).ownBlock), False) := fun e => by have := (World.ownsRow.lt hl _ e.symm).2; omega
 have H0B : Hid (Below w.heap.size w (w.alloc (.cells #[.int .i64 q.a, .int .i64 q.b] 70))) := (Below.refl w.heap.size w).alloc (by simp) _
 have H0e : Hid (Blk (w.alloc (.cells #[.int .i64 q.a, .int .i64 q.b] 70)) w.heap.size #[.int .i64 q.a, .int .i64 q.b] 70) := Blk.new w _ _
 have H0g : Hid (Blk (w.alloc (.cells #[.int .i64 q.a, .int .i64 q.b] 70)) g #[.int .i64 x.me, .int .i64 x.rv, .int .i64 x.nx, .int .i64 x.mo, .int .i64 x.bo, .int .i64 x.fr, .slice p len cap, .int .i64 0, .int .i64 0, .int .i64 0, .int .i64 0, .int .i64 0, .int .i64 0, .int .i64 0] 252) := hw.alloc _
 have H0L : Hid (Ld 70 (w.alloc (.cells #[.int .i64 q.a, .int .i64 q.b] 70)) (g + 1) (.slice p len cap) x.ds) := hl.alloc _
 have H0F : Hid (deb.Fresh (w.alloc (.cells #[.int .i64 q.a, .int .i64 q.b] 70)) (g + 1) p len cap x.ds) := HDF.out.below H0B.out
 have H0G : Hid (Below g w (w.alloc (.cells #[.int .i64 q.a, .int .i64 q.b] 70))) := H0B.out.mono (by omega)
 have hsz : w.heap.size < (w.alloc (.cells #[.int .i64 q.a, .int .i64 q.b] 70)).heap.size := H0e.out.lt
 clear hw hl ha HDF H0B
 generalize hWW : (w.alloc (.cells #[.int .i64 q.a, .int .i64 q.b] 70)) = W0 at *
 have HWW : Hid ((w.alloc (.cells #[.int .i64 q.a, .int .i64 q.b] 70)) = W0) := hWW
 clear hWW
 have e0 : W0.cell? ⟨w.heap.size, 0, none⟩ = some (.int .i64 q.a) := H0e.out.cell 0
 have e1 : W0.cell? ⟨w.heap.size, 1, none⟩ = some (.int .i64 q.b) := H0e.out.cell 1
 have g6 : W0.cell? ⟨g, 6, none⟩ = some (.slice p len cap) := H0g.out.cell 6
 go_enter Tryz.func119, Tryz.ntmps119
 go_upto_region 1 with fail
 rw [HWW.out]
 clear HWW
 by_cases h1 : 1 ≤ q.a ∧ q.a ≤ 1000000000
 ·rw [decide_eq_true h1] at HI1
  go_wp2_with fail
  refine (HI1.out _).mono ?_
  rintro e wz ⟨rfl, hwz⟩
  subst wz
  clear HI1
  by_cases h2 : 0 ≤ q.b ∧ q.b ≤ 10000
  ·rw [decide_eq_true h2] at HI2
   go_wp2_with fail
   refine (HI2.out _).mono ?_
   rintro e wz ⟨rfl, hwz⟩
   subst wz
   clear HI2
   by_cases h3 : len < 8
   ·have d3 : ((len : Int) == 8) = false := by simp; omega
    have HMN : Hid (deb.Mays (x.ds ++ [q])) := ⟨by rw [List.length_append, hle]; show len + 1 ≤ 8; omega, deb.fits_mem fun d hd => by
     rcases List.mem_append.1 hd with hd | hd
     ·exact deb.mem_fits hdm.2 d hd
     ·have e2 := List.mem_singleton.1 hd
      subst e2
      exact ⟨⟨by omega, h1.2⟩, h2⟩⟩
    have hzl : x.ds.length ≤ 1000000 := by omega
    have HV : Hid (Or0 (fun y _ f => OweIs x q y f) ⟨x.me, x.rv, x.nx, x.mo, x.bo, x.fr, x.ds ++ [q]⟩ bi0 0) := .inr ⟨rfl, .inr (.inr (.inr ⟨HM.out, ⟨h1, h2⟩, by rw [hle]; exact h3, rfl, rfl⟩))⟩
    have HZL : Hid (x.ds.length ≤ 1000000) := hzl
    clear h1 h2 h3 hdm hle hzl
    go_wp2_with fail
    clear e0 e1
    have HED : Hid (Blk W0.drew w.heap.size #[.int .i64 q.a, .int .i64 q.b] 70) := Blk.drew H0e.out 1
    have q6 : W0.drew.cell? ⟨g, 6, none⟩ = some (.slice p len cap) := H0g.out.cell 6
    have HEA : Hid (Blk (W0.alloc (.cells #[.int .i64 q.a, .int .i64 q.b] 70)).drew w.heap.size #[.int .i64 q.a, .int .i64 q.b] 70) := HED.out.alloc _
    have HGA : Hid (Blk (W0.alloc (.cells #[.int .i64 q.a, .int .i64 q.b] 70)).drew g #[.int .i64 x.me, .int .i64 x.rv, .int .i64 x.nx, .int .i64 x.mo, .int .i64 x.bo, .int .i64 x.fr, .slice p len cap, .int .i64 0, .int .i64 0, .int .i64 0, .int .i64 0, .int .i64 0, .int .i64 0, .int .i64 0] 252) := H0g.out.alloc _
    have HLA : Hid (Ld 70 (W0.alloc (.cells #[.int .i64 q.a, .int .i64 q.b] 70)).drew (g + 1) (.slice p len cap) x.ds) := H0L.out.alloc _
    have HCA : Hid ((W0.alloc (.cells #[.int .i64 q.a, .int .i64 q.b] 70)).drew.cell? ⟨W0.heap.size, 0, none⟩ = some (.int .i64 q.a) ∧ (W0.alloc (.cells #[.int .i64 q.a, .int .i64 q.b] 70)).drew.cell? ⟨W0.heap.size, 1, none⟩ = some (.int .i64 q.b)) := ⟨(Blk.new W0 _ _).cell 0, (Blk.new W0 _ _).cell 1⟩
    have HBA : Hid (Below g w (W0.alloc (.cells #[.int .i64 q.a, .int .i64 q.b] 70)).drew) := bel_drew (H0G.out.alloc (by omega) _) 1
    have hsA : W0.heap.size < (W0.alloc (.cells #[.int .i64 q.a, .int .i64 q.b] 70)).drew.heap.size := (Blk.new W0 #[.int .i64 q.a, .int .i64 q.b] 70).lt
    refine wp_region_held_drew (S := fun v => Blk v (w.heap.size) #[.int .i64 q.a, .int .i64 q.b] 70) (by kernel_rfl) HED.out (fun hHeld => ?_)
    refine zqs 0 24 (.pointer (some ⟨g, 0, none⟩)) rfl rfl (by kernel_rfl) (fun _ _ _ h => h) rfl (fun v hv => by clear hv; go_simp) hHeld ?_
    simp only [Act.put, zqa, zqb, zqc]
    refine zqs 1 25 (.pointer (some ⟨g, 0, none⟩)) rfl rfl (by kernel_rfl) (fun _ _ _ h => h) rfl (fun v hv => by clear hv; go_simp) hHeld ?_
    simp only [Act.put, zqa, zqb, zqc]
    refine zqs 2 26 (.pointer (some ⟨g, 0, none⟩)) rfl rfl (by kernel_rfl) (fun _ _ _ h => h) rfl (fun v hv => by clear hv; go_simp) hHeld ?_
    simp only [Act.put, zqa, zqb, zqc]
    refine zqs 3 27 (.pointer (some ⟨g, 0, none⟩)) rfl rfl (by kernel_rfl) (fun _ _ _ h => h) rfl (fun v hv => by clear hv; go_simp) hHeld ?_
    simp only [Act.put, zqa, zqb, zqc]
    refine zqs 4 28 (.pointer (some ⟨g, 6, none⟩)) rfl rfl (by kernel_rfl) (fun _ _ _ h => h) rfl (fun v hv => by clear hv; go_simp) hHeld ?_
    simp only [Act.put, zqa, zqb, zqc]
    refine zqt 6 30 (.agg #[.int .i64 q.a, .int .i64 q.b]) rfl rfl (by kernel_rfl) (fun _ _ _ h => h) (Or.inl ⟨by rfl, fun v hv => by have g0 := hv.cell 0; have g1 := hv.cell 1; clear hv; go_simp⟩) hHeld ?_
    simp only [Act.put, zqa, zqb, zqc]
    refine wpAnyH_ready (rs := [5, 7]) (by kernel_rfl) (by simp) (AllReadyH.cons rfl (fun K hK => ?_) (AllReadyH.cons rfl (fun K hK => ?_) AllReadyH.nil))
    all_goals rw [if_pos (by rfl)]
    ·refine wp_runOp (v := .slice p len cap) (w' := W0.drew) 29 rfl (by clear hK; go_simp) ?_
     refine hK.out _ _ HED.out (fun hHeld => ?_)
     clear hK K q6
     simp only [Act.put, zqa, zqb, zqc]
     refine zqo 7 (by kernel_rfl) rfl (fun K hK => ?_)
     rw [if_pos (by rfl)]
     refine wp_runOp (v := .slice (some ⟨W0.heap.size, 0, none⟩) 1 1) (w' := (W0.alloc (.cells #[.int .i64 q.a, .int .i64 q.b] 70)).drew) 31 rfl (by clear hK; go_simp) ?_
     refine hK.out _ _ HEA.out (fun hHeld => ?_)
     clear hK K
     simp only [Act.put, zqa, zqb, zqc]
     generalize (W0.alloc (.cells #[.int .i64 q.a, .int .i64 q.b] 70)).drew = WA at *
     generalize W0.heap.size = hA at *
     refine zqo 8 (by kernel_rfl) rfl (fun K hK => ?_)
     refine tar.step_pair deb.debtT rfl _ _ rfl (g + 1) hA (.slice p len cap) x.ds q rfl rfl HLA.out HCA.out HZL.out (by omega) ?_
     intro v5 w5 h5 hg5
     obtain ⟨p5, c5, hv5, hf5⟩ := deb.ld_fresh h5 HMN.out
     subst hv5
     have H5g : Hid (Blk w5 g #[.int .i64 x.me, .int .i64 x.rv, .int .i64 x.nx, .int .i64 x.mo, .int .i64 x.bo, .int .i64 x.fr, .slice p len cap, .int .i64 0, .int .i64 0, .int .i64 0, .int .i64 0, .int .i64 0, .int .i64 0, .int .i64 0] 252) := grown_blk HGA.out hg5 (tar.own_far HLA.out (by omega))
     have H5e : Hid (Blk w5 w.heap.size #[.int .i64 q.a, .int .i64 q.b] 70) := grown_blk HEA.out hg5 (fun e => HOW.out e)
     have H5B : Hid (Below g w w5) := tar.own_bel HLA.out hg5 HBA.out (by omega) (by omega)
     have H5F : Hid (deb.Fresh w5 (g + 1) p5 (x.ds ++ [q]).length c5 (x.ds ++ [q])) := hf5
     refine hK.out _ _ H5e.out (fun hHeld => ?_)
     clear hK K h5 hg5 hf5 HGA HEA HLA HCA HBA HED
     simp only [Act.put, zqa, zqb, zqc]
     generalize (x.ds ++ [q]).length = n5 at *
     refine zqs 9 33 (.pointer (some ⟨g, 0, none⟩)) rfl rfl (by kernel_rfl) (fun _ _ _ h => h) rfl (fun v hv => by clear hv; go_simp) hHeld ?_
     simp only [Act.put, zqa, zqb, zqc]
     refine zqs 10 34 (.pointer (some ⟨g, 0, none⟩)) rfl rfl (by kernel_rfl) (fun _ _ _ h => h) rfl (fun v hv => by clear hv; go_simp) hHeld ?_
     simp only [Act.put, zqa, zqb, zqc]
     refine zqs 11 35 (.pointer (some ⟨g, 6, none⟩)) rfl rfl (by kernel_rfl) (fun _ _ _ h => h) rfl (fun v hv => by clear hv; go_simp) hHeld ?_
     simp only [Act.put, zqa, zqb, zqc]
     refine zqo 12 (by kernel_rfl) rfl (fun K hK => ?_)
     rw [if_pos (by rfl)]
     refine wp_letOp1 49 _ _ rfl g 6 rfl (.slice p5 n5 c5) rfl rfl (by kernel_rfl) rfl #[.int .i64 x.me, .int .i64 x.rv, .int .i64 x.nx, .int .i64 x.mo, .int .i64 x.bo, .int .i64 x.fr, .slice p len cap, .int .i64 0, .int .i64 0, .int .i64 0, .int .i64 0, .int .i64 0, .int .i64 0, .int .i64 0] 252 H5g.out (by simp) rfl ?_
     intro W6 hU
     have H6g : Hid (Blk W6 g #[.int .i64 x.me, .int .i64 x.rv, .int .i64 x.nx, .int .i64 x.mo, .int .i64 x.bo, .int .i64 x.fr, .slice p5 n5 c5, .int .i64 0, .int .i64 0, .int .i64 0, .int .i64 0, .int .i64 0, .int .i64 0, .int .i64 0] 252) := hU.blk
     have H6e := shK hU H5e (by omega)
     have H6B : Hid (Below g w W6) := hU.bel _ _ (Nat.le_refl _) H5B.out
     have H6F : Hid (deb.Fresh W6 (g + 1) p5 n5 c5 (x.ds ++ [q])) := fresh_chg H5F.out (.upd hU)
     refine hK.out _ _ H6e.out (fun hHeld => ?_)
     clear hK K hU H5g H5e H5B H5F
     refine wpAnyH_done (by kernel_rfl) ?_ _
     clear hHeld
     go_wp2_with fail
     go_ret
     exact ⟨⟨x.me, x.rv, x.nx, x.mo, x.bo, x.fr, x.ds ++ [q]⟩, bi0, p5, n5, c5, 0, rfl, HV.out, H6g.out, H6F.out, H6B.out⟩
    ·refine wp_runOp (v := .slice (some ⟨W0.heap.size, 0, none⟩) 1 1) (w' := (W0.alloc (.cells #[.int .i64 q.a, .int .i64 q.b] 70)).drew) 31 rfl (by clear hK; go_simp) ?_
     refine hK.out _ _ HEA.out (fun hHeld => ?_)
     clear hK K q6
     have q7 : (W0.alloc (.cells #[.int .i64 q.a, .int .i64 q.b] 70)).drew.cell? ⟨g, 6, none⟩ = some (.slice p len cap) := HGA.out.cell 6
     simp only [Act.put, zqa, zqb, zqc]
     refine zqo 5 (by kernel_rfl) rfl (fun K hK => ?_)
     rw [if_pos (by rfl)]
     refine wp_runOp (v := .slice p len cap) (w' := (W0.alloc (.cells #[.int .i64 q.a, .int .i64 q.b] 70)).drew) 29 rfl (by clear hK; go_simp) ?_
     refine hK.out _ _ HEA.out (fun hHeld => ?_)
     clear hK K q7
     simp only [Act.put, zqa, zqb, zqc]
     generalize (W0.alloc (.cells #[.int .i64 q.a, .int .i64 q.b] 70)).drew = WA at *
     generalize W0.heap.size = hA at *
     refine zqo 8 (by kernel_rfl) rfl (fun K hK => ?_)
     refine tar.step_pair deb.debtT rfl _ _ rfl (g + 1) hA (.slice p len cap) x.ds q rfl rfl HLA.out HCA.out HZL.out (by omega) ?_
     intro v5 w5 h5 hg5
     obtain ⟨p5, c5, hv5, hf5⟩ := deb.ld_fresh h5 HMN.out
     subst hv5
     have H5g : Hid (Blk w5 g #[.int .i64 x.me, .int .i64 x.rv, .int .i64 x.nx, .int .i64 x.mo, .int .i64 x.bo, .int .i64 x.fr, .slice p len cap, .int .i64 0, .int .i64 0, .int .i64 0, .int .i64 0, .int .i64 0, .int .i64 0, .int .i64 0] 252) := grown_blk HGA.out hg5 (tar.own_far HLA.out (by omega))
     have H5e : Hid (Blk w5 w.heap.size #[.int .i64 q.a, .int .i64 q.b] 70) := grown_blk HEA.out hg5 (fun e => HOW.out e)
     have H5B : Hid (Below g w w5) := tar.own_bel HLA.out hg5 HBA.out (by omega) (by omega)
     have H5F : Hid (deb.Fresh w5 (g + 1) p5 (x.ds ++ [q]).length c5 (x.ds ++ [q])) := hf5
     refine hK.out _ _ H5e.out (fun hHeld => ?_)
     clear hK K h5 hg5 hf5 HGA HEA HLA HCA HBA HED
     simp only [Act.put, zqa, zqb, zqc]
     generalize (x.ds ++ [q]).length = n5 at *
     refine zqs 9 33 (.pointer (some ⟨g, 0, none⟩)) rfl rfl (by kernel_rfl) (fun _ _ _ h => h) rfl (fun v hv => by clear hv; go_simp) hHeld ?_
     simp only [Act.put, zqa, zqb, zqc]
     refine zqs 10 34 (.pointer (some ⟨g, 0, none⟩)) rfl rfl (by kernel_rfl) (fun _ _ _ h => h) rfl (fun v hv => by clear hv; go_simp) hHeld ?_
     simp only [Act.put, zqa, zqb, zqc]
     refine zqs 11 35 (.pointer (some ⟨g, 6, none⟩)) rfl rfl (by kernel_rfl) (fun _ _ _ h => h) rfl (fun v hv => by clear hv; go_simp) hHeld ?_
     simp only [Act.put, zqa, zqb, zqc]
     refine zqo 12 (by kernel_rfl) rfl (fun K hK => ?_)
     rw [if_pos (by rfl)]
     refine wp_letOp1 49 _ _ rfl g 6 rfl (.slice p5 n5 c5) rfl rfl (by kernel_rfl) rfl #[.int .i64 x.me, .int .i64 x.rv, .int .i64 x.nx, .int .i64 x.mo, .int .i64 x.bo, .int .i64 x.fr, .slice p len cap, .int .i64 0, .int .i64 0, .int .i64 0, .int .i64 0, .int .i64 0, .int .i64 0, .int .i64 0] 252 H5g.out (by simp) rfl ?_
     intro W6 hU
     have H6g : Hid (Blk W6 g #[.int .i64 x.me, .int .i64 x.rv, .int .i64 x.nx, .int .i64 x.mo, .int .i64 x.bo, .int .i64 x.fr, .slice p5 n5 c5, .int .i64 0, .int .i64 0, .int .i64 0, .int .i64 0, .int .i64 0, .int .i64 0, .int .i64 0] 252) := hU.blk
     have H6e := shK hU H5e (by omega)
     have H6B : Hid (Below g w W6) := hU.bel _ _ (Nat.le_refl _) H5B.out
     have H6F : Hid (deb.Fresh W6 (g + 1) p5 n5 c5 (x.ds ++ [q])) := fresh_chg H5F.out (.upd hU)
     refine hK.out _ _ H6e.out (fun hHeld => ?_)
     clear hK K hU H5g H5e H5B H5F
     refine wpAnyH_done (by kernel_rfl) ?_ _
     clear hHeld
     go_wp2_with fail
     go_ret
     exact ⟨⟨x.me, x.rv, x.nx, x.mo, x.bo, x.fr, x.ds ++ [q]⟩, bi0, p5, n5, c5, 0, rfl, HV.out, H6g.out, H6F.out, H6B.out⟩
   ·have d3 : ((len : Int) == 8) = true := by simp; omega
    have HV : Hid (Or0 (fun y _ f => OweIs x q y f) x bi0 16) := .inl ⟨by decide, .inr (.inr (.inl ⟨HM.out, ⟨h1, h2⟩, by rw [hle]; exact h3, rfl, rfl⟩))⟩
    clear h1 h2 h3
    go_wp2_with fail
    go_ret
    exact ⟨x, bi0, p, len, cap, 16, rfl, HV.out, H0g.out, H0F.out, H0G.out⟩
  ·rw [decide_eq_false h2] at HI2
   have HV : Hid (Or0 (fun y _ f => OweIs x q y f) x bi0 2) := .inl ⟨by decide, .inr (.inl ⟨HM.out, fun hh => h2 hh.2, rfl, rfl⟩)⟩
   clear h2
   go_wp2_with fail
   refine (HI2.out _).mono ?_
   rintro e wz ⟨rfl, hwz⟩
   subst wz
   go_wp2_with fail
   all_goals first
    | (rename_i q1 q2; exact absurd q1 (by simp [undef]))
    | (go_ret; exact ⟨x, bi0, p, len, cap, 2, rfl, HV.out, H0g.out, H0F.out, H0G.out⟩)
 ·rw [decide_eq_false h1] at HI1
  have HV : Hid (Or0 (fun y _ f => OweIs x q y f) x bi0 2) := .inl ⟨by decide, .inr (.inl ⟨HM.out, fun hh => h1 hh.1, rfl, rfl⟩)⟩
  clear h1
  go_wp2_with fail
  refine (HI1.out _).mono ?_
  rintro e wz ⟨rfl, hwz⟩
  subst wz
  go_wp2_with fail
  all_goals first
   | (rename_i q1 q2; exact absurd q1 (by simp [undef]))
   | (go_ret; exact ⟨x, bi0, p, len, cap, 2, rfl, HV.out, H0g.out, H0F.out, H0G.out⟩)
end acc
namespace book
open Go.RowKit
def KOf:Prop:=∀ (W:World) (t:acc.Tm) (pt:Option Addr) (lt ct:Nat) (pl:Option Addr) (n cap:Nat) (l:List Ev),acc.TCame W t pt lt ct→ECame W pl n cap l→Calls Tryz.prog 17 #[t.v pt lt ct,.slice pl n cap] W fun e w'=>BookPost W t l e w'
end book
namespace disk
open Go.RowKit cell
theorem app_yes {c:List Int} {p:Nat} {r:List Int} (h:p+r.length+1<c.length):putW p r r.length++[⟨(p:Int)+(r.length:Int)+1,0⟩]++[⟨(p:Int),(r.length:Int)⟩]=appW c p r:=by
 unfold appW zeroW;rw [if_pos h,List.append_assoc,show ((p+r.length+1:Nat):Int)=(p:Int)+(r.length:Int)+1 by omega]
theorem app_no {c:List Int} {p:Nat} {r:List Int} (h:¬ p+r.length+1<c.length):putW p r r.length++[⟨(p:Int),(r.length:Int)⟩]=appW c p r:=by
 unfold appW zeroW;rw [if_neg h,List.nil_append]
end disk
end Go.Proofs.YtnpblpbohcegoaaGreatDoor
