import Derived.Test.YtdpfnedfakgolaaGreatDoorVVRnt12
import Derived.Test.YtdpfnedfakgolaaGreatDoorVVRnt15
import Derived.Test.YtdpfnedfakgolaaGreatDoorVVRnt16
set_option linter.unusedVariables false
set_option linter.unusedSimpArgs false
set_option maxHeartbeats 4000000
set_option maxRecDepth 100000
namespace Go.Proofs.YtdpfnedfakgolaaGreatDoor
namespace acc
open tar (Du du0 Came RowD Ld PairT)
open Go.RowKit
theorem rest_bd {a:Ac} {t:Tm} {te m:Int} (h:Ready a t m) (h0:1≤te) (h1:te≤100000000):(0≤paid a t te m∧paid a t te m≤te)∧(0≤fee t te∧fee t te≤100100000)∧rest a t te m=te - paid a t te m - fee t te:=by
 obtain ⟨a1,⟨b1,⟨c1,c2⟩,⟨d1,d2⟩,⟨e1,e2⟩,_⟩,r⟩:=h;have hs:=mays_sum (rolled_may a1 r).1;have h2:=rec_bd (te:=te) (db:=t.db) (by omega) h1 e1 e2;have h3:=rec_bd (te:=te) (db:=t.fb) (by omega) h1 d1 d2;refine ⟨⟨?_,?_⟩,⟨?_,?_⟩,rfl⟩
 ·show 0≤min (te*t.db / 10000) _;omega
 ·show min (te*t.db / 10000) _≤te;omega
 ·show 0≤t.ff+te*t.fb / 10000;omega
 ·show t.ff+te*t.fb / 10000≤_;omega
end acc
namespace disk
open Go.RowKit cell
def Wds (c:List Int):Prop:=∀ x∈c,0≤x∧x<4294967296
theorem wds_zero (n:Nat):Wds (List.replicate n 0):=fun x hx=>by
 rw [(List.mem_replicate.1 hx).2];decide
theorem wds_at {c:List Int} (h:Wds c) (j:Nat):0≤c.getD j 0∧c.getD j 0<4294967296:=by
 by_cases hj:j<c.length
 ·have e:c.getD j 0=c[j]:=by simp [List.getD,List.getElem?_eq_getElem hj]
  rw [e];exact h _ (List.getElem_mem hj)
 ·have e:c.getD j 0=0:=by simp [List.getD,List.getElem?_eq_none (Nat.le_of_not_lt hj)]
  rw [e];decide
theorem wds_set {c:List Int} (h:Wds c) (k:Nat) (x:Int) (hx:0≤x∧x<4294967296):Wds (c.set k x):=fun y hy=>by
 rcases List.mem_or_eq_of_mem_set hy with hy | rfl
 ·exact h y hy
 ·exact hx
def WrsOk (l:List Wr):Prop:=∀ e∈l,0≤e.d∧e.d<4294967296
theorem wds_wrt {c:List Int} (h:Wds c) (l:List Wr) (hl:WrsOk l):Wds (wrt c l):=by
 induction l generalizing c with
 | nil=>exact h
 | cons e l ih=>exact ih (wds_set h _ _ (hl e List.mem_cons_self)) fun x hx=>hl x (List.mem_cons_of_mem _ hx)
theorem wrs_put {r:List Int} (hr:Wds r) (a k:Nat):WrsOk (putW a r k):=by
 induction k with
 | zero=>intro e he;cases he
 | succ k ih=>
  intro e he;rcases List.mem_append.1 he with h | h
  ·exact ih e h
  ·rw [List.mem_singleton.1 h];exact wds_at hr k
theorem wrs_app {c r:List Int} (hr:Wds r) (hm:RMay r) (a:Nat):WrsOk (appW c a r):=by
 intro e he;unfold appW at he;rcases List.mem_append.1 he with h | h
 ·exact wrs_put hr a _ e h
 ·rcases List.mem_append.1 h with h | h
  ·unfold zeroW at h;split at h
   ·rw [List.mem_singleton.1 h];exact ⟨Int.le_refl _,by show (0:Int)<4294967296;decide⟩
   ·cases h
  ·rw [List.mem_singleton.1 h];have:=hm.2;exact ⟨by show (0:Int)≤(r.length:Int);omega,by show (r.length:Int)<_;omega⟩
theorem wrs_take {l:List Wr} (h:WrsOk l) (k:Nat):WrsOk (l.take k):=fun e he=>h e (List.mem_of_mem_take he)
theorem put_in {r:List Int} (a k n:Nat) (hn:a+k<n):cell.allN n (putW a r k)=true:=by
 induction k with
 | zero=>rfl
 | succ k ih=>exact cell.allN_snoc (ih (by omega)) ⟨by show (0:Int)≤((a+k+1:Nat):Int);omega,by show ((a+k+1:Nat):Int)<(n:Int);omega⟩
theorem app_in (c r:List Int) (a:Nat) (h:a+r.length<c.length):cell.allN c.length (appW c a r)=true:=by
 unfold appW;rw [← List.append_assoc];refine cell.allN_snoc ?_ ⟨by show (0:Int)≤(a:Int);omega,by show (a:Int)<(c.length:Int);omega⟩;unfold zeroW;split
 ·exact cell.allN_snoc (put_in a _ _ h) ⟨by show (0:Int)≤((a+r.length+1:Nat):Int);omega,by show ((a+r.length+1:Nat):Int)<(c.length:Int);omega⟩
 ·rw [List.append_nil];exact put_in a _ _ h
def Room (sl:List Sli):Prop:=∀ s∈sl,s.n≤s.c∧s.n≤20
theorem Room.at {sl:List Sli} (h:Room sl) (i:Nat) (hi:i<sl.length):(sl.getD i sl0).n≤(sl.getD i sl0).c∧(sl.getD i sl0).n≤20:=by
 have e:sl.getD i sl0=sl[i]:=by simp [List.getD,List.getElem?_eq_getElem hi]
 rw [e];exact h _ (List.getElem_mem hi)
end disk
namespace book
open Go.RowKit
open acc (Ac Tm Bi APost BPost TFault TRight OpenIs)
theorem lc_upd2 {w W:World} {base g:Nat} {cs:Array Value} {t:TypeId} {v:Value} {l:List Cu} (h:Lc w base v l) (hU:Upd w W g cs t) (hg:g<base):Lc W base v l:=by
 refine ⟨h.1,?_⟩;rcases h.2 with hn | ⟨g',cap,cur,hv,hb,hc,rest⟩
 ·exact .inl hn
 ·exact .inr ⟨g',cap,cur,hv,hb,by rw [hU.oth g' (by omega)];exact hc,rest⟩
theorem Holds.upd {w W:World} {base g:Nat} {cs:Array Value} {t:TypeId} {V:Value} {xs:List Cu} {bk:List Cm} (h:Holds w base V xs bk) (hU:Upd w W g cs t) (hg:g<base):Holds W base V xs bk:=
 ⟨lc_upd2 h.row hU hg,h.len,fun i hi=>⟨(h.has i hi).num,⟨acc_upd (h.has i hi).ds.came hU (fun hn y hy q=>by have:=(h.has i hi).ds.new hn y hy;omega),(h.has i hi).ds.new⟩,lo_upd (h.has i hi).so hU (fun k hk q=>by have:=(World.ownsRow.lt (h.has i hi).so k hk).1;omega)⟩,h.off,h.self,h.apart⟩
theorem blk_kept {w w':World} {own:Option Nat} {g:Nat} {cs:Array Value} {ty:TypeId} (h:Blk w g cs ty) (hg:w.grownBy w' own) (hne:some g≠own):Blk w' g cs ty:=by
 show w'.heap[g]?=_;rw [hg.block g h.lt hne];exact h
def BookPost (w:World) (t:Tm) (l:List Ev) (e:Ending) (w':World):Prop:=∃ p m cap xs bk at_ f,e = .returned (.tuple #[.agg #[.slice p m cap],zI at_,zI f])∧BookIs t l bk at_ f∧Sees w' p m xs bk∧m≤120∧Below w.heap.size w w'
theorem getD_mem {bk:List Cm} {j:Nat} (h:j<bk.length):bk.getD j cm0∈bk:=by
 have e:bk.getD j cm0=bk[j]:=by simp [List.getD,List.getElem?_eq_getElem h]
 rw [e];exact List.getElem_mem _
theorem sees_nil (w:World):Sees w none 0 [] []:=⟨⟨rfl,.inl rfl⟩,rfl,(fun i hi=>by cases hi),(fun i hi=>by cases hi),(fun i hi=>by cases hi)⟩
theorem states_small {t:acc.Tm} {l:List Ev} {k:Nat} {st:Nat→List Cm} (h0:st 0=[]) (h:∀ i,i<k→StepIs t (st i) (l.getD i ev0) (st (i+1)) 0):∀ i,i≤k→Small (st i) i
 | 0,_=>by rw [h0];exact Small.zero
 | i+1,hk=>step_small (h i (by omega)) (states_small h0 h i (by omega))
theorem book_small {t:acc.Tm} {l:List Ev} {bk:List Cm} {at_ f:Int} (h:BookIs t l bk at_ f):∀ c∈bk,c.so.length≤1000000:=by
 rcases h with ⟨_,_,rfl,_⟩ | ⟨_,_,rfl,_⟩ | ⟨_,q,k,st,s0,s1,s2⟩
 ·intro c hc;cases hc
 ·intro c hc;cases hc
 ·rcases s2 with ⟨e,rfl,_⟩ | ⟨_,_,_,rfl,_⟩
  ·intro c hc;have:=((states_small s0 s1 k (Nat.le_refl _)).2 c hc).1;omega
  ·intro c hc;cases hc
def cellsE:List Ev→List Value
 | []=>[]
 | x :: l=>x.cl++cellsE l
theorem cellsE_len (l:List Ev):(cellsE l).length=l.length*13:=by
 induction l with
 | nil=>rfl
 | cons e l ih=>rw [cellsE,List.length_append,ih,List.length_cons];show 13+_=_;omega
theorem oneE (l:List Ev):∀ u∈cellsE l,u.oneCell'=true:=by
 induction l with
 | nil=>intro u hu;cases hu
 | cons e l ih=>
  intro u hu;rw [cellsE] at hu;rcases List.mem_append.1 hu with hu | hu
  ·simp only [Ev.cl,List.mem_cons,List.not_mem_nil,or_false] at hu;rcases hu with rfl | rfl | rfl | rfl | rfl | rfl | rfl | rfl | rfl | rfl | rfl | rfl | rfl <;> rfl
  ·exact ih u hu
theorem cellsE_at (l:List Ev) (k j:Nat) (hk:k<l.length) (hj:j<13):(cellsE l)[k*13+j]?=(l.getD k ev0).cl[j]?:=by
 induction l generalizing k with
 | nil=>simp at hk
 | cons x l ih=>
  have h8:x.cl.length=13:=rfl;cases k with
  | zero=>rw [Nat.zero_mul,Nat.zero_add,cellsE,List.getElem?_append_left (by omega)];rfl
  | succ k=>
   rw [show (k+1)*13+j=x.cl.length+(k*13+j) by omega,cellsE,List.getElem?_append_right (by omega),Nat.add_sub_cancel_left];exact ih k (by simpa using hk)
structure ECame (w:World) (a:Option Addr) (n cap:Nat) (l:List Ev):Prop where
 row:RowE w a n l
 nil:a=none→cap=0
 room:n≤cap
 bytes:n*104≤140737488351232
 wf:∀ v∈l,wf13 v
theorem evI:(Tryz.prog.info? 125).map (fun i=>(i.zero,i.size,i.bytes))=some (some (.agg ev0.cl.toArray),13,104):=by kernel_rfl
end book
section
open Go.RowKit
structure WQ (P : Program) (ops : Array Oper) (C : World → Prop) (Q : Act → Prop) (l : List Oper) (a : Act) : Prop where
 out : wpQuiet P ops C Q l a
theorem wq_nil {P : Program} {ops : Array Oper} {C : World → Prop} {Q : Act → Prop} {a : Act} (h : Q a) : WQ P ops C Q [] a := ⟨h⟩
theorem wq_step {P : Program} {ops : Array Oper} {C : World → Prop} {Q : Act → Prop} {a : Act} {o : Oper} {rest : List Oper}
  (h : ∀ K : Act → Prop, (∀ a, WQ P ops C Q rest a → K a) → if Region.wanted o (yielded ops a.tmps) then o.quiet P a C K else K (a.put o.dst undef)) : WQ P ops C Q (o :: rest) a :=
 ⟨wpQuiet_step fun K hK => h K fun a ha => hK a ha.out⟩
theorem wq_skip {P : Program} {ops : Array Oper} {C : World → Prop} {Q : Act → Prop} {a : Act} {o : Oper} {rest : List Oper} (hw : Region.wanted o (yielded ops a.tmps) = false) (h : WQ P ops C Q rest (a.put o.dst undef)) : WQ P ops C Q (o :: rest) a := by
 refine ⟨?_⟩
 unfold wpQuiet
 rw [if_neg (by rw [hw]; decide)]
 exact h.out
theorem wq_below {P : Program} {id : Nat} {Q : Exit → Act → World → Prop} {a : Act} {w : World} {l : List Oper} (hm : P.follows .mixedOrders = true) (hB : Region.lexB .any l.toArray = true)
  (h : WQ P l.toArray (fun w' => ∃ p : Regrown, w' = Sort.grow (redrawn w p.d) p.os) (fun a' => ∀ w', (∃ p : Regrown, w' = Sort.grow (redrawn w p.d) p.os) → Q .normal a' w') l a) : (Code.region id l.toArray true).wp P Q a w :=
 wp_region_quiet_below hm hB h.out
end
namespace token
open Go.RowKit
structure Rdy (w W:World) (c i a t:Int):Prop where
 below:Below w.heap.size w W
 b0:W.cell? ⟨w.heap.size,0,none⟩=some (zI c)
 b1:W.cell? ⟨w.heap.size,1,none⟩=some (zI i)
 b2:W.cell? ⟨w.heap.size,2,none⟩=some (zI a)
 b3:W.cell? ⟨w.heap.size,3,none⟩=some (zI t)
 i0:W.cell? ⟨w.heap.size+1,0,none⟩=some (zI 1)
 i1:W.cell? ⟨w.heap.size+1,1,none⟩=some (zI 1048575)
 t0:W.cell? ⟨w.heap.size+1+1,0,none⟩=some (zI 0)
 t1:W.cell? ⟨w.heap.size+1+1,1,none⟩=some (zI 65535)
theorem rdy_of (w:World) (c i a t:Int):Rdy w (((w.alloc (.cells #[zI c,zI i,zI a,zI t] 54)).alloc (.cells #[zI 1,zI 1048575] 151)).alloc (.cells #[zI 0,zI 65535] 151)) c i a t:=by
 have h0:=((Blk.new w #[zI c,zI i,zI a,zI t] 54).alloc (.cells #[zI 1,zI 1048575] 151)).alloc (.cells #[zI 0,zI 65535] 151);have h1:=(Blk.new1 w (.cells #[zI c,zI i,zI a,zI t] 54) #[zI 1,zI 1048575] 151).alloc (.cells #[zI 0,zI 65535] 151);have h2:=Blk.new2 w (.cells #[zI c,zI i,zI a,zI t] 54) (.cells #[zI 1,zI 1048575] 151) #[zI 0,zI 65535] 151;exact ⟨((((Below.refl _ _).alloc (Nat.le_refl _) _).alloc (by simp) _).alloc (by simp;omega) _),h0.cell 0,h0.cell 1,h0.cell 2,h0.cell 3,h1.cell 0,h1.cell 1,h2.cell 0,h2.cell 1⟩
theorem flaw_class (c i a t:Int) (w:World) (h:c<0∨3<c) :
  Calls Tryz.prog 27 #[.agg #[zI c,zI i,zI a,zI t]] w fun e w'=>e = .returned (zI 9)∧Below w.heap.size w w':=by
 have hb:Below w.heap.size w (w.alloc (.cells #[zI c,zI i,zI a,zI t] 54)):=(Below.refl _ _).alloc (Nat.le_refl _) _;by_cases h0:c<0
 ·clear h;go_enter Tryz.func27,Tryz.ntmps27;go_wp2;go_ret;exact ⟨rfl,hb⟩
 ·have h1:0≤c:=by omega
  have h2:4≤c:=by omega
  clear h;go_enter Tryz.func27,Tryz.ntmps27;go_wp2;go_ret;exact ⟨rfl,hb⟩
theorem flaw_in (c:Nat) (lo hi i a t:Int) (w:World) (hc:c<4) (g0:w.cell? ⟨1,c*2,none⟩=some (zI lo)) (g1:w.cell? ⟨1,c*2+1,none⟩=some (zI hi)) :
  Calls Tryz.prog 27 #[.agg #[zI (c:Int),zI i,zI a,zI t]] w fun e w'=>e = .returned (zI (if hasI 1 1048575 i && (hasI lo hi a && hasI 0 65535 t) then 0 else 2))∧Below w.heap.size w w':=by
 have HR:Hid (Rdy w (((w.alloc (.cells #[zI (c:Int),zI i,zI a,zI t] 54)).alloc (.cells #[zI 1,zI 1048575] 151)).alloc (.cells #[zI 0,zI 65535] 151)) c i a t):=rdy_of w c i a t;have g0':=HR.o.below.cell (World.block_lt_of_cell? w _ g0);rw [g0] at g0';have g1':=HR.o.below.cell (World.block_lt_of_cell? w _ g1);rw [g1] at g1';have HI:Hid (∀ W,Calls Tryz.prog 58 #[.agg #[zI 1,zI 1048575],zI i] W fun e w'=>e = .returned (.bool (hasI 1 1048575 i))∧Below W.heap.size W w'):=fun W=>has_any _ _ _ W;have HA:Hid (∀ W,Calls Tryz.prog 58 #[.agg #[zI lo,zI hi],zI a] W fun e w'=>e = .returned (.bool (hasI lo hi a))∧Below W.heap.size W w'):=fun W=>has_any _ _ _ W;have HU:Hid (∀ W,Calls Tryz.prog 58 #[.agg #[zI 0,zI 65535],zI t] W fun e w'=>e = .returned (.bool (hasI 0 65535 t))∧Below W.heap.size W w'):=fun W=>has_any _ _ _ W;clear g0 g1;have c0:¬ (c:Int)<0:=by omega
 have c1:¬ 4≤(c:Int):=by omega
 have c2:(c:Int)<4:=by omega
 generalize hasI 1 1048575 i=bi at *;generalize hasI lo hi a=ba at *;generalize hasI 0 65535 t=bt at *;cases bi with
 | false=>
  go_enter Tryz.func27,Tryz.ntmps27;go_wp2_with fail;generalize (((w.alloc (.cells #[zI (c:Int),zI i,zI a,zI t] 54)).alloc (.cells #[zI 1,zI 1048575] 151)).alloc (.cells #[zI 0,zI 65535] 151))=W at *;have k0:=cell_regrown HR.o.b0;have k1:=cell_regrown HR.o.b1;have k2:=cell_regrown HR.o.b2;have k3:=cell_regrown HR.o.b3;have k4:=cell_regrown HR.o.i0;have k5:=cell_regrown HR.o.i1;have k6:=cell_regrown HR.o.t0;have k7:=cell_regrown HR.o.t1;have k8:=cell_regrown g0';have k9:=cell_regrown g1';have HB:Hid (Below w.heap.size w W):=HR.o.below;clear HR g0' g1';refine wq_below (by kernel_rfl) (by kernel_rfl) ?_
  iterate 3 (refine wq_step (fun K hK=>?_);go_simp;refine hK _ ?_;clear hK K)
  refine wq_step (fun K hK=>?_);go_simp;apply Exists.intro;refine ⟨fun _=>?_,hK _ ?_⟩;exact Calls.regrown_of (HI.o _);clear hK K
  iterate 2 (refine wq_step (fun K hK=>?_);go_simp;refine hK _ ?_;clear hK K)
  iterate 8 (refine wq_skip (by kernel_rfl) ?_;simp only [Act.put,zq])
  iterate 2 (refine wq_step (fun K hK=>?_);go_simp;refine hK _ ?_;clear hK K)
  iterate 5 (refine wq_skip (by kernel_rfl) ?_;simp only [Act.put,zq])
  iterate 1 (refine wq_step (fun K hK=>?_);go_simp;refine hK _ ?_;clear hK K)
  refine wq_nil ?_;intro _ hw';obtain ⟨⟨dq,osq⟩,hw''⟩:=hw';subst hw'';go_wp2_with fail;go_ret;exact ⟨rfl,HB.o.trans ((below_regrown W dq osq).mono HB.o.size)⟩
 | true=>
  cases ba with
  | false=>
   go_enter Tryz.func27,Tryz.ntmps27;go_wp2_with fail;generalize (((w.alloc (.cells #[zI (c:Int),zI i,zI a,zI t] 54)).alloc (.cells #[zI 1,zI 1048575] 151)).alloc (.cells #[zI 0,zI 65535] 151))=W at *;have k0:=cell_regrown HR.o.b0;have k1:=cell_regrown HR.o.b1;have k2:=cell_regrown HR.o.b2;have k3:=cell_regrown HR.o.b3;have k4:=cell_regrown HR.o.i0;have k5:=cell_regrown HR.o.i1;have k6:=cell_regrown HR.o.t0;have k7:=cell_regrown HR.o.t1;have k8:=cell_regrown g0';have k9:=cell_regrown g1';have HB:Hid (Below w.heap.size w W):=HR.o.below;clear HR g0' g1';refine wq_below (by kernel_rfl) (by kernel_rfl) ?_
   iterate 3 (refine wq_step (fun K hK=>?_);go_simp;refine hK _ ?_;clear hK K)
   refine wq_step (fun K hK=>?_);go_simp;apply Exists.intro;refine ⟨fun _=>?_,hK _ ?_⟩;exact Calls.regrown_of (HI.o _);clear hK K
   iterate 8 (refine wq_step (fun K hK=>?_);go_simp;refine hK _ ?_;clear hK K)
   refine wq_step (fun K hK=>?_);go_simp;apply Exists.intro;refine ⟨fun _=>?_,hK _ ?_⟩;exact Calls.regrown_of (HA.o _);clear hK K
   iterate 3 (refine wq_step (fun K hK=>?_);go_simp;refine hK _ ?_;clear hK K)
   iterate 5 (refine wq_skip (by kernel_rfl) ?_;simp only [Act.put,zq])
   iterate 1 (refine wq_step (fun K hK=>?_);go_simp;refine hK _ ?_;clear hK K)
   refine wq_nil ?_;intro _ hw';obtain ⟨⟨dq,osq⟩,hw''⟩:=hw';subst hw'';go_wp2_with fail;go_ret;exact ⟨rfl,HB.o.trans ((below_regrown W dq osq).mono HB.o.size)⟩
  | true=>
   cases bt with
   | false=>
    go_enter Tryz.func27,Tryz.ntmps27;go_wp2_with fail;generalize (((w.alloc (.cells #[zI (c:Int),zI i,zI a,zI t] 54)).alloc (.cells #[zI 1,zI 1048575] 151)).alloc (.cells #[zI 0,zI 65535] 151))=W at *;have k0:=cell_regrown HR.o.b0;have k1:=cell_regrown HR.o.b1;have k2:=cell_regrown HR.o.b2;have k3:=cell_regrown HR.o.b3;have k4:=cell_regrown HR.o.i0;have k5:=cell_regrown HR.o.i1;have k6:=cell_regrown HR.o.t0;have k7:=cell_regrown HR.o.t1;have k8:=cell_regrown g0';have k9:=cell_regrown g1';have HB:Hid (Below w.heap.size w W):=HR.o.below;clear HR g0' g1';refine wq_below (by kernel_rfl) (by kernel_rfl) ?_
    iterate 3 (refine wq_step (fun K hK=>?_);go_simp;refine hK _ ?_;clear hK K)
    refine wq_step (fun K hK=>?_);go_simp;apply Exists.intro;refine ⟨fun _=>?_,hK _ ?_⟩;exact Calls.regrown_of (HI.o _);clear hK K
    iterate 8 (refine wq_step (fun K hK=>?_);go_simp;refine hK _ ?_;clear hK K)
    refine wq_step (fun K hK=>?_);go_simp;apply Exists.intro;refine ⟨fun _=>?_,hK _ ?_⟩;exact Calls.regrown_of (HA.o _);clear hK K
    iterate 6 (refine wq_step (fun K hK=>?_);go_simp;refine hK _ ?_;clear hK K)
    refine wq_step (fun K hK=>?_);go_simp;apply Exists.intro;refine ⟨fun _=>?_,hK _ ?_⟩;exact Calls.regrown_of (HU.o _);clear hK K
    iterate 2 (refine wq_step (fun K hK=>?_);go_simp;refine hK _ ?_;clear hK K)
    refine wq_nil ?_;intro _ hw';obtain ⟨⟨dq,osq⟩,hw''⟩:=hw';subst hw'';go_wp2_with fail;go_ret;exact ⟨rfl,HB.o.trans ((below_regrown W dq osq).mono HB.o.size)⟩
   | true=>
    go_enter Tryz.func27,Tryz.ntmps27;go_wp2_with fail;generalize (((w.alloc (.cells #[zI (c:Int),zI i,zI a,zI t] 54)).alloc (.cells #[zI 1,zI 1048575] 151)).alloc (.cells #[zI 0,zI 65535] 151))=W at *;have k0:=cell_regrown HR.o.b0;have k1:=cell_regrown HR.o.b1;have k2:=cell_regrown HR.o.b2;have k3:=cell_regrown HR.o.b3;have k4:=cell_regrown HR.o.i0;have k5:=cell_regrown HR.o.i1;have k6:=cell_regrown HR.o.t0;have k7:=cell_regrown HR.o.t1;have k8:=cell_regrown g0';have k9:=cell_regrown g1';have HB:Hid (Below w.heap.size w W):=HR.o.below;clear HR g0' g1';refine wq_below (by kernel_rfl) (by kernel_rfl) ?_
    iterate 3 (refine wq_step (fun K hK=>?_);go_simp;refine hK _ ?_;clear hK K)
    refine wq_step (fun K hK=>?_);go_simp;apply Exists.intro;refine ⟨fun _=>?_,hK _ ?_⟩;exact Calls.regrown_of (HI.o _);clear hK K
    iterate 8 (refine wq_step (fun K hK=>?_);go_simp;refine hK _ ?_;clear hK K)
    refine wq_step (fun K hK=>?_);go_simp;apply Exists.intro;refine ⟨fun _=>?_,hK _ ?_⟩;exact Calls.regrown_of (HA.o _);clear hK K
    iterate 6 (refine wq_step (fun K hK=>?_);go_simp;refine hK _ ?_;clear hK K)
    refine wq_step (fun K hK=>?_);go_simp;apply Exists.intro;refine ⟨fun _=>?_,hK _ ?_⟩;exact Calls.regrown_of (HU.o _);clear hK K
    iterate 2 (refine wq_step (fun K hK=>?_);go_simp;refine hK _ ?_;clear hK K)
    refine wq_nil ?_;intro _ hw';obtain ⟨⟨dq,osq⟩,hw''⟩:=hw';subst hw'';go_wp2_with fail;go_ret;exact ⟨rfl,HB.o.trans ((below_regrown W dq osq).mono HB.o.size)⟩
theorem flaw_any (c i a t:Int) (w:World) (ht:TTab w) :
  Calls Tryz.prog 27 #[.agg #[zI c,zI i,zI a,zI t]] w fun e w'=>e = .returned (zI (flawT c i a t))∧Below w.heap.size w w':=by
 by_cases h:c<0∨3<c
 ·rw [flawT_class h];exact flaw_class c i a t w h
 ·have h8:=ht.amounts.cell;rw [flawT_in h];rcases (by omega:c=0∨c=1∨c=2∨c=3) with rfl | rfl | rfl | rfl
  ·exact flaw_in 0 1 2097151 i a t w (by omega) h8.1 h8.2.1
  ·exact flaw_in 1 0 0 i a t w (by omega) h8.2.2.1 h8.2.2.2.1
  ·exact flaw_in 2 1 15 i a t w (by omega) h8.2.2.2.2.1 h8.2.2.2.2.2.1
  ·exact flaw_in 3 0 0 i a t w (by omega) h8.2.2.2.2.2.2.1 h8.2.2.2.2.2.2.2
end token
namespace vnd
open disk (RepIs repD lenAt itD)
open book (Ev ev0 evOf ECame)
open Go.RowKit
theorem it_in (c:List Int) (k:Nat):∀ z∈(disk.itD c k).1,∀ x∈z,x∈c:=by
 induction k with
 | zero=>intro z hz;simp [disk.itD] at hz
 | succ k ih=>
  intro z hz x hx;by_cases h:0<disk.lenAt c (disk.itD c k).2
  ·rw [disk.it_live h] at hz;rcases List.mem_append.1 hz with hz | hz
   ·exact ih z hz x hx
   ·rw [List.mem_singleton.1 hz] at hx;exact List.mem_of_mem_drop (List.mem_of_mem_take hx)
  ·have e:=disk.it_dead h 1;rw [e] at hz;exact ih z hz x hx
theorem rep_in {c:List Int} {o:List (List Int)} {x f:Int} (h:RepIs c o x f):∀ z∈o,∀ y∈z,y∈c:=by
 rcases h with ⟨_,rfl,_⟩ | ⟨_,_,rfl,_⟩ | ⟨_,_,rfl,_⟩
 ·intro z hz;cases hz
 ·intro z hz;cases hz
 ·exact it_in c _
theorem rep_len {c:List Int} {o:List (List Int)} {x f:Int} (h:RepIs c o x f):o.length≤2048:=(disk.rep_few h).1
theorem getD_inR {o:List (List Int)} {j:Nat} (h:j<o.length):o.getD j []∈o:=by
 have e:o.getD j []=o[j]:=by simp [List.getD,List.getElem?_eq_getElem h]
 rw [e];exact List.getElem_mem _
theorem take_mapE (o:List (List Int)) (k:Nat) (h:k<o.length):(o.take k).map evOf++[evOf (o.getD k [])]=(o.take (k+1)).map evOf:=by
 have e:o.getD k []=o[k]:=by simp [List.getD,List.getElem?_eq_getElem h]
 rw [List.take_succ_eq_append_getElem h,List.map_append,e];rfl
def KeptPost (w:World) (c:List Int) (e:Ending) (w':World):Prop:=∃ p m cp l f,e = .returned (.tuple #[.slice p m cp,zI f])∧KeptIs c l f∧ECame w' p m cp l∧m≤2048∧Below w.heap.size w w'
theorem ecame_nil (w:World):ECame w none 0 0 []:=⟨⟨rfl,.inl rfl⟩,fun _=>rfl,Nat.le_refl _,by omega,fun v hv=>by cases hv⟩
end vnd
namespace deb
open tar (Du du0 Came RowD Ld ErrPost TwoPost PairT)
open Go.RowKit
theorem ktotal:KdTotal:=by
 intro w a len cap ls hcame;have hr:=hcame.row;have HFA:Hid (Calls Tryz.prog 150 #[.slice a len cap] w fun e w'=>∃ f,e = .returned (zI f)∧FaultIs ls f∧Below w.heap.size w w'):=pcheck a len cap ls w hr hcame.most;have HOW:Hid (Mays ls→∀ W,Below w.heap.size w W→Calls Tryz.prog 151 #[.slice a len cap] W fun e w'=>e = .returned (zI (sumD ls))∧Below W.heap.size W w'):=fun hm W hW=>powed a len cap ls W (hr.below hW) hm;clear hcame hr;go_enter Tryz.func139,Tryz.ntmps139;go_wp2_with fail;refine HFA.o.mono ?_;rintro e w1 ⟨f,rfl,hf,hb1⟩;have HB1:Hid (Below w.heap.size w w1):=hb1;have HF:Hid (FaultIs ls f):=hf;clear hb1 HFA;by_cases h0:f=0
 ·subst h0;have hm:=hf.ok.1 rfl;have HO2:Hid (Calls Tryz.prog 151 #[.slice a len cap] w1 fun e w'=>e = .returned (zI (sumD ls))∧Below w1.heap.size w1 w'):=HOW.o hm w1 HB1.o;clear hf hm HOW;go_wp2_with fail;refine HO2.o.mono ?_;rintro e w2 ⟨rfl,hb2⟩;have HB2:=shB HB1 hb2;clear hb2 HO2;go_wp2_with fail;go_ret2;exact ⟨_,_,rfl,⟨HF.o,.inl ⟨rfl,rfl⟩⟩,HB2.o⟩
 ·have hne:(f != 0)=true:=by simpa using h0
  have HN:Hid (f≠0):=h0;clear hf h0 HOW;go_wp2_with fail;go_ret2;exact ⟨_,_,rfl,⟨HF.o,.inr ⟨HN.o,rfl⟩⟩,HB1.o⟩
end deb
namespace acc
open tar (Du du0 Came RowD Ld PairT)
open Go.RowKit
def MayPost (w:World) (x:Ac) (e:Ending) (w':World):Prop:=∃ r,e = .returned (.bool r)∧(r=true↔AMay x)∧Below w.heap.size w w'
theorem pmay (x:Ac) (p:Option Addr) (len cap:Nat) (w:World) (h:Came w p len cap x.ds):Calls Tryz.prog 119 #[.agg #[zI x.me,zI x.rv,zI x.nx,zI x.mo,zI x.bo,zI x.fr,.slice p len cap]] w fun e w'=>MayPost w x e w':=by
 have HI0:Hid (∀ W,Calls Tryz.prog 114 #[zI 0,zI 49,zI x.me] W fun e w'=>e = .returned (.bool (decide (0≤x.me∧x.me≤49)))∧w'=W):=fun W=>awithin 0 49 x.me W;have HI1:Hid (∀ W,Calls Tryz.prog 114 #[zI 0,zI 15,zI x.rv] W fun e w'=>e = .returned (.bool (decide (0≤x.rv∧x.rv≤15)))∧w'=W):=fun W=>awithin 0 15 x.rv W;have HI2:Hid (∀ W,Calls Tryz.prog 114 #[zI 1,zI 1048576,zI x.nx] W fun e w'=>e = .returned (.bool (decide (1≤x.nx∧x.nx≤1048576)))∧w'=W):=fun W=>awithin 1 1048576 x.nx W;have HI3:Hid (∀ W,Calls Tryz.prog 114 #[zI 0,zI 2399,zI x.mo] W fun e w'=>e = .returned (.bool (decide (0≤x.mo∧x.mo≤2399)))∧w'=W):=fun W=>awithin 0 2399 x.mo W;have HI4:Hid (∀ W,Calls Tryz.prog 114 #[zI 0,zI 10000000,zI x.bo] W fun e w'=>e = .returned (.bool (decide (0≤x.bo∧x.bo≤10000000)))∧w'=W):=fun W=>awithin 0 10000000 x.bo W;have HI5:Hid (∀ W,Calls Tryz.prog 114 #[zI (-1),zI x.mo,zI x.fr] W fun e w'=>e = .returned (.bool (decide (-1≤x.fr∧x.fr≤x.mo)))∧w'=W):=fun W=>awithin (-1) x.mo x.fr W;obtain ⟨WW,HWW,HBK,HBA,-⟩:=sh1 w #[zI x.me,zI x.rv,zI x.nx,zI x.mo,zI x.bo,zI x.fr,.slice p len cap] 61;have HTO:Hid (Calls Tryz.prog 139 #[.slice p len cap] WW fun e w'=>tar.TwoPost WW (deb.OwedIs x.ds) e w'):=deb.ktotal _ p len cap x.ds (h.below HBA.o);have c6:WW.cell? ⟨w.heap.size,6,none⟩=some (.slice p len cap):=HBK.o.cell 6;clear h;go_enter Tryz.func119,Tryz.ntmps119;go_upto_region 1 with fail
 rw [HWW.o];clear HWW;go_wp2_with fail;refine HTO.o.mono ?_;rintro e w1 ⟨tt,f,rfl,hf,hb1⟩;have HB1:=shB HBA hb1;have HK1:=shN HBK hb1;have HF:Hid (f=0↔deb.Mays x.ds):=hf.1.ok;clear hf hb1 HTO HBA HBK c6;obtain ⟨c0,c1,c2,c3,c4,c5,c6⟩:=scl7 HK1;by_cases h0:f=0
 ·have HM:Hid (deb.Mays x.ds):=HF.o.1 h0;subst h0;by_cases g0:0≤x.me∧x.me≤49
  ·rw [decide_eq_true g0] at HI0;go_wp2_with fail;refine (HI0.o _).mono ?_;rintro e w2 ⟨rfl,hw2⟩;subst w2;by_cases g1:0≤x.rv∧x.rv≤15
   ·rw [decide_eq_true g1] at HI1;go_wp2_with fail;refine (HI1.o _).mono ?_;rintro e w2 ⟨rfl,hw2⟩;subst w2;by_cases g2:1≤x.nx∧x.nx≤1048576
    ·rw [decide_eq_true g2] at HI2;go_wp2_with fail;refine (HI2.o _).mono ?_;rintro e w2 ⟨rfl,hw2⟩;subst w2;by_cases g3:0≤x.mo∧x.mo≤2399
     ·rw [decide_eq_true g3] at HI3;go_wp2_with fail;refine (HI3.o _).mono ?_;rintro e w2 ⟨rfl,hw2⟩;subst w2;by_cases g4:0≤x.bo∧x.bo≤10000000
      ·rw [decide_eq_true g4] at HI4;go_wp2_with fail;refine (HI4.o _).mono ?_;rintro e w2 ⟨rfl,hw2⟩;subst w2;by_cases g5:-1≤x.fr∧x.fr≤x.mo
       ·rw [decide_eq_true g5] at HI5;go_wp2_with fail;refine (HI5.o _).mono ?_;rintro e w2 ⟨rfl,hw2⟩;subst w2;have HY:Hid (AMay x):=⟨HM.o,g0,g1,g2,g3,g4,g5⟩
        go_wp2_with fail;go_ret;exact ⟨true,rfl,⟨fun _=>HY.o,fun _=>rfl⟩,HB1.o⟩
       ·rw [decide_eq_false g5] at HI5;have HN:Hid (¬ AMay x):=fun h=>g5 h.2.2.2.2.2.2;clear g5;go_wp2_with fail;refine (HI5.o _).mono ?_;rintro e w2 ⟨rfl,hw2⟩;subst w2;go_wp2_with fail
        all_goals first
         | (rename_i q1 q2;exact absurd q1 (by simp [undef]))
         | (go_ret;exact ⟨false,rfl,⟨fun h=>absurd h (by decide),fun h=>absurd h HN.o⟩,HB1.o⟩)
      ·rw [decide_eq_false g4] at HI4;have HN:Hid (¬ AMay x):=fun h=>g4 h.2.2.2.2.2.1;clear g4;go_wp2_with fail;refine (HI4.o _).mono ?_;rintro e w2 ⟨rfl,hw2⟩;subst w2;go_wp2_with fail
       all_goals first
        | (rename_i q1 q2;exact absurd q1 (by simp [undef]))
        | (go_ret;exact ⟨false,rfl,⟨fun h=>absurd h (by decide),fun h=>absurd h HN.o⟩,HB1.o⟩)
     ·rw [decide_eq_false g3] at HI3;have HN:Hid (¬ AMay x):=fun h=>g3 h.2.2.2.2.1;clear g3;go_wp2_with fail;refine (HI3.o _).mono ?_;rintro e w2 ⟨rfl,hw2⟩;subst w2;go_wp2_with fail
      all_goals first
       | (rename_i q1 q2;exact absurd q1 (by simp [undef]))
       | (go_ret;exact ⟨false,rfl,⟨fun h=>absurd h (by decide),fun h=>absurd h HN.o⟩,HB1.o⟩)
    ·rw [decide_eq_false g2] at HI2;have HN:Hid (¬ AMay x):=fun h=>g2 h.2.2.2.1;clear g2;go_wp2_with fail;refine (HI2.o _).mono ?_;rintro e w2 ⟨rfl,hw2⟩;subst w2;go_wp2_with fail
     all_goals first
      | (rename_i q1 q2;exact absurd q1 (by simp [undef]))
      | (go_ret;exact ⟨false,rfl,⟨fun h=>absurd h (by decide),fun h=>absurd h HN.o⟩,HB1.o⟩)
   ·rw [decide_eq_false g1] at HI1;have HN:Hid (¬ AMay x):=fun h=>g1 h.2.2.1;clear g1;go_wp2_with fail;refine (HI1.o _).mono ?_;rintro e w2 ⟨rfl,hw2⟩;subst w2;go_wp2_with fail
    all_goals first
     | (rename_i q1 q2;exact absurd q1 (by simp [undef]))
     | (go_ret;exact ⟨false,rfl,⟨fun h=>absurd h (by decide),fun h=>absurd h HN.o⟩,HB1.o⟩)
  ·rw [decide_eq_false g0] at HI0;have HN:Hid (¬ AMay x):=fun h=>g0 h.2.1;clear g0;go_wp2_with fail;refine (HI0.o _).mono ?_;rintro e w2 ⟨rfl,hw2⟩;subst w2;go_wp2_with fail
   all_goals first
    | (rename_i q1 q2;exact absurd q1 (by simp [undef]))
    | (go_ret;exact ⟨false,rfl,⟨fun h=>absurd h (by decide),fun h=>absurd h HN.o⟩,HB1.o⟩)
 ·have d0:(f == 0)=false:=by simpa using h0
  have HN:Hid (¬ AMay x):=fun h=>h0 (HF.o.2 h.1);clear h0;go_wp2_with fail
  all_goals first
   | (rename_i q1 q2;exact absurd q1 (by simp [undef]))
   | (go_ret;exact ⟨false,rfl,⟨fun h=>absurd h (by decide),fun h=>absurd h HN.o⟩,HB1.o⟩)
end acc
end Go.Proofs.YtdpfnedfakgolaaGreatDoor
