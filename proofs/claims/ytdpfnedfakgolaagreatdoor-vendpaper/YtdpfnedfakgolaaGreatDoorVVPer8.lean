import Derived.Test.YtdpfnedfakgolaaGreatDoorVVPer7
set_option linter.unusedVariables false
set_option linter.unusedSimpArgs false
set_option maxHeartbeats 4000000
set_option maxRecDepth 100000
namespace Go.Proofs.YtdpfnedfakgolaaGreatDoor
namespace words
def decF:Nat→Nat→List Int
 | 0,u=>[48+(u:Int)]
 | k+1,u=>if u<10 then [48+(u:Int)] else decF k (u / 10)++[48+((u % 10:Nat):Int)]
def decL (u:Nat):List Int:=decF u u
theorem decF_same:∀ (k j u:Nat),u≤k→u≤j→decF k u=decF j u:=by
 intro k
 induction k with
 | zero=>
  intro j u h1 h2;have:u=0:=by omega
  subst this;cases j with
  | zero=>rfl
  | succ j=>simp [decF]
 | succ k ih=>
  intro j u h1 h2;by_cases h0:u<10
  ·cases j with
   | zero=>
    have:u=0:=by omega
    subst this;simp [decF]
   | succ j=>rw [decF,decF,if_pos h0,if_pos h0]
  ·obtain ⟨j',rfl⟩:∃ j',j=j'+1:=⟨j - 1,by omega⟩
   rw [decF,decF,if_neg h0,if_neg h0,ih j' (u / 10) (by omega) (by omega)]
theorem decL_one {u:Nat} (h:u<10):decL u=[48+(u:Int)]:=by
 unfold decL;cases u with
 | zero=>rfl
 | succ k=>rw [decF,if_pos h]
theorem decL_more {u:Nat} (h:¬ u<10):decL u=decL (u / 10)++[48+((u % 10:Nat):Int)]:=by
 obtain ⟨k,rfl⟩:∃ k,u=k+1:=⟨u - 1,by omega⟩
 unfold decL;rw [decF,if_neg h,decF_same k _ _ (by omega) (Nat.le_refl _)]
theorem decL_len (k:Nat):∀ u:Nat,u<10 ^ (k+1)→1≤(decL u).length∧(decL u).length≤k+1:=by
 induction k with
 | zero=>intro u h;rw [decL_one (by omega)];simp
 | succ k ih=>
  intro u h;by_cases h1:u<10
  ·rw [decL_one h1];simp
  ·rw [decL_more h1];have:=ih (u / 10) (by rw [Nat.pow_succ] at h;omega);simp;omega
theorem decL_len29 (u:Nat) (h:(u:Int)<top):1≤(decL u).length∧(decL u).length≤29:=decL_len 28 u (by unfold top at h;omega)
def dvalI (l:List Int):Int:=l.foldl (fun n c=>n*10+(c - 48)) 0
theorem dvalI_snoc (l:List Int) (c:Int):dvalI (l++[c])=dvalI l*10+(c - 48):=by simp [dvalI,List.foldl_append]
theorem decL_val (u:Nat):dvalI (decL u)=u:=by
 induction u using Nat.strongRecOn with
 | _ u ih=>
  by_cases h:u<10
  ·rw [decL_one h];simp [dvalI];omega
  ·rw [decL_more h,dvalI_snoc,ih (u / 10) (by omega)];omega
theorem decL_dig (u:Nat):∀ c∈decL u,48≤c∧c≤57:=by
 induction u using Nat.strongRecOn with
 | _ u ih=>
  by_cases h:u<10
  ·rw [decL_one h];intro c hc;simp at hc;omega
  ·rw [decL_more h];intro c hc;rcases List.mem_append.1 hc with hc | hc
   ·exact ih (u / 10) (by omega) c hc
   ·simp at hc;omega
end words
namespace check
open Go.RowKit
def isD (c:UInt8):Bool:=decide (48≤c.toNat) && decide (c.toNat≤57)
def allD (l:List UInt8):Bool:=l.all isD
theorem allD_append (a b:List UInt8):allD (a++b)=(allD a && allD b):=by simp [allD]
theorem isD_bd {c:UInt8} (h:isD c=true):48≤(c.toNat:Int)∧(c.toNat:Int)≤57:=by
 simp [isD] at h;omega
theorem len_eq (s:ByteArray):s.data.toList.length=s.size:=Array.length_toList
theorem take_snoc (s:ByteArray) (k:Nat) (h:k<s.size):s.data.toList.take (k+1)=s.data.toList.take k++[s[k]]:=by
 rw [List.take_succ_eq_append_getElem (by simpa using h)];rfl
theorem allD_take_no (s:ByteArray) (k:Nat) (h:k<s.size) (hn:isD s[k]=false):allD s.data.toList=false:=by
 have e:s.data.toList=s.data.toList.take k++[s[k]]++s.data.toList.drop (k+1):=by rw [← take_snoc s k h,List.take_append_drop]
 rw [e,allD_append,allD_append];simp [allD,hn]
theorem isD_yes {c:UInt8} (h1:48≤(c.toNat:Int)) (h2:(c.toNat:Int)≤57):isD c=true:=by simp [isD];omega
theorem isD_lo {c:UInt8} (h1:(c.toNat:Int)<48):isD c=false:=by simp [isD];omega
theorem isD_hi {c:UInt8} (h1:57<(c.toNat:Int)):isD c=false:=by simp [isD];omega
end check
namespace book
open Go.RowKit
def So.cs (x:So):List Value:=[zI x.id,zI x.cl,zI x.am,zI x.tg,zI x.rv]
def So.v (x:So):Value:= .agg #[zI x.id,zI x.cl,zI x.am,zI x.tg,zI x.rv]
def cellsS:List So→List Value
 | []=>[]
 | x :: l=>x.cs++cellsS l
theorem cellsS_len (l:List So):(cellsS l).length=l.length*5:=by
 induction l with
 | nil=>rfl
 | cons e l ih=>rw [cellsS,List.length_append,ih,List.length_cons];show 5+_=_;omega
theorem cellsS_app (l m:List So):cellsS (l++m)=cellsS l++cellsS m:=by
 induction l with
 | nil=>rfl
 | cons e l ih=>rw [List.cons_append,cellsS,cellsS,ih,List.append_assoc]
theorem oneS (l:List So):∀ u∈cellsS l,u.oneCell'=true:=by
 induction l with
 | nil=>intro u hu;cases hu
 | cons e l ih=>
  intro u hu;rw [cellsS] at hu;rcases List.mem_append.1 hu with hu | hu
  ·simp only [So.cs,List.mem_cons,List.not_mem_nil,or_false] at hu;rcases hu with rfl | rfl | rfl | rfl | rfl <;> rfl
  ·exact ih u hu
theorem cellsS_at (l:List So) (k j:Nat) (hk:k<l.length) (hj:j<5):(cellsS l)[k*5+j]?=(l.getD k so0).cs[j]?:=by
 induction l generalizing k with
 | nil=>simp at hk
 | cons x l ih=>
  have h8:x.cs.length=5:=rfl;cases k with
  | zero=>rw [Nat.zero_mul,Nat.zero_add,cellsS,List.getElem?_append_left (by omega)];rfl
  | succ k=>
   rw [show (k+1)*5+j=x.cs.length+(k*5+j) by omega,cellsS,List.getElem?_append_right (by omega),Nat.add_sub_cancel_left];exact ih k (by simpa using hk)
def RowS (w:World) (a:Option Addr) (n:Nat) (l:List So):Prop:=l.length=n∧(n=0∨∃ b off,a=some ⟨b,off,none⟩∧b<w.heap.size∧∀ i j,i<n→j<5→w.cell? ⟨b,off+i*5+j,none⟩=(l.getD i so0).cs[j]?)
theorem RowS.below {w w':World} {a:Option Addr} {n:Nat} {l:List So} (h:RowS w a n l) (hb:Below w.heap.size w w'):RowS w' a n l:=by
 refine ⟨h.1,?_⟩;rcases h.2 with h0 | ⟨b,off,rfl,lb,hc⟩
 ·exact .inl h0
 ·exact .inr ⟨b,off,rfl,Nat.lt_of_lt_of_le lb hb.size,fun i j hi hj=>(hb.cell (p:=⟨b,off+i*5+j,none⟩) lb).trans (hc i j hi hj)⟩
def Lo (w:World) (base:Nat) (v:Value) (l:List So):Prop:=w.ownsRow base 114 5 v l.length (cellsS l)
theorem Lo.zero (w:World) (base:Nat):Lo w base (zS) []:=World.ownsRow_nil _ _ _ _
theorem Lo.alloc {w:World} {base:Nat} {v:Value} {l:List So} (h:Lo w base v l) (o:Obj):Lo (w.alloc o) base v l:=World.ownsRow.alloc h o
theorem Lo.next {w w':World} {base:Nat} {v:Value} {l:List So} (h:Lo w base v l) (hb:Below w.heap.size w w'):Lo w' base v l:=by
 refine ⟨h.1,?_⟩;rcases h.2 with hn | ⟨g,cap,cur,hv,hg,hc,rest⟩
 ·exact .inl hn
 ·exact .inr ⟨g,cap,cur,hv,hg,Blk.next hc hb,rest⟩
theorem Lo.kept {w w':World} {base:Nat} {own:Option Nat} {v:Value} {l:List So} (h:Lo w base v l) (hg:w.grownBy w' own) (hne:∀ g,v.ownBlock=some g→own≠some g):Lo w' base v l:=by
 refine World.ownsRow.kept h hg ?_;cases e:v.ownBlock with
 | none=>exact .inl rfl
 | some g=>exact .inr (fun q=>hne g e q.symm)
theorem Lo.row {w:World} {base:Nat} {v:Value} {l:List So} (h:Lo w base v l):∃ a cap,v = .slice a l.length cap∧RowS w a l.length l∧(a=none→cap=0)∧l.length≤cap:=by
 rcases h.2 with ⟨hv,hn⟩ | ⟨g,cap,cur,hv,_,hc,h1,_⟩
 ·exact ⟨none,0,by rw [hn];exact hv,⟨rfl,.inl hn⟩,fun _=>rfl,by omega⟩
 ·subst hv;refine ⟨_,cap,rfl,⟨rfl,.inr ⟨g,0,rfl,Blk.lt hc,fun i j hi hj=>?_⟩⟩,(fun h=>by cases h),h1⟩;have e1:=World.ownsRow.cellAt h (i*5+j) (by omega);rw [Nat.zero_add,e1];exact cellsS_at l i j hi hj
theorem soldI:(Tryz.prog.info? 114).map (fun i=>(i.zero,i.size,i.bytes))=some (some (.agg so0.cs.toArray),5,40):=by kernel_rfl
theorem step_sold {w:World} {o:Oper} {a:Act} {K:Act→World→Prop} {Q:Exit→Act→World→Prop} (d:Nat) (hd:o.dst=some d) (s x:Operand)
  (ho:o.op = .call { callee:= .builtin .append,args:=#[s,x],argTypes:=#[62,62] })
  (base G:Nat) (v:Value) (l:List So) (r:So) (hs:a.eval s=v) (hx:a.eval x = .slice (some ⟨G,0,none⟩) 1 1) (hv:Lo w base v l) (hu:Blk w G r.cs.toArray 114) (hn:l.length≤2000000) (hbase:base≤w.heap.size)
  (h:∀ v' w',Lo w' base v' (l++[r])→w.grownBy w' v.ownBlock→(v'.ownBlock=v.ownBlock∨v'.ownBlock=some w.heap.size)→K (a.put (some d) v') w'):Oper.wp Tryz.prog o a w K Q:=by
 rw [← hd] at h;obtain ⟨i0,hi,hz0,hz1,hz2⟩:=info_parts soldI
 obtain ⟨v',w',hr,h2,h3,_,h5⟩:=run_append_own_at (P:=Tryz.prog) w base 62 o.type 114 i0 (.agg so0.cs.toArray) 5 40 Tryz.underlying62 hi hz0 hz1 hz2 rfl (by decide) v l.length (cellsS l) hv ⟨G,0,none⟩ 1 1 (cellsS [r]) (by rw [cellsS_len];rfl) (by
  intro j u hj;rw [Addr.add_lit,Nat.zero_add,hu.cell j];rw [cellsS,cellsS,List.append_nil] at hj
  simpa using hj) (oneS [r]) (by unfold maxLen;omega) (by omega) hbase
 unfold Oper.wp execOp;simp only [ho,resolve,invoke,builtin,Sem.run_bind,Sem.run_pure,Result.andThen_ok,List.map_toArray,List.map_cons,List.map_nil,hs,hx,hr];refine h v' w' ?_ h3 h5;unfold Lo;rw [List.length_append,cellsS_app];exact h2
structure Cu where
 me:Int
 rv:Int
 nx:Int
 mo:Int
 bo:Int
 fr:Int
 dp:Option Addr
 dn:Nat
 dc:Nat
 sp:Option Addr
 sn:Nat
 sc:Nat
def cu0:Cu:=⟨0,0,0,0,0,0,none,0,0,none,0,0⟩
def Cu.cs (x:Cu):List Value:=[zI x.me,zI x.rv,zI x.nx,zI x.mo,zI x.bo,zI x.fr,.slice x.dp x.dn x.dc,.slice x.sp x.sn x.sc]
def cellsC:List Cu→List Value
 | []=>[]
 | x :: l=>x.cs++cellsC l
theorem cellsC_len (l:List Cu):(cellsC l).length=l.length*8:=by
 induction l with
 | nil=>rfl
 | cons e l ih=>rw [cellsC,List.length_append,ih,List.length_cons];show 8+_=_;omega
theorem cellsC_app (l m:List Cu):cellsC (l++m)=cellsC l++cellsC m:=by
 induction l with
 | nil=>rfl
 | cons e l ih=>rw [List.cons_append,cellsC,cellsC,ih,List.append_assoc]
theorem oneC (l:List Cu):∀ u∈cellsC l,u.oneCell'=true:=by
 induction l with
 | nil=>intro u hu;cases hu
 | cons e l ih=>
  intro u hu;rw [cellsC] at hu;rcases List.mem_append.1 hu with hu | hu
  ·simp only [Cu.cs,List.mem_cons,List.not_mem_nil,or_false] at hu;rcases hu with rfl | rfl | rfl | rfl | rfl | rfl | rfl | rfl <;> rfl
  ·exact ih u hu
theorem cellsC_at (l:List Cu) (k j:Nat) (hk:k<l.length) (hj:j<8):(cellsC l)[k*8+j]?=(l.getD k cu0).cs[j]?:=by
 induction l generalizing k with
 | nil=>simp at hk
 | cons x l ih=>
  have h8:x.cs.length=8:=rfl;cases k with
  | zero=>rw [Nat.zero_mul,Nat.zero_add,cellsC,List.getElem?_append_left (by omega)];rfl
  | succ k=>
   rw [show (k+1)*8+j=x.cs.length+(k*8+j) by omega,cellsC,List.getElem?_append_right (by omega),Nat.add_sub_cancel_left];exact ih k (by simpa using hk)
def RowC (w:World) (a:Option Addr) (n:Nat) (l:List Cu):Prop:=l.length=n∧(n=0∨∃ b off,a=some ⟨b,off,none⟩∧b<w.heap.size∧∀ i j,i<n→j<8→w.cell? ⟨b,off+i*8+j,none⟩=(l.getD i cu0).cs[j]?)
theorem RowC.below {w w':World} {a:Option Addr} {n:Nat} {l:List Cu} (h:RowC w a n l) (hb:Below w.heap.size w w'):RowC w' a n l:=by
 refine ⟨h.1,?_⟩;rcases h.2 with h0 | ⟨b,off,rfl,lb,hc⟩
 ·exact .inl h0
 ·exact .inr ⟨b,off,rfl,Nat.lt_of_lt_of_le lb hb.size,fun i j hi hj=>(hb.cell (p:=⟨b,off+i*8+j,none⟩) lb).trans (hc i j hi hj)⟩
def Lc (w:World) (base:Nat) (v:Value) (l:List Cu):Prop:=w.ownsRow base 64 8 v l.length (cellsC l)
theorem Lc.zero (w:World) (base:Nat):Lc w base (zS) []:=World.ownsRow_nil _ _ _ _
theorem Lc.next {w w':World} {base:Nat} {v:Value} {l:List Cu} (h:Lc w base v l) (hb:Below w.heap.size w w'):Lc w' base v l:=by
 refine ⟨h.1,?_⟩;rcases h.2 with hn | ⟨g,cap,cur,hv,hg,hc,rest⟩
 ·exact .inl hn
 ·exact .inr ⟨g,cap,cur,hv,hg,Blk.next hc hb,rest⟩
theorem Lc.row {w:World} {base:Nat} {v:Value} {l:List Cu} (h:Lc w base v l):∃ a cap,v = .slice a l.length cap∧RowC w a l.length l∧(a=none→cap=0)∧l.length≤cap:=by
 rcases h.2 with ⟨hv,hn⟩ | ⟨g,cap,cur,hv,_,hc,h1,_⟩
 ·exact ⟨none,0,by rw [hn];exact hv,⟨rfl,.inl hn⟩,fun _=>rfl,by omega⟩
 ·subst hv;refine ⟨_,cap,rfl,⟨rfl,.inr ⟨g,0,rfl,Blk.lt hc,fun i j hi hj=>?_⟩⟩,(fun h=>by cases h),h1⟩;have e1:=World.ownsRow.cellAt h (i*8+j) (by omega);rw [Nat.zero_add,e1];exact cellsC_at l i j hi hj
theorem custI:(Tryz.prog.info? 64).map (fun i=>(i.zero,i.size,i.bytes))=some (some (.agg cu0.cs.toArray),8,96):=by kernel_rfl
theorem step_cust {w:World} {o:Oper} {a:Act} {K:Act→World→Prop} {Q:Exit→Act→World→Prop} (s x:Operand)
  (ho:o.op = .call { callee:= .builtin .append,args:=#[s,x],argTypes:=#[39,39] })
  (base G:Nat) (v:Value) (l:List Cu) (r:Cu) (hs:a.eval s=v) (hx:a.eval x = .slice (some ⟨G,0,none⟩) 1 1) (hv:Lc w base v l) (hu:Blk w G r.cs.toArray 64) (hn:l.length≤2000000) (hbase:base≤w.heap.size)
  (h:∀ v' w',Lc w' base v' (l++[r])→w.grownBy w' v.ownBlock→(v'.ownBlock=v.ownBlock∨v'.ownBlock=some w.heap.size)→K (a.put o.dst v') w'):Oper.wp Tryz.prog o a w K Q:=by
 obtain ⟨i0,hi,hz0,hz1,hz2⟩:=info_parts custI
 obtain ⟨v',w',hr,h2,h3,_,h5⟩:=run_append_own_at (P:=Tryz.prog) w base 39 o.type 64 i0 (.agg cu0.cs.toArray) 8 96 Tryz.underlying39 hi hz0 hz1 hz2 rfl (by decide) v l.length (cellsC l) hv ⟨G,0,none⟩ 1 1 (cellsC [r]) (by rw [cellsC_len];rfl) (by
  intro j u hj;rw [Addr.add_lit,Nat.zero_add,hu.cell j];rw [cellsC,cellsC,List.append_nil] at hj
  simpa using hj) (oneC [r]) (by unfold maxLen;omega) (by omega) hbase
 unfold Oper.wp execOp;simp only [ho,resolve,invoke,builtin,Sem.run_bind,Sem.run_pure,Result.andThen_ok,List.map_toArray,List.map_cons,List.map_nil,hs,hx,hr];refine h v' w' ?_ h3 h5;unfold Lc;rw [List.length_append,cellsC_app];exact h2
def FindIs (l:List Cu) (me at_ f:Int):Prop:=(∃ k,k<l.length∧(l.getD k cu0).me=me∧(∀ j,j<k→(l.getD j cu0).me≠me)∧at_=(k:Int)∧f=0)∨((∀ j,j<l.length→(l.getD j cu0).me≠me)∧at_=0∧f=18)
def FoundIs (l:List Cu) (me at_:Int):Prop:=(∃ k,k<l.length∧(l.getD k cu0).me=me∧(∀ j,j<k→(l.getD j cu0).me≠me)∧at_=(k:Int))∨((∀ j,j<l.length→(l.getD j cu0).me≠me)∧at_=-1)
end book
namespace acc
open tar (Du du0 Right MostOf cost Top)
open deb (sumD recK ageAll)
open Go.RowKit
theorem tright_wf {t:Tm} (h:TRight t):wf4 t:=by
 obtain ⟨_,⟨a1,a2⟩,⟨b1,b2⟩,⟨c1,c2⟩,d1,d2⟩:=h;exact ⟨tar.wf_mid a1 (by omega),tar.wf_mid b1 (by omega),tar.wf_mid c1 (by omega),tar.wf_mid d1 (by omega)⟩
theorem rec_bd {te db:Int} (h0:0≤te) (h1:te≤100000000) (h2:0≤db) (h3:db≤10000):0≤te*db / 10000∧te*db / 10000≤te:=by
 have a:=Int.mul_nonneg h0 h2;have b:te*db≤te*10000:=Int.mul_le_mul_of_nonneg_left h3 h0;omega
theorem most_cost {l:List Du} {x m u:Int} (h:Right l) (hx:0≤x) (hu:MostOf l x m u) (h1:1≤u):0<cost l x (x+u)∧cost l x (x+u)≤m∧x+u≤10000000∧u≤2097151:=by
 have h2:=hu.1.2;have h3:=tar.cost_bd h x (x+u) hx (by omega) (by unfold Top at h2;omega);exact ⟨by omega,hu.2.1,by unfold Top at h2;omega,by unfold Top at h2;omega⟩
theorem mays_sum {l:List Du} (h:deb.Mays l):0≤sumD l∧sumD l≤8000000000:=by
 have h1:=deb.sumD_pos (l:=l) (deb.mem_fits h.2);have h2:=h.1;exact ⟨h1.1,by have:=h1.2;omega⟩
end acc
namespace words
open Go.RowKit
abbrev Wat (w:World) (G:Nat) (x:W3):Prop:=Trio w G (.int .u32 x.a) (.int .u32 x.b) (.int .u32 x.c)
theorem Trio.lt {w:World} {G:Nat} {y0 y1 y2:Value} (h:Trio w G y0 y1 y2):G<w.heap.size:=by
 by_cases hh:G<w.heap.size
 ·exact hh
 ·unfold Trio at h;rw [Array.getElem?_eq_none (by omega)] at h;cases h
theorem Trio.below {w w':World} {G:Nat} {y0 y1 y2:Value} (h:Trio w G y0 y1 y2) (hb:Below w.heap.size w w'):Trio w' G y0 y1 y2:=by
 have hlt:=h.lt;unfold Trio at *;rw [hb.block G hlt];exact h
abbrev put3 (w:World) (G:Nat) (a b c:Value):World:=((w.setCell ⟨G,0,none⟩ a).setCell ⟨G,1,none⟩ b).setCell ⟨G,2,none⟩ c
theorem Trio.put {w:World} {G:Nat} {y0 y1 y2:Value} (h:Trio w G y0 y1 y2) (a b c:Value):Trio (put3 w G a b c) G a b c:=((h.set0 a).set1 b).set2 c
theorem below_put3 {B:Nat} {w w':World} (h:Below B w w') (G:Nat) (u v x:Value) (hG:B≤G):Below B w (put3 w' G u v x):=below_set (below_set (below_set h G 0 u hG) G 1 v hG) G 2 x hG
theorem agg_ne {x y:W3} (h:x≠y):¬ (x.a=y.a∧x.b=y.b∧x.c=y.c):=fun ⟨h1,h2,h3⟩=>h (by cases x;cases y;simp_all)
end words
section
open Go.RowKit
theorem run_neOp {P:Program} {o:Oper} {a:Act} {w:World} (ty rt:TypeId) (x y:Operand) (ho:o.op = .binOp .neq ty x y rt) (ca cb:Array Value) (hx:a.eval x = .agg ca) (hy:a.eval y = .agg cb) (hg:P.eqGuardType P.depth ty=false) (b:Bool)
  (hr:(Op.equalIn 10000 ty (.agg ca) (.agg cb)).run P w = .ok b w):(execOp a.eval o).run P w = .ok (.value (.bool (!b))) w:=by
 have hr':(Op.equal ty (.agg ca) (.agg cb)).run P w = .ok b w:=hr;unfold execOp;simp only [ho,hx,hy];have hp:∀ w':World,(program:Sem Program).run P w' = .ok P w':=fun _=>rfl;simp [eqGuard,hg,binOp,hr',hp,Sem.run_bind]
theorem wp_neE {P:Program} {ops:Array Oper} {rest:List Oper} {o:Oper} {a:Act} {w:World} {Q:Exit→Act→World→Prop} (hw:Region.wanted o (yielded ops a.tmps)=true) (ty rt:TypeId) (x y:Operand) (ho:o.op = .binOp .neq ty x y rt) (ca cb:Array Value) (hx:a.eval x = .agg ca) (hy:a.eval y = .agg cb) (hg:P.eqGuardType P.depth ty=false) (b:Bool)
  (hr:(Op.equalIn 10000 ty (.agg ca) (.agg cb)).run P w = .ok b w) (d:Nat) (hd:o.dst=some d) (h:wpList P ops Q rest (a.put (some d) (.bool (!b))) w):wpList P ops Q (o :: rest) a w:=
 wpList_step fun K hK=>by
  rw [if_pos hw];exact wp_runOp d hd (run_neOp ty rt x y ho ca cb hx hy hg b hr) (hK _ _ h)
end
namespace acc
open tar (Du du0 Came RowD Ld PairT)
open Go.RowKit
def NumPost (w:World) (g:Nat) (x:Ac) (b:Bi) (p:Option Addr) (len cap:Nat) (e:Ending) (w':World):Prop:=
 Chg w w' g∧((¬ x.nx≤1048575∧e = .returned (zI 20)∧Blk w' g (wcs x b p len cap) 233)∨(x.nx≤1048575∧e = .returned (zI 0)∧Blk w' g (wcs { x with nx:=x.nx+1 } { b with id:=x.nx } p len cap) 233))
theorem pnum (g:Nat) (x:Ac) (b:Bi) (p:Option Addr) (len cap:Nat) (w:World) (hw:Blk w g (wcs x b p len cap) 233) (hn:1≤x.nx∧x.nx≤1048576):Calls Tryz.prog 121 #[.pointer (some ⟨g,0,none⟩)] w fun e w'=>NumPost w g x b p len cap e w':=by
 obtain ⟨me,rv,nx,mo,bo,fr,ds⟩:=x;obtain ⟨id,te,de,fe,pr,ch,un⟩:=b;simp only [] at hn;have HI:Hid (Blk w g #[zI me,zI rv,zI nx,zI mo,zI bo,zI fr,.slice p len cap,zI id,zI te,zI de,zI fe,zI pr,zI ch,zI un] 233):=hw;have q2:w.cell? ⟨g,2,none⟩=some (zI nx):=HI.o.cell 2;clear hw;by_cases h1:nx≤1048575
 ·have d1:decide (1048575<nx)=false:=decide_eq_false (by omega);have hwr:IntKind.i64.wrap (nx+1)=nx+1:=by rw [IntKind.wrap_i64];omega
  have H1:Hid (nx≤1048575):=h1;go_enter Tryz.func121,Tryz.ntmps121;go_wp2_with (first | (refine wp_let1 rfl 3 _ _ rfl g 7 rfl .i64 nx rfl (by kernel_rfl) #[zI me,zI rv,zI nx,zI mo,zI bo,zI fr,.slice p len cap,zI id,zI te,zI de,zI fe,zI pr,zI ch,zI un] 233 HI.o (by simp) ?_) | fail)
  intro W1 hU1;have HI1:Hid (Blk W1 g #[zI me,zI rv,zI nx,zI mo,zI bo,zI fr,.slice p len cap,zI nx,zI te,zI de,zI fe,zI pr,zI ch,zI un] 233):=hU1.blk;have HC1:Hid (Chg w W1 g):= .upd hU1;have q2':W1.cell? ⟨g,2,none⟩=some (zI nx):=HI1.o.cell 2;clear hU1 q2 HI d1;go_wp2_with (first | (refine wp_let1 rfl 3 _ _ rfl g 2 rfl .i64 (nx+1) rfl (by kernel_rfl) #[zI me,zI rv,zI nx,zI mo,zI bo,zI fr,.slice p len cap,zI nx,zI te,zI de,zI fe,zI pr,zI ch,zI un] 233 HI1.o (by simp) ?_) | fail)
  intro W2 hU2;have HI2:Hid (Blk W2 g #[zI me,zI rv,zI (nx+1),zI mo,zI bo,zI fr,.slice p len cap,zI nx,zI te,zI de,zI fe,zI pr,zI ch,zI un] 233):=hU2.blk;have HC2:Hid (Chg w W2 g):=HC1.o.trans (.upd hU2);clear hU2 q2' HI1 HC1;go_wp2_with fail;go_ret;exact ⟨HC2.o,.inr ⟨H1.o,rfl,HI2.o⟩⟩
 ·have d1:decide (1048575<nx)=true:=decide_eq_true (by omega);have H1:Hid (¬ nx≤1048575):=h1;clear h1 hn;go_enter Tryz.func121,Tryz.ntmps121;go_wp2_with fail;go_ret;exact ⟨Chg.refl _ _,.inl ⟨Int.not_le.2 H1.o,rfl,HI.o⟩⟩
end acc
end Go.Proofs.YtdpfnedfakgolaaGreatDoor
