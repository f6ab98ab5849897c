import Derived.Test.YtnpblpbohcegoaaGreatDoorVVRry7
import Derived.Test.YtnpblpbohcegoaaGreatDoorVVRry8
set_option linter.unusedVariables false
set_option linter.unusedSimpArgs false
set_option maxHeartbeats 4000000
set_option maxRecDepth 100000
namespace Go.Proofs.YtnpblpbohcegoaaGreatDoor
namespace book
open Go.RowKit
def So.cs (x:So):List Value:=[zI x.id,zI x.cl,zI x.am,zI x.tg,zI x.rv]
def So.v (x:So):Value:= .agg #[zI x.id,zI x.cl,zI x.am,zI x.tg,zI x.rv]
def cellsS:List So→List Value
 | []=>[]
 | x :: l=>x.cs++cellsS l
theorem cellsS_len (l:List So):(cellsS l).length=l.length*5:=by
 induction l with
 | nil=>rfl
 | cons e l ih=>rw [cellsS,List.length_append,ih,List.length_cons];show 5+_=_;omega
theorem cellsS_app (l m:List So):cellsS (l++m)=cellsS l++cellsS m:=by
 induction l with
 | nil=>rfl
 | cons e l ih=>rw [List.cons_append,cellsS,cellsS,ih,List.append_assoc]
theorem oneS (l:List So):∀ u∈cellsS l,u.oneCell'=true:=by
 induction l with
 | nil=>intro u hu;cases hu
 | cons e l ih=>
  intro u hu;rw [cellsS] at hu;rcases List.mem_append.1 hu with hu | hu
  ·simp only [So.cs,List.mem_cons,List.not_mem_nil,or_false] at hu;rcases hu with rfl | rfl | rfl | rfl | rfl <;> rfl
  ·exact ih u hu
theorem cellsS_at (l:List So) (k j:Nat) (hk:k<l.length) (hj:j<5):(cellsS l)[k*5+j]?=(l.getD k so0).cs[j]?:=by
 induction l generalizing k with
 | nil=>simp at hk
 | cons x l ih=>
  have h8:x.cs.length=5:=rfl;cases k with
  | zero=>rw [Nat.zero_mul,Nat.zero_add,cellsS,List.getElem?_append_left (by omega)];rfl
  | succ k=>
   rw [show (k+1)*5+j=x.cs.length+(k*5+j) by omega,cellsS,List.getElem?_append_right (by omega),Nat.add_sub_cancel_left];exact ih k (by simpa using hk)
def RowS (w:World) (a:Option Addr) (n:Nat) (l:List So):Prop:=l.length=n∧(n=0∨∃ b off,a=some ⟨b,off,none⟩∧b<w.heap.size∧∀ i j,i<n→j<5→w.cell? ⟨b,off+i*5+j,none⟩=(l.getD i so0).cs[j]?)
theorem RowS.below {w w':World} {a:Option Addr} {n:Nat} {l:List So} (h:RowS w a n l) (hb:Below w.heap.size w w'):RowS w' a n l:=by
 refine ⟨h.1,?_⟩;rcases h.2 with h0 | ⟨b,off,rfl,lb,hc⟩
 ·exact .inl h0
 ·exact .inr ⟨b,off,rfl,Nat.lt_of_lt_of_le lb hb.size,fun i j hi hj=>(hb.cell (p:=⟨b,off+i*5+j,none⟩) lb).trans (hc i j hi hj)⟩
def Lo (w:World) (base:Nat) (v:Value) (l:List So):Prop:=w.ownsRow base 56 5 v l.length (cellsS l)
theorem Lo.zero (w:World) (base:Nat):Lo w base (zS) []:=World.ownsRow_nil _ _ _ _
theorem Lo.alloc {w:World} {base:Nat} {v:Value} {l:List So} (h:Lo w base v l) (o:Obj):Lo (w.alloc o) base v l:=World.ownsRow.alloc h o
theorem Lo.next {w w':World} {base:Nat} {v:Value} {l:List So} (h:Lo w base v l) (hb:Below w.heap.size w w'):Lo w' base v l:=by
 refine ⟨h.1,?_⟩;rcases h.2 with hn | ⟨g,cap,cur,hv,hg,hc,rest⟩
 ·exact .inl hn
 ·exact .inr ⟨g,cap,cur,hv,hg,Blk.next hc hb,rest⟩
theorem Lo.kept {w w':World} {base:Nat} {own:Option Nat} {v:Value} {l:List So} (h:Lo w base v l) (hg:w.grownBy w' own) (hne:∀ g,v.ownBlock=some g→own≠some g):Lo w' base v l:=by
 refine World.ownsRow.kept h hg ?_;cases e:v.ownBlock with
 | none=>exact .inl rfl
 | some g=>exact .inr (fun q=>hne g e q.symm)
theorem Lo.row {w:World} {base:Nat} {v:Value} {l:List So} (h:Lo w base v l):∃ a cap,v = .slice a l.length cap∧RowS w a l.length l∧(a=none→cap=0)∧l.length≤cap:=by
 rcases h.2 with ⟨hv,hn⟩ | ⟨g,cap,cur,hv,_,hc,h1,_⟩
 ·exact ⟨none,0,by rw [hn];exact hv,⟨rfl,.inl hn⟩,fun _=>rfl,by omega⟩
 ·subst hv;refine ⟨_,cap,rfl,⟨rfl,.inr ⟨g,0,rfl,Blk.lt hc,fun i j hi hj=>?_⟩⟩,(fun h=>by cases h),h1⟩;have e1:=World.ownsRow.cellAt h (i*5+j) (by omega);rw [Nat.zero_add,e1];exact cellsS_at l i j hi hj
theorem soldI:(Tryz.prog.info? 56).map (fun i=>(i.zero,i.size,i.bytes))=some (some (.agg so0.cs.toArray),5,40):=by kernel_rfl
theorem step_sold {w:World} {o:Oper} {a:Act} {K:Act→World→Prop} {Q:Exit→Act→World→Prop} (d:Nat) (hd:o.dst=some d) (s x:Operand)
  (ho:o.op = .call { callee:= .builtin .append,args:=#[s,x],argTypes:=#[52,52] })
  (base G:Nat) (v:Value) (l:List So) (r:So) (hs:a.eval s=v) (hx:a.eval x = .slice (some ⟨G,0,none⟩) 1 1) (hv:Lo w base v l) (hu:Blk w G r.cs.toArray 56) (hn:l.length≤2000000) (hbase:base≤w.heap.size)
  (h:∀ v' w',Lo w' base v' (l++[r])→w.grownBy w' v.ownBlock→(v'.ownBlock=v.ownBlock∨v'.ownBlock=some w.heap.size)→K (a.put (some d) v') w'):Oper.wp Tryz.prog o a w K Q:=by
 rw [← hd] at h;obtain ⟨i0,hi,hz0,hz1,hz2⟩:=info_parts soldI
 obtain ⟨v',w',hr,h2,h3,_,h5⟩:=run_append_own_at (P:=Tryz.prog) w base 52 o.type 56 i0 (.agg so0.cs.toArray) 5 40 Tryz.underlying52 hi hz0 hz1 hz2 rfl (by decide) v l.length (cellsS l) hv ⟨G,0,none⟩ 1 1 (cellsS [r]) (by rw [cellsS_len];rfl) (by
  intro j u hj;rw [Addr.add_lit,Nat.zero_add,hu.cell j];rw [cellsS,cellsS,List.append_nil] at hj
  simpa using hj) (oneS [r]) (by unfold maxLen;omega) (by omega) hbase
 unfold Oper.wp execOp;simp only [ho,resolve,invoke,builtin,Sem.run_bind,Sem.run_pure,Result.andThen_ok,List.map_toArray,List.map_cons,List.map_nil,hs,hx,hr];refine h v' w' ?_ h3 h5;unfold Lo;rw [List.length_append,cellsS_app];exact h2
theorem rowD_grown {w w':World} {own:Option Nat} {a:Option Addr} {n:Nat} {zs:List tar.Du} (h:tar.RowD w a n zs) (hg:w.grownBy w' own) (hne:0<n→∀ x,a=some x→some x.block≠own):tar.RowD w' a n zs:=by
 refine ⟨h.1,?_⟩;rcases h.2 with h0 | ⟨b,off,rfl,hc⟩
 ·exact .inl h0
 ·refine .inr ⟨b,off,rfl,fun i hi=>?_⟩;have h1:=hc i hi;have hb:=hg.block b (World.block_lt_of_cell? w ⟨b,off+i*2,none⟩ h1.1) (hne (by omega) _ rfl);have e:∀ o,w'.cell? ⟨b,o,none⟩=w.cell? ⟨b,o,none⟩:=fun o=>by simp [World.cell?,hb]
  rw [e,e];exact h1
theorem came_grown {w w':World} {own:Option Nat} {a:Option Addr} {n cap:Nat} {zs:List tar.Du} (h:tar.Came w a n cap zs) (hg:w.grownBy w' own) (hne:0<n→∀ x,a=some x→some x.block≠own):tar.Came w' a n cap zs:=⟨rowD_grown h.row hg hne,h.nil,h.room,h.bytes,h.wf⟩
def Cu.sold (x:Cu):Value:= .slice x.sp x.sn x.sc
def Cu.v (x:Cu):Value:= .agg x.cs.toArray
def Nums (x:Cu) (a:acc.Ac):Prop:=x.me=a.me∧x.rv=a.rv∧x.nx=a.nx∧x.mo=a.mo∧x.bo=a.bo∧x.fr=a.fr
structure Has (w:World) (base:Nat) (x:Cu) (c:Cm):Prop where
 num:Nums x c.a
 ds:deb.Fresh w base x.dp x.dn x.dc c.a.ds
 so:Lo w base x.sold c.so
def Apart (x y:Cu):Prop:=(∀ g,x.sold.ownBlock=some g→y.sold.ownBlock≠some g)∧(∀ g,x.sold.ownBlock=some g→0<y.dn→∀ p,y.dp=some p→p.block≠g)∧(∀ g,y.sold.ownBlock=some g→0<x.dn→∀ p,x.dp=some p→p.block≠g)
theorem Apart.symm {x y:Cu} (h:Apart x y):Apart y x:=⟨fun g h1 h2=>h.1 g h2 h1,h.2.2,h.2.1⟩
def Off (x:Cu) (own:Option Nat):Prop:=(∀ g,x.sold.ownBlock=some g→own≠some g)∧(0<x.dn→∀ p,x.dp=some p→some p.block≠own)
theorem Has.next {w w':World} {base:Nat} {x:Cu} {c:Cm} (h:Has w base x c) (hb:Below w.heap.size w w'):Has w' base x c:=⟨h.num,h.ds.below hb,h.so.next hb⟩
theorem Has.kept {w w':World} {base:Nat} {own:Option Nat} {x:Cu} {c:Cm} (h:Has w base x c) (hg:w.grownBy w' own) (ho:Off x own):Has w' base x c:=⟨h.num,⟨came_grown h.ds.came hg ho.2,h.ds.new⟩,h.so.kept hg ho.1⟩
structure Holds (w:World) (base:Nat) (V:Value) (xs:List Cu) (bk:List Cm):Prop where
 row:Lc w base V xs
 len:xs.length=bk.length
 has:∀ i,i<xs.length→Has w base (xs.getD i cu0) (bk.getD i cm0)
 off:∀ i,i<xs.length→Off (xs.getD i cu0) V.ownBlock
 self:∀ i,i<xs.length→∀ g,(xs.getD i cu0).sold.ownBlock=some g→0<(xs.getD i cu0).dn→∀ p,(xs.getD i cu0).dp=some p→p.block≠g
 apart:∀ i j,i<xs.length→j<xs.length→i≠j→Apart (xs.getD i cu0) (xs.getD j cu0)
theorem Holds.zero (w:World) (base:Nat):Holds w base (zS) [] []:=⟨Lc.zero _ _,rfl,(fun i hi=>by cases hi),(fun i hi=>by cases hi),(fun i hi=>by cases hi),(fun i j hi=>by cases hi)⟩
theorem Holds.next {w w':World} {base:Nat} {V:Value} {xs:List Cu} {bk:List Cm} (h:Holds w base V xs bk) (hb:Below w.heap.size w w'):Holds w' base V xs bk:=⟨h.row.next hb,h.len,fun i hi=>(h.has i hi).next hb,h.off,h.self,h.apart⟩
theorem getD_snoc {α:Type} (l:List α) (x d:α) (i:Nat) (hi:i<l.length+1):(l++[x]).getD i d=if i<l.length then l.getD i d else x:=by
 by_cases h:i<l.length
 ·rw [if_pos h];simp [List.getD,List.getElem?_append_left h]
 ·have:i=l.length:=by omega
  subst this;rw [if_neg h];simp [List.getD]
theorem Holds.snoc {w w':World} {base:Nat} {V V':Value} {xs:List Cu} {bk:List Cm} {x:Cu} {c:Cm} (h:Holds w base V xs bk) (hx:Has w base x c) (hxs:x.sold.ownBlock=none) (hxd:x.dn=0)
  (hr:Lc w' base V' (xs++[x])) (hg:w.grownBy w' V.ownBlock) (ho:V'.ownBlock=V.ownBlock∨V'.ownBlock=some w.heap.size):Holds w' base V' (xs++[x]) (bk++[c]):=by
 have hnew:∀ y:Cu,Off y V.ownBlock→(∀ g,y.sold.ownBlock=some g→g<w.heap.size)→(0<y.dn→∀ p,y.dp=some p→p.block<w.heap.size)→Off y V'.ownBlock:=fun y h1 h2 h3=>by
  rcases ho with e | e
  ·rw [e];exact h1
  ·rw [e];exact ⟨fun g hg' q=>(by have:=h2 g hg';have:=Option.some.inj q;omega),fun hn p hp q=>(by have:=h3 hn p hp;have:=Option.some.inj q;omega)⟩
 have lt1:∀ i,i<xs.length→∀ g,(xs.getD i cu0).sold.ownBlock=some g→g<w.heap.size:=fun i hi g hgg=>(World.ownsRow.lt (h.has i hi).so g hgg).2
 have lt2:∀ i,i<xs.length→0<(xs.getD i cu0).dn→∀ p,(xs.getD i cu0).dp=some p→p.block<w.heap.size:=fun i hi hn p hp=>by
  obtain ⟨b,off,e,lb,_⟩:=(h.has i hi).ds.came.row.at hn;rw [hp] at e;rw [Option.some.inj e];exact lb
 have offx:Off x V.ownBlock:=⟨fun g hgg=>(by rw [hxs] at hgg;cases hgg),fun hn=>by omega⟩
 have apx:∀ y:Cu,Apart y x:=fun y=>⟨fun g h1 h2=>(by rw [hxs] at h2;cases h2),fun g h1 hn=>(by omega),fun g h1=>(by rw [hxs] at h1;cases h1)⟩;have offx':Off x V'.ownBlock:=⟨fun g hgg=>(by rw [hxs] at hgg;cases hgg),fun hn=>by omega⟩
 refine ⟨hr,by rw [List.length_append,List.length_append,h.len];rfl,fun i hi=>?_,fun i hi=>?_,fun i hi=>?_,fun i j hi hj hij=>?_⟩
 all_goals simp only [List.length_append,List.length_cons,List.length_nil] at hi
 ·rw [getD_snoc xs x cu0 i hi,getD_snoc bk c cm0 i (by rw [← h.len];exact hi)];by_cases q:i<xs.length
  ·rw [if_pos q,if_pos (by rw [← h.len];exact q)];exact (h.has i q).kept hg (h.off i q)
  ·rw [if_neg q,if_neg (by rw [← h.len];exact q)];exact hx.kept hg offx
 ·rw [getD_snoc xs x cu0 i hi];by_cases q:i<xs.length
  ·rw [if_pos q];exact hnew _ (h.off i q) (lt1 i q) (lt2 i q)
  ·rw [if_neg q];exact offx'
 ·rw [getD_snoc xs x cu0 i hi];by_cases q:i<xs.length
  ·rw [if_pos q];exact h.self i q
  ·rw [if_neg q];intro g hgg;rw [hxs] at hgg;cases hgg
 ·simp only [List.length_append,List.length_cons,List.length_nil] at hj;rw [getD_snoc xs x cu0 i hi,getD_snoc xs x cu0 j hj];by_cases q:i<xs.length <;> by_cases q':j<xs.length
  ·rw [if_pos q,if_pos q'];exact h.apart i j q q' hij
  ·rw [if_pos q,if_neg q'];exact apx _
  ·rw [if_neg q,if_pos q'];exact (apx _).symm
  ·omega
theorem getD_put {α:Type} (l:List α) (x d:α) (k i:Nat) (hk:k<l.length):(l.set k x).getD i d=if i=k then x else l.getD i d:=by
 by_cases h:i=k
 ·subst h;rw [if_pos rfl];simp [List.getD,hk]
 ·rw [if_neg h];simp [List.getD,List.getElem?_set_ne (Ne.symm h)]
structure Turned (w w':World) (base:Nat) (x x':Cu) (c':Cm):Prop where
 grown:w.grownBy w' x.sold.ownBlock
 has:Has w' base x' c'
 own:∀ g,x'.sold.ownBlock=some g→x.sold.ownBlock=some g∨w.heap.size≤g
 new:0<x'.dn→∀ p,x'.dp=some p→w.heap.size≤p.block
 self:∀ g,x'.sold.ownBlock=some g→0<x'.dn→∀ p,x'.dp=some p→p.block≠g
theorem Holds.put {w w' w4:World} {base:Nat} {V:Value} {xs:List Cu} {bk:List Cm} {k:Nat} {x':Cu} {c':Cm} (h:Holds w base V xs bk) (hk:k<xs.length) (ht:Turned w w' base (xs.getD k cu0) x' c')
  (hr:Lc w4 base V (xs.set k x')) (hg:w'.grownBy w4 V.ownBlock):Holds w4 base V (xs.set k x') (bk.set k c'):=by
 have hkb:k<bk.length:=by rw [← h.len];exact hk
 have lt1:∀ i,i<xs.length→∀ g,(xs.getD i cu0).sold.ownBlock=some g→g<w.heap.size:=fun i hi g hgg=>(World.ownsRow.lt (h.has i hi).so g hgg).2
 have lt2:∀ i,i<xs.length→0<(xs.getD i cu0).dn→∀ p,(xs.getD i cu0).dp=some p→p.block<w.heap.size:=fun i hi hn p hp=>by
  obtain ⟨b,off,e,lb,_⟩:=(h.has i hi).ds.came.row.at hn;rw [hp] at e;rw [Option.some.inj e];exact lb
 have ltV:∀ g,V.ownBlock=some g→g<w.heap.size:=fun g hgg=>(World.ownsRow.lt h.row g hgg).2
 have offx:Off x' V.ownBlock:=⟨fun g hgg q=>by
  rcases ht.own g hgg with e | e
  ·exact (h.off k hk).1 g e q
  ·have:=ltV g q;omega,fun hn p hp q=>by
  have h1:=ht.new hn p hp;have h2:=ltV p.block q.symm
  omega⟩
 have apx:∀ i,i<xs.length→i≠k→Apart (xs.getD i cu0) x':=fun i hi hik=>by
  refine ⟨fun g h1 h2=>?_,fun g h1 hn p hp q=>?_,fun g h1 hn p hp q=>?_⟩
  ·rcases ht.own g h2 with e | e
   ·exact (h.apart i k hi hk hik).1 g h1 e
   ·have:=lt1 i hi g h1;omega
  ·have h3:=ht.new hn p hp;have h4:=lt1 i hi g h1;omega
  ·rcases ht.own g h1 with e | e
   ·exact (h.apart i k hi hk hik).2.2 g e hn p hp q
   ·have:=lt2 i hi hn p hp;omega
 refine ⟨hr,by rw [List.length_set,List.length_set,h.len],fun i hi=>?_,fun i hi=>?_,fun i hi=>?_,fun i j hi hj hij=>?_⟩
 all_goals rw [List.length_set] at hi
 ·rw [getD_put xs x' cu0 k i hk,getD_put bk c' cm0 k i hkb];by_cases q:i=k
  ·rw [if_pos q,if_pos q];exact ht.has.kept hg offx
  ·rw [if_neg q,if_neg q];have ap:=h.apart i k hi hk q
   have off1:Off (xs.getD i cu0) (xs.getD k cu0).sold.ownBlock:=⟨fun g h1 h2=>ap.1 g h1 h2,fun hn p hp e=>by
    exact ap.2.2 p.block e.symm hn p hp rfl⟩
   exact ((h.has i hi).kept ht.grown off1).kept hg (h.off i hi)
 ·rw [getD_put xs x' cu0 k i hk];by_cases q:i=k
  ·rw [if_pos q];exact offx
  ·rw [if_neg q];exact h.off i hi
 ·rw [getD_put xs x' cu0 k i hk];by_cases q:i=k
  ·rw [if_pos q];exact ht.self
  ·rw [if_neg q];exact h.self i hi
 ·rw [List.length_set] at hj;rw [getD_put xs x' cu0 k i hk,getD_put xs x' cu0 k j hk];by_cases q:i=k <;> by_cases q':j=k
  ·omega
  ·rw [if_pos q,if_neg q'];exact (apx j hj q').symm
  ·rw [if_neg q,if_pos q'];exact apx i hi q
  ·rw [if_neg q,if_neg q'];exact h.apart i j hi hj hij
structure Sees (w:World) (p:Option Addr) (n:Nat) (xs:List Cu) (bk:List Cm):Prop where
 row:RowC w p n xs
 len:xs.length=bk.length
 num:∀ i,i<xs.length→Nums (xs.getD i cu0) (bk.getD i cm0).a
 ds:∀ i,i<xs.length→tar.Came w (xs.getD i cu0).dp (xs.getD i cu0).dn (xs.getD i cu0).dc (bk.getD i cm0).a.ds
 so:∀ i,i<xs.length→RowS w (xs.getD i cu0).sp (xs.getD i cu0).sn (bk.getD i cm0).so
theorem Sees.below {w w':World} {p:Option Addr} {n:Nat} {xs:List Cu} {bk:List Cm} (h:Sees w p n xs bk) (hb:Below w.heap.size w w'):Sees w' p n xs bk:=⟨h.row.below hb,h.len,h.num,fun i hi=>(h.ds i hi).below hb,fun i hi=>(h.so i hi).below hb⟩
theorem Holds.sees {w:World} {base:Nat} {V:Value} {xs:List Cu} {bk:List Cm} (h:Holds w base V xs bk):∃ p cap,V = .slice p xs.length cap∧Sees w p xs.length xs bk:=by
 obtain ⟨p,cap,hv,hr,_,_⟩:=h.row.row;refine ⟨p,cap,hv,hr,h.len,fun i hi=>(h.has i hi).num,fun i hi=>(h.has i hi).ds.came,fun i hi=>?_⟩;obtain ⟨a,c,e,r,_⟩:=(h.has i hi).so.row;unfold Cu.sold at e;injection e with e1 e2 _
 rw [e1,e2];exact r
end book
namespace acc
open tar (Du du0 Right MostOf cost Top)
open deb (sumD recK ageAll)
open Go.RowKit
theorem tright_wf {t:Tm} (h:TRight t):wf4 t:=by
 obtain ⟨_,⟨a1,a2⟩,⟨b1,b2⟩,⟨c1,c2⟩,d1,d2⟩:=h;exact ⟨tar.wf_mid a1 (by omega),tar.wf_mid b1 (by omega),tar.wf_mid c1 (by omega),tar.wf_mid d1 (by omega)⟩
theorem rec_bd {te db:Int} (h0:0≤te) (h1:te≤100000000) (h2:0≤db) (h3:db≤10000):0≤te*db / 10000∧te*db / 10000≤te:=by
 have a:=Int.mul_nonneg h0 h2;have b:te*db≤te*10000:=Int.mul_le_mul_of_nonneg_left h3 h0;omega
theorem most_cost {l:List Du} {x m u:Int} (h:Right l) (hx:0≤x) (hu:MostOf l x m u) (h1:1≤u):0<cost l x (x+u)∧cost l x (x+u)≤m∧x+u≤10000000∧u≤2097151:=by
 have h2:=hu.1.2;have h3:=tar.cost_bd h x (x+u) hx (by omega) (by unfold Top at h2;omega);exact ⟨by omega,hu.2.1,by unfold Top at h2;omega,by unfold Top at h2;omega⟩
theorem mays_sum {l:List Du} (h:deb.Mays l):0≤sumD l∧sumD l≤8000000000:=by
 have h1:=deb.sumD_pos (l:=l) (deb.mem_fits h.2);have h2:=h.1;exact ⟨h1.1,by have:=h1.2;omega⟩
end acc
namespace cell
open Go.RowKit
theorem may_yes (n:Int) (w:World) (h1:1≤n) (h2:n≤2048) :
  Calls Tryz.prog 46 #[zI n] w fun e w'=>e = .returned (.bool true)∧w'=w:=by
 go_enter Tryz.func46,Tryz.ntmps46;go_wp2;go_ret;exact ⟨rfl,rfl⟩
end cell
namespace book
open Go.RowKit
open acc (Ac Tm Bi APost BPost OweIs SellIs GrantIs RekeyIs)
theorem lo_upd {w W:World} {base g:Nat} {cs:Array Value} {t:TypeId} {v:Value} {l:List So} (h:Lo w base v l) (hU:Upd w W g cs t) (hg:∀ k,v.ownBlock=some k→k≠g):Lo W base v l:=by
 refine ⟨h.1,?_⟩;rcases h.2 with hn | ⟨g',cap,cur,hv,hb,hc,rest⟩
 ·exact .inl hn
 ·exact .inr ⟨g',cap,cur,hv,hb,by rw [hU.oth g' (hg g' (by rw [hv];rfl))];exact hc,rest⟩
end book
namespace deb
open tar (Du du0 Came TwoPost)
open Go.RowKit
def KdTotal:Prop:=∀ (W:World) (a:Option Addr) (len cap:Nat) (ls:List Du),Came W a len cap ls→Calls Tryz.prog 184 #[.slice a len cap] W fun e w'=>TwoPost W (OwedIs ls) e w'
open tar (RowD Ld ErrPost PairT)
theorem powed (a:Option Addr) (len cap:Nat) (ls:List Du) (w:World) (hr:RowD w a len ls) (hm:Mays ls):Calls Tryz.prog 200 #[.slice a len cap] w fun e w'=>e = .returned (zI (sumD ls))∧Below w.heap.size w w':=by
 have HLEN:Hid (ls.length=len):=hr.1;have HM:Hid (Mays ls):=hm;have hl8:len≤8:=by have:=hm.1;have:=hr.1;omega
 have HROW:Hid (RowD w a len ls):=hr;clear hm hr;go_enter Tryz.func200,Tryz.ntmps200;go_wp2_with fail;go_loopw [3,8] (fun v x wr=>∃ k:Nat,k≤len∧x=zI (k:Int)∧v=zI (sumK ls k)∧Below w.heap.size w wr) (fun _ x _=>len - (intOf x).toNat)
 case atStart=>exact ⟨0,Nat.zero_le _,rfl,rfl,Below.refl _ _⟩
 case round=>
  obtain ⟨k,hk,rfl,rfl,hb⟩:=hrel;have hsb:=sumK_bd HM.o k (by rw [HLEN.o];exact hk);have HB:Hid (Below w.heap.size w wr):=hb;by_cases hlt:k<len
  ·have hdl:decide ((k:Int)<(len:Int))=true:=by simp;omega
   obtain ⟨b,off,rfl,hbl,hc⟩:=HROW.o.at (by omega);have c0:wr.cell? ⟨b,off+k*2,none⟩=some (zI (ls.getD k du0).a):=(hb.cell (p:=⟨b,off+k*2,none⟩) hbl).trans (hc k hlt).1;have c1:wr.cell? ⟨b,off+k*2+1,none⟩=some (zI (ls.getD k du0).b):=(hb.cell (p:=⟨b,off+k*2+1,none⟩) hbl).trans (hc k hlt).2;have HBA:Hid (∀ o,Below w.heap.size w (wr.alloc o)):=fun o=>hb.alloc hb.size o;have ho:=(HM.o.2 k (by rw [HLEN.o];exact hlt)).1;have HN:Hid (sumK ls k+(ls.getD k du0).a=sumK ls (k+1)):=(sumK_next ls k).symm;clear hc hb;generalize sumK ls k=s at *;generalize (ls.getD k du0).a=x at *;generalize (ls.getD k du0).b=y at *;go_wp2_with fail;go_roundw
   case rel=>exact ⟨k+1,by omega,by go_num,by rw [← HN.o],HBA.o _⟩
   case measure=>simp [intOf];omega
  ·obtain rfl:k=len:=by omega
   have hdl:decide ((k:Int)<(k:Int))=false:=by simp
   have HV:Hid (sumK ls k=sumD ls):=by have:=sumK_all ls;rw [HLEN.o] at this;exact this
   generalize sumK ls k=s at *;clear hb;go_wp2_with fail;go_ret;exact ⟨congrArg (fun z=>Ending.returned (Value.int .i64 z)) HV.o,HB.o⟩
end deb
namespace token
open Go.ChangeShapes Go.WideShapes Go.ChangeAt Go.RowKit Go.Deep
def Eight (w:World) (g:Nat) (a0 a1 a2 a3 a4 a5 a6 a7:Int):Prop:=
 ∃ t fr,w.heap[g]?=some (.cells #[zI a0,zI a1,zI a2,zI a3,zI a4,zI a5,zI a6,zI a7] t fr)
structure TTab (w:World):Prop where
 places:Eight w 1 57 3 37 20 16 21 0 16
 amounts:Eight w 0 1 2097151 0 0 1 15 0 0
theorem Eight.lt {w:World} {g:Nat} {a0 a1 a2 a3 a4 a5 a6 a7:Int} (h:Eight w g a0 a1 a2 a3 a4 a5 a6 a7):g<w.heap.size:=by
 obtain ⟨t,fr,h⟩:=h;by_cases hh:g<w.heap.size
 ·exact hh
 ·rw [Array.getElem?_eq_none (by omega)] at h;cases h
theorem Eight.below {w w':World} {g:Nat} {a0 a1 a2 a3 a4 a5 a6 a7:Int} (h:Eight w g a0 a1 a2 a3 a4 a5 a6 a7) (hb:Below w.heap.size w w'):Eight w' g a0 a1 a2 a3 a4 a5 a6 a7:=by
 have hl:=h.lt;obtain ⟨t,fr,h⟩:=h;exact ⟨t,fr,by rw [hb.block g hl];exact h⟩
theorem TTab.below {w w':World} (h:TTab w) (hb:Below w.heap.size w w'):TTab w':=⟨h.places.below hb,h.amounts.below hb⟩
theorem list8 {α:Type} (l:List α) (h:l.length=8):∃ a b c d e f g i,l=[a,b,c,d,e,f,g,i]:=by
 match l,h with
 | [a,b,c,d,e,f,g,i],_=>exact ⟨a,b,c,d,e,f,g,i,rfl⟩
theorem two_of {H:Type} {enc:TypeId × Value→H} {P:Program} {w:World} {base:Nat} {spare:Nat→Bool} {held:Bool} {fuel:Nat} {t e:TypeId} {f0 f1:Field} {c0 c1:Value} {a0 a1:Int} {p:List MemPlace}
  (ht:P.underlying t=some (.struct #[f0,f1])) (hone:oneCellFields P #[f0,f1]=true) (he:P.underlying e=some (.int .i64)) (e0:f0.type=e) (e1:f1.type=e)
  (h:DataW.trod enc P w base spare held fuel t [c0,c1]=some (.agg [.lit (.int .i64 a0),.lit (.int .i64 a1)],p)):c0=zI a0∧c1=zI a1:=by
 obtain ⟨y0,y1,n,hx,_,h0,h1⟩:=trod_struct2 ht h;obtain ⟨o0,k0⟩:=hone_of hone 0 f0 rfl;obtain ⟨o1,k1⟩:=hone_of hone 1 f1 rfl;rw [o0,k0,e0] at h0;rw [o1,k1,e1] at h1;obtain ⟨x0,u0,rfl,_⟩:=DataW.trod_int he h0;obtain ⟨x1,u1,rfl,_⟩:=DataW.trod_int he h1;simp at u0 u1 hx;obtain ⟨⟨rfl,rfl⟩,_⟩:=hx;exact ⟨u0,u1⟩
theorem trod_array4w {H:Type} {enc:TypeId × Value→H} {P:Program} {w:World} {base:Nat} {spare:Nat→Bool} {held:Bool} {t e:TypeId} {fuel:Nat} {cs:List Value} {x:DataW H × List MemPlace} (ht:P.underlying t=some (.array 4 e)) (hce:P.cellsOf e=2) (hct:P.cellsOf t=8)
  (h:DataW.trod enc P w base spare held fuel t cs=some x) :
  cs.length=8∧∃ y0 y1 y2 y3 n,x=(.agg [y0.1,y1.1,y2.1,y3.1],y0.2++(y1.2++(y2.2++y3.2)))∧DataW.trod enc P w base spare held n e (cs.take 2)=some y0∧DataW.trod enc P w base spare held n e ((cs.drop 2).take 2)=some y1∧DataW.trod enc P w base spare held n e ((cs.drop 4).take 2)=some y2∧DataW.trod enc P w base spare held n e ((cs.drop 6).take 2)=some y3:=by
 cases fuel with
 | zero=>simp [DataW.trod] at h
 | succ n=>
  unfold DataW.trod at h;rw [ht] at h;have r4:List.range 4=[0,1,2,3]:=rfl;simp [r4,hce,hct] at h;obtain ⟨hl,h⟩:=h;refine ⟨hl,?_⟩;cases h0:DataW.trod enc P w base spare held n e (cs.take 2) with
  | none=>simp [h0] at h
  | some y0=>
   cases h1:DataW.trod enc P w base spare held n e ((cs.drop 2).take 2) with
   | none=>simp [h0,h1] at h
   | some y1=>
    cases h2:DataW.trod enc P w base spare held n e ((cs.drop 4).take 2) with
    | none=>simp [h0,h1,h2] at h
    | some y2=>
     cases h3:DataW.trod enc P w base spare held n e ((cs.drop 6).take 2) with
     | none=>simp [h0,h1,h2,h3] at h
     | some y3=>
      simp [h0,h1,h2,h3] at h;exact ⟨y0,y1,y2,y3,n,by rw [← h],h0,h1,h2,h3⟩
theorem eight_of {W:World} {name:String} {rest:List (String × DataW Unit)} {g:Nat} {t e z:TypeId} {f0 f1:Field} {a0 a1 a2 a3 a4 a5 a6 a7:Int}
  (hg:Tryz.prog.globalNamed name=some g) (hty:(Tryz.prog.globals[g]?).map (·.type)=some t) (ht:Tryz.prog.underlying t=some (.array 4 e)) (hce:Tryz.prog.cellsOf e=2) (hct:Tryz.prog.cellsOf t=8)
  (hs:Tryz.prog.underlying e=some (.struct #[f0,f1])) (hone:oneCellFields Tryz.prog #[f0,f1]=true) (hz:Tryz.prog.underlying z=some (.int .i64)) (e0:f0.type=z) (e1:f1.type=z)
  (h:laidMet Tryz.prog ((name,.agg [.agg [.lit (.int .i64 a0),.lit (.int .i64 a1)],.agg [.lit (.int .i64 a2),.lit (.int .i64 a3)],.agg [.lit (.int .i64 a4),.lit (.int .i64 a5)],.agg [.lit (.int .i64 a6),.lit (.int .i64 a7)]]) :: rest) W):Eight W g a0 a1 a2 a3 a4 a5 a6 a7:=by
 obtain ⟨ps,⟨g',t',cs,fuel,p,q,hg',ht',hvar,hd,_,_⟩,_⟩:=h;obtain rfl:=Option.some.inj (hg.symm.trans hg');obtain rfl:=Option.some.inj (hty.symm.trans ht');obtain ⟨hl,y0,y1,y2,y3,n,hx,h0,h1,h2,h3⟩:=trod_array4w ht hce hct hd;simp only [Prod.mk.injEq,DataW.agg.injEq,List.cons.injEq,and_true] at hx;obtain ⟨⟨x0,x1,x2,x3⟩,_⟩:=hx;obtain ⟨y0,q0⟩:=y0;obtain ⟨y1,q1⟩:=y1;obtain ⟨y2,q2⟩:=y2;obtain ⟨y3,q3⟩:=y3;simp only at x0 x1 x2 x3;subst x0 x1 x2 x3;obtain ⟨c0,c1,c2,c3,c4,c5,c6,c7,hcs⟩:=list8 _ hl;rw [hcs] at h0 h1 h2 h3;obtain ⟨rfl,rfl⟩:=two_of hs hone hz e0 e1 h0;obtain ⟨rfl,rfl⟩:=two_of hs hone hz e0 e1 h1;obtain ⟨rfl,rfl⟩:=two_of hs hone hz e0 e1 h2;obtain ⟨rfl,rfl⟩:=two_of hs hone hz e0 e1 h3;unfold World.var? at hvar;rw [hg] at hvar;simp only [Option.bind_some] at hvar;split at hvar
 ·rename_i cs' t' fr hc
  have hcs':=Option.some.inj hvar;refine ⟨t',fr,?_⟩;rw [hc,hcs']
  congr 2
  first
  | (cases cs;simp_all)
  | simp_all
 ·cases hvar
def hasI (lo hi n:Int):Bool:=decide (lo≤n) && decide (n≤hi)
def amLo (c:Int):Int:=if c=0 then 1 else if c=1 then 0 else if c=2 then 1 else 0
def amHi (c:Int):Int:=if c=0 then 2097151 else if c=1 then 0 else if c=2 then 15 else 0
def flawT (c i a t:Int):Int:=if c<0∨3<c then 9 else if hasI 1 1048575 i && (hasI (amLo c) (amHi c) a && hasI 0 65535 t) then 0 else 2
theorem flawT_class {c i a t:Int} (h:c<0∨3<c):flawT c i a t=9:=by unfold flawT;rw [if_pos h]
theorem flawT_in {c i a t:Int} (h:¬ (c<0∨3<c)):flawT c i a t=if hasI 1 1048575 i && (hasI (amLo c) (amHi c) a && hasI 0 65535 t) then 0 else 2:=by unfold flawT;rw [if_neg h]
theorem flaw_tok {k:Tok}:flawT k.c k.i k.a k.t=0↔k.ok:=by
 rw [← okB_ok];unfold flawT okB hasI amLo amHi;rcases (by omega:k.c=0∨k.c=1∨k.c=2∨k.c=3∨4≤k.c) with h | h | h | h | h
 ·simp [h];omega
 ·simp [h];omega
 ·simp [h];omega
 ·simp [h];omega
 ·have h1:(3:Int)<(k.c:Int):=by omega
  have h2:¬ k.c≤3:=by omega
  simp [h1,h2]
theorem Eight.cell {w:World} {g:Nat} {a0 a1 a2 a3 a4 a5 a6 a7:Int} (h:Eight w g a0 a1 a2 a3 a4 a5 a6 a7) :
  w.cell? ⟨g,0,none⟩=some (zI a0)∧w.cell? ⟨g,1,none⟩=some (zI a1)∧w.cell? ⟨g,2,none⟩=some (zI a2)∧w.cell? ⟨g,3,none⟩=some (zI a3) ∧
  w.cell? ⟨g,4,none⟩=some (zI a4)∧w.cell? ⟨g,5,none⟩=some (zI a5)∧w.cell? ⟨g,6,none⟩=some (zI a6)∧w.cell? ⟨g,7,none⟩=some (zI a7):=by
 obtain ⟨t,fr,h⟩:=h;simp [World.cell?,h]
theorem has_any (lo hi n:Int) (w:World) :
  Calls Tryz.prog 128 #[.agg #[zI lo,zI hi],zI n] w fun e w'=>e = .returned (.bool (hasI lo hi n))∧Below w.heap.size w w':=by
 have hb:Below w.heap.size w (w.alloc (.cells #[zI lo,zI hi] 221)):=(Below.refl _ _).alloc (Nat.le_refl _) _;by_cases h:lo≤n
 ·have e:hasI lo hi n=decide (n≤hi):=by simp [hasI,h]
  rw [e];go_enter Tryz.func128,Tryz.ntmps128;go_wp2;go_ret;exact ⟨rfl,hb⟩
 ·have e:hasI lo hi n=false:=by simp [hasI,h]
  have h':n<lo:=by omega
  rw [e];go_enter Tryz.func128,Tryz.ntmps128;go_wp2;go_ret;exact ⟨rfl,hb⟩
end token
namespace words
theorem ofInt_nat (k a:Nat) (h:a<2 ^ k):(BitVec.ofInt k (a:Int)).toNat=a:=by
 rw [BitVec.ofInt_natCast,BitVec.toNat_ofNat];exact Nat.mod_eq_of_lt h
theorem wrap_u32 (n:Int):IntKind.u32.wrap n=n % 4294967296:=by simp [IntKind.wrap,IntKind.bits,IntKind.signed]
theorem or64 (a b:Nat) (ha:a<2 ^ 64) (hb:b<2 ^ 64):bits .or .u64 (a:Int) (b:Int)=((a ||| b:Nat):Int):=by
 have h:=Nat.or_lt_two_pow ha hb;show IntKind.u64.wrap ((BitVec.ofInt 64 (a:Int) ||| BitVec.ofInt 64 (b:Int)).toNat:Int)=_;rw [BitVec.toNat_or,ofInt_nat 64 a ha,ofInt_nat 64 b hb,IntKind.wrap_u64];omega
theorem and64 (a b:Nat) (ha:a<2 ^ 64) (hb:b<2 ^ 64):bits .and .u64 (a:Int) (b:Int)=((a &&& b:Nat):Int):=by
 have h:a &&& b<2 ^ 64:=Nat.and_lt_two_pow a hb;show IntKind.u64.wrap ((BitVec.ofInt 64 (a:Int) &&& BitVec.ofInt 64 (b:Int)).toNat:Int)=_;rw [BitVec.toNat_and,ofInt_nat 64 a ha,ofInt_nat 64 b hb,IntKind.wrap_u64];omega
theorem or32 (a b:Nat) (ha:a<2 ^ 32) (hb:b<2 ^ 32):bits .or .u32 (a:Int) (b:Int)=((a ||| b:Nat):Int):=by
 have h:=Nat.or_lt_two_pow ha hb;show IntKind.u32.wrap ((BitVec.ofInt 32 (a:Int) ||| BitVec.ofInt 32 (b:Int)).toNat:Int)=_;rw [BitVec.toNat_or,ofInt_nat 32 a ha,ofInt_nat 32 b hb,wrap_u32];omega
theorem andNot32 (a b:Nat) (ha:a<2 ^ 32) (hb:b<2 ^ 32):bits .andNot .u32 (a:Int) (b:Int)=((a &&& (2 ^ 32 - 1 - b):Nat):Int):=by
 have h:a &&& (2 ^ 32 - 1 - b)<2 ^ 32:=Nat.and_lt_two_pow a (by omega);show IntKind.u32.wrap ((BitVec.ofInt 32 (a:Int) &&& ~~~ BitVec.ofInt 32 (b:Int)).toNat:Int)=_;rw [BitVec.toNat_and,BitVec.toNat_not,ofInt_nat 32 a ha,ofInt_nat 32 b hb,wrap_u32];omega
theorem or_words (n x:Int) (n0:0≤n) (n1:n<4294967296) (x0:0≤x) (x1:x<4294967296):bits .or .u64 (n*4294967296) x=n*4294967296+x:=by
 obtain ⟨p,rfl⟩:=Int.eq_ofNat_of_zero_le n0;obtain ⟨q,rfl⟩:=Int.eq_ofNat_of_zero_le x0;have e:((p:Int)*4294967296)=((p*4294967296:Nat):Int):=by simp
 rw [e,or64 _ _ (by omega) (by omega)];have h:=Nat.shiftLeft_add_eq_or_of_lt (show q<2 ^ 32 by omega) p;rw [Nat.shiftLeft_eq] at h;have h2:p*4294967296 ||| q=p*4294967296+q:=h.symm
 rw [h2];simp
end words
end Go.Proofs.YtnpblpbohcegoaaGreatDoor
