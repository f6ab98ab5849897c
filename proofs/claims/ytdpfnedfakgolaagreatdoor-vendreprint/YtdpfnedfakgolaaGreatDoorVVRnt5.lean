import Derived.Test.YtdpfnedfakgolaaGreatDoorVVRnt4
set_option linter.unusedVariables false
set_option linter.unusedSimpArgs false
set_option maxHeartbeats 4000000
set_option maxRecDepth 100000
namespace Go.Proofs.YtdpfnedfakgolaaGreatDoor
namespace acc
open tar (Du du0 Came)
open Go.RowKit
def Ac.cs (x:Ac) (p:Option Addr) (len cap:Nat):Array Value:=#[zI x.me,zI x.rv,zI x.nx,zI x.mo,zI x.bo,zI x.fr,.slice p len cap]
def Ac.v (x:Ac) (p:Option Addr) (len cap:Nat):Value:= .agg (x.cs p len cap)
def Tm.v (t:Tm) (p:Option Addr) (len cap:Nat):Value:= .agg #[.slice p len cap,zI t.ff,zI t.fb,zI t.db,zI t.al]
def Bi.v (b:Bi):Value:= .agg #[zI b.id,zI b.te,zI b.de,zI b.fe,zI b.pr,zI b.ch,zI b.un]
def wf6 (x:Ac):Prop:=(Lit.int .i64 x.me).wf=true∧(Lit.int .i64 x.rv).wf=true∧(Lit.int .i64 x.nx).wf=true∧(Lit.int .i64 x.mo).wf=true∧(Lit.int .i64 x.bo).wf=true∧(Lit.int .i64 x.fr).wf=true
def wf4 (t:Tm):Prop:=(Lit.int .i64 t.ff).wf=true∧(Lit.int .i64 t.fb).wf=true∧(Lit.int .i64 t.db).wf=true∧(Lit.int .i64 t.al).wf=true
structure ACame (w:World) (x:Ac) (p:Option Addr) (len cap:Nat):Prop where
 ds:Came w p len cap x.ds
 wf:wf6 x
structure TCame (w:World) (t:Tm) (p:Option Addr) (len cap:Nat):Prop where
 ts:Came w p len cap t.ts
 wf:wf4 t
theorem ACame.below {w w':World} {x:Ac} {p:Option Addr} {len cap:Nat} (h:ACame w x p len cap) (hb:Below w.heap.size w w'):ACame w' x p len cap:=⟨h.ds.below hb,h.wf⟩
theorem TCame.below {w w':World} {t:Tm} {p:Option Addr} {len cap:Nat} (h:TCame w t p len cap) (hb:Below w.heap.size w w'):TCame w' t p len cap:=⟨h.ts.below hb,h.wf⟩
def APost (w:World) (R:Ac→Int→Prop) (e:Ending) (w':World):Prop:=∃ b p len cap f,e = .returned (.tuple #[Ac.v b p len cap,zI f])∧R b f∧deb.Fresh w' w.heap.size p len cap b.ds∧Below w.heap.size w w'
def BPost (w:World) (R:Ac→Bi→Int→Prop) (e:Ending) (w':World):Prop:=∃ b l p len cap f,e = .returned (.tuple #[Ac.v b p len cap,Bi.v l,zI f])∧R b l f∧deb.Fresh w' w.heap.size p len cap b.ds∧Below w.heap.size w w'
end acc
namespace book
open Go.RowKit
def So.cs (x:So):List Value:=[zI x.id,zI x.cl,zI x.am,zI x.tg,zI x.rv]
def So.v (x:So):Value:= .agg #[zI x.id,zI x.cl,zI x.am,zI x.tg,zI x.rv]
def cellsS:List So→List Value
 | []=>[]
 | x :: l=>x.cs++cellsS l
theorem cellsS_len (l:List So):(cellsS l).length=l.length*5:=by
 induction l with
 | nil=>rfl
 | cons e l ih=>rw [cellsS,List.length_append,ih,List.length_cons];show 5+_=_;omega
theorem cellsS_app (l m:List So):cellsS (l++m)=cellsS l++cellsS m:=by
 induction l with
 | nil=>rfl
 | cons e l ih=>rw [List.cons_append,cellsS,cellsS,ih,List.append_assoc]
theorem oneS (l:List So):∀ u∈cellsS l,u.oneCell'=true:=by
 induction l with
 | nil=>intro u hu;cases hu
 | cons e l ih=>
  intro u hu;rw [cellsS] at hu;rcases List.mem_append.1 hu with hu | hu
  ·simp only [So.cs,List.mem_cons,List.not_mem_nil,or_false] at hu;rcases hu with rfl | rfl | rfl | rfl | rfl <;> rfl
  ·exact ih u hu
theorem cellsS_at (l:List So) (k j:Nat) (hk:k<l.length) (hj:j<5):(cellsS l)[k*5+j]?=(l.getD k so0).cs[j]?:=by
 induction l generalizing k with
 | nil=>simp at hk
 | cons x l ih=>
  have h8:x.cs.length=5:=rfl;cases k with
  | zero=>rw [Nat.zero_mul,Nat.zero_add,cellsS,List.getElem?_append_left (by omega)];rfl
  | succ k=>
   rw [show (k+1)*5+j=x.cs.length+(k*5+j) by omega,cellsS,List.getElem?_append_right (by omega),Nat.add_sub_cancel_left];exact ih k (by simpa using hk)
def RowS (w:World) (a:Option Addr) (n:Nat) (l:List So):Prop:=l.length=n∧(n=0∨∃ b off,a=some ⟨b,off,none⟩∧b<w.heap.size∧∀ i j,i<n→j<5→w.cell? ⟨b,off+i*5+j,none⟩=(l.getD i so0).cs[j]?)
theorem RowS.below {w w':World} {a:Option Addr} {n:Nat} {l:List So} (h:RowS w a n l) (hb:Below w.heap.size w w'):RowS w' a n l:=by
 refine ⟨h.1,?_⟩;rcases h.2 with h0 | ⟨b,off,rfl,lb,hc⟩
 ·exact .inl h0
 ·exact .inr ⟨b,off,rfl,Nat.lt_of_lt_of_le lb hb.size,fun i j hi hj=>(hb.cell (p:=⟨b,off+i*5+j,none⟩) lb).trans (hc i j hi hj)⟩
def Lo (w:World) (base:Nat) (v:Value) (l:List So):Prop:=w.ownsRow base 114 5 v l.length (cellsS l)
theorem Lo.zero (w:World) (base:Nat):Lo w base (zS) []:=World.ownsRow_nil _ _ _ _
theorem Lo.alloc {w:World} {base:Nat} {v:Value} {l:List So} (h:Lo w base v l) (o:Obj):Lo (w.alloc o) base v l:=World.ownsRow.alloc h o
theorem Lo.next {w w':World} {base:Nat} {v:Value} {l:List So} (h:Lo w base v l) (hb:Below w.heap.size w w'):Lo w' base v l:=by
 refine ⟨h.1,?_⟩;rcases h.2 with hn | ⟨g,cap,cur,hv,hg,hc,rest⟩
 ·exact .inl hn
 ·exact .inr ⟨g,cap,cur,hv,hg,Blk.next hc hb,rest⟩
theorem Lo.kept {w w':World} {base:Nat} {own:Option Nat} {v:Value} {l:List So} (h:Lo w base v l) (hg:w.grownBy w' own) (hne:∀ g,v.ownBlock=some g→own≠some g):Lo w' base v l:=by
 refine World.ownsRow.kept h hg ?_;cases e:v.ownBlock with
 | none=>exact .inl rfl
 | some g=>exact .inr (fun q=>hne g e q.symm)
theorem Lo.row {w:World} {base:Nat} {v:Value} {l:List So} (h:Lo w base v l):∃ a cap,v = .slice a l.length cap∧RowS w a l.length l∧(a=none→cap=0)∧l.length≤cap:=by
 rcases h.2 with ⟨hv,hn⟩ | ⟨g,cap,cur,hv,_,hc,h1,_⟩
 ·exact ⟨none,0,by rw [hn];exact hv,⟨rfl,.inl hn⟩,fun _=>rfl,by omega⟩
 ·subst hv;refine ⟨_,cap,rfl,⟨rfl,.inr ⟨g,0,rfl,Blk.lt hc,fun i j hi hj=>?_⟩⟩,(fun h=>by cases h),h1⟩;have e1:=World.ownsRow.cellAt h (i*5+j) (by omega);rw [Nat.zero_add,e1];exact cellsS_at l i j hi hj
theorem soldI:(Tryz.prog.info? 114).map (fun i=>(i.zero,i.size,i.bytes))=some (some (.agg so0.cs.toArray),5,40):=by kernel_rfl
theorem step_sold {w:World} {o:Oper} {a:Act} {K:Act→World→Prop} {Q:Exit→Act→World→Prop} (d:Nat) (hd:o.dst=some d) (s x:Operand)
  (ho:o.op = .call { callee:= .builtin .append,args:=#[s,x],argTypes:=#[62,62] })
  (base G:Nat) (v:Value) (l:List So) (r:So) (hs:a.eval s=v) (hx:a.eval x = .slice (some ⟨G,0,none⟩) 1 1) (hv:Lo w base v l) (hu:Blk w G r.cs.toArray 114) (hn:l.length≤2000000) (hbase:base≤w.heap.size)
  (h:∀ v' w',Lo w' base v' (l++[r])→w.grownBy w' v.ownBlock→(v'.ownBlock=v.ownBlock∨v'.ownBlock=some w.heap.size)→K (a.put (some d) v') w'):Oper.wp Tryz.prog o a w K Q:=by
 rw [← hd] at h;obtain ⟨i0,hi,hz0,hz1,hz2⟩:=info_parts soldI
 obtain ⟨v',w',hr,h2,h3,_,h5⟩:=run_append_own_at (P:=Tryz.prog) w base 62 o.type 114 i0 (.agg so0.cs.toArray) 5 40 Tryz.underlying62 hi hz0 hz1 hz2 rfl (by decide) v l.length (cellsS l) hv ⟨G,0,none⟩ 1 1 (cellsS [r]) (by rw [cellsS_len];rfl) (by
  intro j u hj;rw [Addr.add_lit,Nat.zero_add,hu.cell j];rw [cellsS,cellsS,List.append_nil] at hj
  simpa using hj) (oneS [r]) (by unfold maxLen;omega) (by omega) hbase
 unfold Oper.wp execOp;simp only [ho,resolve,invoke,builtin,Sem.run_bind,Sem.run_pure,Result.andThen_ok,List.map_toArray,List.map_cons,List.map_nil,hs,hx,hr];refine h v' w' ?_ h3 h5;unfold Lo;rw [List.length_append,cellsS_app];exact h2
end book
namespace ora
open Go.RowKit
def PrAt (w:World) (b o:Nat) (p:Pr):Prop:=w.cell? ⟨b,o,none⟩=some (zI p.m)∧w.cell? ⟨b,o+1,none⟩=some (zI p.r)∧w.cell? ⟨b,o+2,none⟩=some (zI p.b)∧w.cell? ⟨b,o+3,none⟩=some (zI p.t)
theorem PrAt.below {w w':World} {b o:Nat} {p:Pr} (h:PrAt w b o p) (hb:Below w.heap.size w w'):PrAt w' b o p:=by
 have hl:b<w.heap.size:=World.block_lt_of_cell? w _ h.1;exact ⟨(hb.cell (p:=⟨b,o,none⟩) hl).trans h.1,(hb.cell (p:=⟨b,o+1,none⟩) hl).trans h.2.1,(hb.cell (p:=⟨b,o+2,none⟩) hl).trans h.2.2.1,(hb.cell (p:=⟨b,o+3,none⟩) hl).trans h.2.2.2⟩
def RowP (w:World) (a:Option Addr) (len:Nat) (ps:List Pr):Prop:=
 ps.length=len∧(len=0∨∃ b off,a=some ⟨b,off,none⟩∧∀ i,i<len→PrAt w b (off+i*4) (ps.getD i pr0))
theorem RowP.below {w w':World} {a:Option Addr} {n:Nat} {ps:List Pr} (h:RowP w a n ps) (hb:Below w.heap.size w w'):RowP w' a n ps:=by
 refine ⟨h.1,?_⟩;rcases h.2 with h0 | ⟨b,off,rfl,hc⟩
 ·exact .inl h0
 ·exact .inr ⟨b,off,rfl,fun i hi=>(hc i hi).below hb⟩
theorem RowP.nil (w:World) (a:Option Addr):RowP w a 0 []:=⟨rfl,.inl rfl⟩
theorem RowP.at {w:World} {a:Option Addr} {n:Nat} {ps:List Pr} (h:RowP w a n ps) (h0:0<n):∃ b off,a=some ⟨b,off,none⟩∧b<w.heap.size∧∀ i,i<n→PrAt w b (off+i*4) (ps.getD i pr0):=by
 rcases h.2 with h1 | ⟨b,off,rfl,hc⟩
 ·omega
 ·exact ⟨b,off,rfl,World.block_lt_of_cell? w _ (hc 0 h0).1,hc⟩
def cellsP:List Pr→List Value
 | []=>[]
 | p :: l=>zI p.m :: zI p.r :: zI p.b :: zI p.t :: cellsP l
theorem cellsP_len (l:List Pr):(cellsP l).length=l.length*4:=by
 induction l with
 | nil=>rfl
 | cons e l ih=>simp [cellsP,ih];omega
theorem cellsP_app (l m:List Pr):cellsP (l++m)=cellsP l++cellsP m:=by
 induction l with
 | nil=>rfl
 | cons e l ih=>simp [cellsP,ih]
theorem oneP (l:List Pr):∀ u∈cellsP l,u.oneCell'=true:=by
 induction l with
 | nil=>intro u hu;cases hu
 | cons e l ih=>
  intro u hu;simp only [cellsP,List.mem_cons] at hu;rcases hu with rfl | rfl | rfl | rfl | hu
  ·rfl
  ·rfl
  ·rfl
  ·rfl
  ·exact ih u hu
theorem cellsP_at (l:List Pr) (k:Nat) (hk:k<l.length):(cellsP l)[k*4]?=some (zI (l.getD k pr0).m)∧(cellsP l)[k*4+1]?=some (zI (l.getD k pr0).r)∧(cellsP l)[k*4+2]?=some (zI (l.getD k pr0).b)∧(cellsP l)[k*4+3]?=some (zI (l.getD k pr0).t):=by
 induction l generalizing k with
 | nil=>simp at hk
 | cons x l ih=>
  cases k with
  | zero=>exact ⟨rfl,rfl,rfl,rfl⟩
  | succ k=>
   rw [show (k+1)*4=k*4+1+1+1+1 by omega];have:=ih k (by simpa using hk);simpa [cellsP] using this
theorem cellsP_get {w:World} {b off len:Nat} {ps:List Pr} (hz:ps.length=len) (hc:∀ i,i<len→PrAt w b (off+i*4) (ps.getD i pr0)) (j:Nat) (u:Value) (hu:(cellsP ps)[j]?=some u):w.cell? ⟨b,off+j,none⟩=some u:=by
 have hj:j<(cellsP ps).length:=by
  by_cases h:j<(cellsP ps).length
  ·exact h
  ·rw [List.getElem?_eq_none (by omega)] at hu;cases hu
 rw [cellsP_len] at hj;have h1:=cellsP_at ps (j / 4) (by omega);have h2:=hc (j / 4) (by omega);have e:j % 4=0∨j % 4=1∨j % 4=2∨j % 4=3:=by omega
 unfold PrAt at h2;rcases e with e | e | e | e
 ·have e2:j / 4*4=j:=by omega
  rw [e2] at h1 h2;rw [h1.1] at hu;rw [h2.1];exact hu
 ·have e2:j / 4*4+1=j:=by omega
  rw [Nat.add_assoc off,e2] at h2;rw [e2] at h1;rw [h1.2.1] at hu;rw [h2.2.1];exact hu
 ·have e2:j / 4*4+2=j:=by omega
  rw [Nat.add_assoc off (j / 4*4) 2,e2] at h2;rw [e2] at h1;rw [h1.2.2.1] at hu;rw [h2.2.2.1];exact hu
 ·have e2:j / 4*4+3=j:=by omega
  rw [Nat.add_assoc off (j / 4*4) 3,e2] at h2;rw [e2] at h1;rw [h1.2.2.2] at hu;rw [h2.2.2.2];exact hu
def Pw (w:World) (base:Nat) (v:Value) (l:List Pr):Prop:=w.ownsRow base 158 4 v l.length (cellsP l)
theorem Pw.zero (w:World) (base:Nat):Pw w base (zS) []:=World.ownsRow_nil _ _ _ _
theorem Pw.alloc {w:World} {base:Nat} {v:Value} {l:List Pr} (h:Pw w base v l) (o:Obj):Pw (w.alloc o) base v l:=World.ownsRow.alloc h o
theorem Pw.low {w:World} {base base':Nat} {v:Value} {l:List Pr} (h:Pw w base v l) (hb:base'≤base):Pw w base' v l:=by
 refine ⟨h.1,?_⟩;rcases h.2 with hn | ⟨g,cap,cur,hv,hg,rest⟩
 ·exact .inl hn
 ·exact .inr ⟨g,cap,cur,hv,by omega,rest⟩
theorem Pw.put {w:World} {base:Nat} {v:Value} {l:List Pr} (h:Pw w base v l) (G i:Nat) (u:Value) (hG:G<base):Pw (w.setCell ⟨G,i,none⟩ u) base v l:=by
 refine ⟨h.1,?_⟩;rcases h.2 with hn | ⟨g,cap,cur,hv,hg,hc,rest⟩
 ·exact .inl hn
 ·exact .inr ⟨g,cap,cur,hv,hg,Blk.other hc i u (by omega),rest⟩
theorem Pw.row {w:World} {base:Nat} {v:Value} {l:List Pr} (h:Pw w base v l):∃ a cap,v = .slice a l.length cap∧RowP w a l.length l∧(a=none→cap=0)∧l.length≤cap:=by
 rcases h.2 with ⟨hv,hn⟩ | ⟨g,cap,cur,hv,_,_,h1,_⟩
 ·exact ⟨none,0,by rw [hn];exact hv,⟨rfl,.inl hn⟩,fun _=>rfl,by omega⟩
 ·subst hv;refine ⟨_,cap,rfl,⟨rfl,.inr ⟨g,0,rfl,fun i hi=>?_⟩⟩,(fun h=>by cases h),h1⟩;have e1:=World.ownsRow.cellAt h (i*4) (by omega);have e2:=World.ownsRow.cellAt h (i*4+1) (by omega);have e3:=World.ownsRow.cellAt h (i*4+2) (by omega);have e4:=World.ownsRow.cellAt h (i*4+3) (by omega);unfold PrAt;rw [Nat.zero_add,e1,e2,e3,e4];exact cellsP_at l i hi
theorem pown_far {w:World} {base n k:Nat} {t:TypeId} {v:Value} {l:List Value} (h:w.ownsRow base t n v k l) {G:Nat} (hG:G<base):some G≠v.ownBlock:=by
 intro e;have:=(World.ownsRow.lt h G e.symm).1;omega
theorem pown_bel {w0 w w':World} {base B n k:Nat} {t:TypeId} {v:Value} {l:List Value} (h:w.ownsRow base t n v k l) (hg:w.grownBy w' v.ownBlock) (hb:Below B w0 w) (hB:B≤base) (hw:B≤w.heap.size):Below B w0 w':=by
 refine ⟨hg.os.trans hb.os,hg.tape.trans hb.tape,hg.output.trans hb.output,Nat.le_trans hb.size hg.size,fun k hk=>?_⟩;rw [← hb.block k hk];exact hg.block k (by omega) (pown_far h (by omega))
theorem palloc_le {w:World} {B:Nat} (h:B≤w.heap.size) (o:Obj):B≤(w.alloc o).heap.size:=by simp;omega
theorem pr_cell (w:World) (m r b t:Int):PrAt (w.alloc (.cells #[zI m,zI r,zI b,zI t] 158)) w.heap.size 0 ⟨m,r,b,t⟩:=
 ⟨(Blk.new w _ _).cell 0,(Blk.new w _ _).cell 1,(Blk.new w _ _).cell 2,(Blk.new w _ _).cell 3⟩
theorem info_pr:(Tryz.prog.info? 158).map (fun i=>(i.zero,i.size,i.bytes))=some (some (.agg #[zI 0,zI 0,zI 0,zI 0]),4,32):=by kernel_rfl
set_option maxRecDepth 100000
def Told (w : World) (P : Prop) (e : Ending) (w' : World) : Prop := ∃ r : Bool, e = .returned (.bool r) ∧ (r = true ↔ P) ∧ Below w.heap.size w w'
theorem Told.yes {w w' : World} {P : Prop} (h : P) (hb : Below w.heap.size w w') : Told w P (.returned (.bool true)) w' := ⟨true, rfl, by simp [h], hb⟩
theorem Told.no {w w' : World} {P : Prop} (h : ¬ P) (hb : Below w.heap.size w w') : Told w P (.returned (.bool false)) w' := ⟨false, rfl, by simp [h], hb⟩
structure Bo (w wr : World) (a : Option Addr) (n cap : Nat) (l : List Pr) : Prop where
 box : Blk wr w.heap.size #[.slice a n cap] 34
 row : RowP wr a n l
 bel : Below w.heap.size w wr
theorem Bo.next {w wr w' : World} {a : Option Addr} {n cap : Nat} {l : List Pr} (h : Bo w wr a n cap l) (hb : Below wr.heap.size wr w') : Bo w w' a n cap l := ⟨h.box.next hb, h.row.below hb, bel_step h.bel hb⟩
theorem Bo.alloc {w wr : World} {a : Option Addr} {n cap : Nat} {l : List Pr} (h : Bo w wr a n cap l) (o : Obj) : Bo w (wr.alloc o) a n cap l := h.next ((Below.refl _ _).alloc (Nat.le_refl _) _)
theorem Bo.new {w : World} {a : Option Addr} {n cap : Nat} {l : List Pr} (h : RowP w a n l) : Bo w (w.alloc (.cells #[.slice a n cap] 34)) a n cap l :=
 ⟨Blk.new w _ _, h.below ((Below.refl _ _).alloc (Nat.le_refl _) _), (Below.refl _ _).alloc (Nat.le_refl _) _⟩
theorem take_nextP (l : List Pr) (k : Nat) (h : k < l.length) : l.take k ++ [⟨(l.getD k pr0).m, (l.getD k pr0).r, (l.getD k pr0).b, (l.getD k pr0).t⟩] = l.take (k + 1) := by
 rw [List.take_succ_eq_append_getElem h]
 congr 2
 simp [List.getD, List.getElem?_eq_getElem h]
structure Bi (w wr : World) (a : Option Addr) (n cap : Nat) (l : List Pr) : Prop where
 bo : Bo w wr a n cap l
 out : Blk wr (w.heap.size + 1) #[.slice none 0 0] 34
theorem Bi.next {w wr w' : World} {a : Option Addr} {n cap : Nat} {l : List Pr} (h : Bi w wr a n cap l) (hb : Below wr.heap.size wr w') : Bi w w' a n cap l := ⟨h.bo.next hb, h.out.next hb⟩
theorem Bi.alloc {w wr : World} {a : Option Addr} {n cap : Nat} {l : List Pr} (h : Bi w wr a n cap l) (o : Obj) : Bi w (wr.alloc o) a n cap l := h.next ((Below.refl _ _).alloc (Nat.le_refl _) _)
theorem Pw.put2 {w : World} {base G : Nat} {v : Value} {l : List Pr} {cs : Array Value} {t : TypeId} (h : Pw w base v l) (hB : Blk w G cs t) (ht : t ≠ 158) (i : Nat) (u : Value) : Pw (w.setCell ⟨G, i, none⟩ u) base v l := by
 refine ⟨h.1, ?_⟩
 rcases h.2 with hn | ⟨g, cap, cur, hv, hg, hc, rest⟩
 ·exact .inl hn
 ·refine .inr ⟨g, cap, cur, hv, hg, Blk.other hc i u (fun e => ?_), rest⟩
  subst e
  have := hB.symm.trans hc
  simp only [Option.some.injEq, Obj.cells.injEq] at this
  exact ht this.2.1
structure Came (w : World) (a : Option Addr) (n cap : Nat) (l : List Pr) : Prop where
 row : RowP w a n l
 nil : a = none → cap = 0
 le : n ≤ cap
 small : n * 32 ≤ 140737488351232
theorem Came.below {w w' : World} {a : Option Addr} {n cap : Nat} {l : List Pr} (h : Came w a n cap l) (hb : Below w.heap.size w w') : Came w' a n cap l := ⟨h.row.below hb, h.nil, h.le, h.small⟩
end ora
namespace acc
open tar (Du du0 Came RowD Ld PairT)
open Go.RowKit
theorem row_upd {w W:World} {g:Nat} {new:Array Value} {t:TypeId} {p:Option Addr} {len:Nat} {l:List Du} (h:RowD w p len l) (hU:Upd w W g new t) (hg:0<len→∀ x,p=some x→x.block≠g):RowD W p len l:=by
 refine ⟨h.1,?_⟩;rcases h.2 with h0 | ⟨b,off,rfl,hc⟩
 ·exact .inl h0
 ·refine .inr ⟨b,off,rfl,fun i hi=>?_⟩;have hne:b≠g:=hg (by omega) _ rfl;rw [hU.cell ⟨b,off+i*2,none⟩ hne rfl,hU.cell ⟨b,off+i*2+1,none⟩ hne rfl];exact hc i hi
theorem came_upd {w W:World} {g:Nat} {new:Array Value} {t:TypeId} {p:Option Addr} {len cap:Nat} {l:List Du} (h:Came w p len cap l) (hU:Upd w W g new t) (hg:0<len→∀ x,p=some x→x.block≠g):Came W p len cap l:=⟨row_upd h.row hU hg,h.nil,h.room,h.bytes,h.wf⟩
theorem fresh_updN {w W:World} {g base:Nat} {new:Array Value} {t:TypeId} {p:Option Addr} {len cap:Nat} {l:List Du} (h:deb.Fresh w base p len cap l) (hU:Upd w W g new t) (hg:0<len→∀ x,p=some x→x.block≠g):deb.Fresh W base p len cap l:=⟨came_upd h.came hU hg,h.new⟩
theorem fresh_drew {w:World} {base:Nat} {p:Option Addr} {len cap:Nat} {l:List Du} (h:deb.Fresh w base p len cap l):deb.Fresh w.drew base p len cap l:=⟨⟨h.came.row,h.came.nil,h.came.room,h.came.bytes,h.came.wf⟩,h.new⟩
theorem ld_upd {T:TypeId} {w W:World} {g base:Nat} {new:Array Value} {t:TypeId} {v:Value} {l:List Du} (h:Ld T w base v l) (hU:Upd w W g new t) (hg:g<base):Ld T W base v l:=by
 refine ⟨h.1,?_⟩;rcases h.2 with hn | ⟨q,cap,cur,hv,hq,hc,rest⟩
 ·exact .inl hn
 ·exact .inr ⟨q,cap,cur,hv,hq,hU.keep hc (by omega),rest⟩
theorem came_lt {w:World} {p:Option Addr} {len cap:Nat} {l:List Du} (h:Came w p len cap l):0<len→∀ x,p=some x→x.block<w.heap.size:=fun hn x hx=>by
 obtain ⟨b,off,hp,hb,_⟩:=h.row.at hn;rw [hp] at hx;cases hx;exact hb
end acc
namespace words
open Go.RowKit
abbrev Wat (w:World) (G:Nat) (x:W3):Prop:=Trio w G (.int .u32 x.a) (.int .u32 x.b) (.int .u32 x.c)
theorem Trio.lt {w:World} {G:Nat} {y0 y1 y2:Value} (h:Trio w G y0 y1 y2):G<w.heap.size:=by
 by_cases hh:G<w.heap.size
 ·exact hh
 ·unfold Trio at h;rw [Array.getElem?_eq_none (by omega)] at h;cases h
theorem Trio.below {w w':World} {G:Nat} {y0 y1 y2:Value} (h:Trio w G y0 y1 y2) (hb:Below w.heap.size w w'):Trio w' G y0 y1 y2:=by
 have hlt:=h.lt;unfold Trio at *;rw [hb.block G hlt];exact h
abbrev put3 (w:World) (G:Nat) (a b c:Value):World:=((w.setCell ⟨G,0,none⟩ a).setCell ⟨G,1,none⟩ b).setCell ⟨G,2,none⟩ c
theorem Trio.put {w:World} {G:Nat} {y0 y1 y2:Value} (h:Trio w G y0 y1 y2) (a b c:Value):Trio (put3 w G a b c) G a b c:=((h.set0 a).set1 b).set2 c
theorem below_put3 {B:Nat} {w w':World} (h:Below B w w') (G:Nat) (u v x:Value) (hG:B≤G):Below B w (put3 w' G u v x):=below_set (below_set (below_set h G 0 u hG) G 1 v hG) G 2 x hG
theorem agg_ne {x y:W3} (h:x≠y):¬ (x.a=y.a∧x.b=y.b∧x.c=y.c):=fun ⟨h1,h2,h3⟩=>h (by cases x;cases y;simp_all)
theorem ofInt_nat (k a:Nat) (h:a<2 ^ k):(BitVec.ofInt k (a:Int)).toNat=a:=by
 rw [BitVec.ofInt_natCast,BitVec.toNat_ofNat];exact Nat.mod_eq_of_lt h
theorem wrap_u32 (n:Int):IntKind.u32.wrap n=n % 4294967296:=by simp [IntKind.wrap,IntKind.bits,IntKind.signed]
theorem or64 (a b:Nat) (ha:a<2 ^ 64) (hb:b<2 ^ 64):bits .or .u64 (a:Int) (b:Int)=((a ||| b:Nat):Int):=by
 have h:=Nat.or_lt_two_pow ha hb;show IntKind.u64.wrap ((BitVec.ofInt 64 (a:Int) ||| BitVec.ofInt 64 (b:Int)).toNat:Int)=_;rw [BitVec.toNat_or,ofInt_nat 64 a ha,ofInt_nat 64 b hb,IntKind.wrap_u64];omega
theorem and64 (a b:Nat) (ha:a<2 ^ 64) (hb:b<2 ^ 64):bits .and .u64 (a:Int) (b:Int)=((a &&& b:Nat):Int):=by
 have h:a &&& b<2 ^ 64:=Nat.and_lt_two_pow a hb;show IntKind.u64.wrap ((BitVec.ofInt 64 (a:Int) &&& BitVec.ofInt 64 (b:Int)).toNat:Int)=_;rw [BitVec.toNat_and,ofInt_nat 64 a ha,ofInt_nat 64 b hb,IntKind.wrap_u64];omega
theorem or32 (a b:Nat) (ha:a<2 ^ 32) (hb:b<2 ^ 32):bits .or .u32 (a:Int) (b:Int)=((a ||| b:Nat):Int):=by
 have h:=Nat.or_lt_two_pow ha hb;show IntKind.u32.wrap ((BitVec.ofInt 32 (a:Int) ||| BitVec.ofInt 32 (b:Int)).toNat:Int)=_;rw [BitVec.toNat_or,ofInt_nat 32 a ha,ofInt_nat 32 b hb,wrap_u32];omega
theorem andNot32 (a b:Nat) (ha:a<2 ^ 32) (hb:b<2 ^ 32):bits .andNot .u32 (a:Int) (b:Int)=((a &&& (2 ^ 32 - 1 - b):Nat):Int):=by
 have h:a &&& (2 ^ 32 - 1 - b)<2 ^ 32:=Nat.and_lt_two_pow a (by omega);show IntKind.u32.wrap ((BitVec.ofInt 32 (a:Int) &&& ~~~ BitVec.ofInt 32 (b:Int)).toNat:Int)=_;rw [BitVec.toNat_and,BitVec.toNat_not,ofInt_nat 32 a ha,ofInt_nat 32 b hb,wrap_u32];omega
theorem or_words (n x:Int) (n0:0≤n) (n1:n<4294967296) (x0:0≤x) (x1:x<4294967296):bits .or .u64 (n*4294967296) x=n*4294967296+x:=by
 obtain ⟨p,rfl⟩:=Int.eq_ofNat_of_zero_le n0;obtain ⟨q,rfl⟩:=Int.eq_ofNat_of_zero_le x0;have e:((p:Int)*4294967296)=((p*4294967296:Nat):Int):=by simp
 rw [e,or64 _ _ (by omega) (by omega)];have h:=Nat.shiftLeft_add_eq_or_of_lt (show q<2 ^ 32 by omega) p;rw [Nat.shiftLeft_eq] at h;have h2:p*4294967296 ||| q=p*4294967296+q:=h.symm
 rw [h2];simp
end words
namespace ora
open Go.RowKit
open Go.ChangeMaps (setBlock heap_setBlock_same heap_setBlock_other)
def ent (p:Pr) (i:Nat):MapEntry:={ key:= .agg #[zI p.m,zI p.r,zI p.b],val:=zI p.t,born:=i }
def ents:List Pr→Nat→List MapEntry
 | [],_=>[]
 | p :: l,i=>ent p i :: ents l (i+1)
theorem ents_app (l:List Pr) (p:Pr) (i:Nat):ents (l++[p]) i=ents l i++[ent p (i+l.length)]:=by
 induction l generalizing i with
 | nil=>rfl
 | cons x l ih=>simp only [List.cons_append,ents,ih,List.length_cons];rw [show i+1+l.length=i+(l.length+1) by omega]
def Mp (w:World) (B:Nat) (l:List Pr):Prop:=w.heap[B]?=some (.map (ents l 0).toArray l.length)
theorem Mp.lt {w:World} {B:Nat} {l:List Pr} (h:Mp w B l):B<w.heap.size:=by
 unfold Mp at h;by_cases hh:B<w.heap.size
 ·exact hh
 ·rw [Array.getElem?_eq_none (by omega)] at h;cases h
theorem Mp.below {w w':World} {B:Nat} {l:List Pr} (h:Mp w B l) (hb:Below w.heap.size w w'):Mp w' B l:=by
 have hl:=h.lt;unfold Mp at *;rw [hb.block B hl];exact h
theorem Mp.new (w:World):Mp (w.alloc (.map #[] 0)) w.heap.size []:=by
 show (w.heap.push _)[w.heap.size]?=_;rw [Array.getElem?_push_size];rfl
def look:List Pr→Int→Int→Int→Option Int
 | [],_,_,_=>none
 | p :: l,m,r,b=>if m=p.m∧r=p.r∧b=p.b then some p.t else look l m r b
theorem look_no {l:List Pr} {m r b:Int} (h:No l m r b):look l m r b=none:=by
 induction l with
 | nil=>rfl
 | cons p l ih=>
  have h0:=h 0 (by simp);rw [look,if_neg (fun e=>h0 ⟨e.1.symm,e.2.1.symm,e.2.2.symm⟩)];exact ih fun j hj=>h (j+1) (by simpa using hj)
theorem look_at {l:List Pr} {m r b:Int} {i:Nat} (h:At l m r b i):look l m r b=some (l.getD i pr0).t:=by
 induction l generalizing i with
 | nil=>exact absurd h.lt (Nat.not_lt_zero _)
 | cons p l ih=>
  cases i with
  | zero=>
   have h0:=h.is;rw [look,if_pos ⟨h0.1.symm,h0.2.1.symm,h0.2.2.symm⟩];rfl
  | succ i=>
   have h0:=h.first 0 (by omega);rw [look,if_neg (fun e=>h0 ⟨e.1.symm,e.2.1.symm,e.2.2.symm⟩)];exact ih ⟨by have:=h.lt;simpa using this,h.is,fun j hj=>h.first (j+1) (by omega)⟩
theorem look_take {l:List Pr} {m r b:Int} {k:Nat} (hk:k≤l.length):look (l.take k) m r b=none↔∀ j,j<k→¬ (l.getD j pr0).key m r b:=by
 have hg:∀ j,j<k→(l.take k).getD j pr0=l.getD j pr0:=fun j hj=>by simp [List.getD,List.getElem?_take,hj]
 rcases find_or (l.take k) m r b with ⟨i,hi⟩ | hn
 ·constructor
  ·intro h;rw [look_at hi] at h;cases h
  ·intro h;have hl:=hi.lt;rw [List.length_take] at hl;have:=hi.is;rw [hg i (by omega)] at this;exact absurd this (h i (by omega))
 ·constructor
  ·intro _ j hj;have:=hn j (by rw [List.length_take];omega)
   rwa [hg j hj] at this
  ·intro _;exact look_no hn
theorem skq (d:Nat) (a b:Int) (w:World):(Op.equalIn (d+1) 3 (zI a) (zI b)).run Tryz.prog w = .ok (a == b) w:=run_equalIn_int w d _ _ _ a b Tryz.underlying3
theorem sk0 (s t c:Int) (w:World):(part 3 #[zI s,zI t,zI c] 0).run Tryz.prog w = .ok (zI s) w:=by kernel_rfl
theorem sk1 (s t c:Int) (w:World):(part 3 #[zI s,zI t,zI c] 1).run Tryz.prog w = .ok (zI t) w:=by kernel_rfl
theorem sk2 (s t c:Int) (w:World):(part 3 #[zI s,zI t,zI c] 2).run Tryz.prog w = .ok (zI c) w:=by kernel_rfl
theorem eqSub (m r b:Int) (p:Pr) (w:World) :
  (Op.equal 106 (.agg #[zI m,zI r,zI b]) (.agg #[zI p.m,zI p.r,zI p.b])).run Tryz.prog w = .ok (decide (m=p.m∧r=p.r∧b=p.b)) w:=by
 unfold Op.equal;rw [show Op.maxDepth=9999+1 from rfl,run_equalIn_agg w 9999 106 _ _ (by kernel_rfl) (by kernel_rfl)];simp only [Program.fieldsOf,Tryz.underlying106,Op.eqFields,Sem.run_bind,Sem.run_ite];by_cases h1:m=p.m <;> by_cases h2:r=p.r <;> by_cases h3:b=p.b <;> simp [sk0,sk1,sk2,show (9999:Nat)=9998+1 from rfl,skq,h1,h2,h3]
theorem chk (em:Bool) (m r b:Int) (w:World):(Instr.checkKey em 10000 106 (.agg #[zI m,zI r,zI b])).run Tryz.prog w = .ok () w:=by kernel_rfl
theorem asking (m r b:Int) (w:World):∀ (l:List Pr) (i j:Nat),(look l m r b=none→(Instr.findAsking 106 (.agg #[zI m,zI r,zI b]) (ents l i) j).run Tryz.prog w = .ok none w) ∧
  ∀ t,look l m r b=some t→∃ q,(Instr.findAsking 106 (.agg #[zI m,zI r,zI b]) (ents l i) j).run Tryz.prog w = .ok (some (q,zI t)) w
 | [],i,j=>⟨fun _=>rfl,fun t h=>by cases h⟩
 | p :: l,i,j=>by
  have ih:=asking m r b w l (i+1) (j+1);unfold look;by_cases hp:m=p.m∧r=p.r∧b=p.b
  ·refine ⟨fun h=>(by rw [if_pos hp] at h;cases h),fun t h=>⟨j,?_⟩⟩;rw [if_pos hp] at h;cases h;simp [ents,Instr.findAsking,ent,eqSub,hp,Sem.run_bind]
  ·rw [if_neg hp]
   have e:∀ X,(Instr.findAsking 106 (.agg #[zI m,zI r,zI b]) (ents (p :: l) i) j).run Tryz.prog w=X↔(Instr.findAsking 106 (.agg #[zI m,zI r,zI b]) (ents l (i+1)) (j+1)).run Tryz.prog w=X:=fun X=>by
    simp [ents,Instr.findAsking,ent,eqSub,hp,Sem.run_bind]
   exact ⟨fun h=>(e _).2 (ih.1 h),fun t h=>(ih.2 t h).imp fun q hq=>(e _).2 hq⟩
theorem finding (m r b:Int) (w:World) (l:List Pr):(look l m r b=none→(Instr.findKey 106 (.agg #[zI m,zI r,zI b]) (ents l 0)).run Tryz.prog w = .ok none w) ∧
  ∀ t,look l m r b=some t→∃ q,(Instr.findKey 106 (.agg #[zI m,zI r,zI b]) (ents l 0)).run Tryz.prog w = .ok (some (q,zI t)) w:=by
 cases l with
 | nil=>exact ⟨fun _=>by simp [Instr.findKey,ents,Instr.findNow,run_underlying Tryz.underlying106,Sem.run_bind],fun t h=>by cases h⟩
 | cons p l=>
  have e:(Instr.findKey 106 (.agg #[zI m,zI r,zI b]) (ents (p :: l) 0)).run Tryz.prog w=(Instr.findAsking 106 (.agg #[zI m,zI r,zI b]) (ents (p :: l) 0)).run Tryz.prog w:=by
   simp [Instr.findKey,ents,Instr.findNow,Instr.sameNow,run_underlying Tryz.underlying106,Sem.run_bind]
  rw [e];exact asking m r b w (p :: l) 0 0
theorem zint (w:World):(zeroValue 3).run Tryz.prog w = .ok (zI 0) w:=by kernel_rfl
theorem look_run {w:World} {B:Nat} {l:List Pr} (h:Mp w B l) (m r b:Int) :
  (Instr.lookup 101 (.map (some B)) (.agg #[zI m,zI r,zI b]) true).run Tryz.prog w = .ok (.tuple #[zI ((look l m r b).getD 0),.bool (look l m r b).isSome]) w:=by
 have hf:=finding m r b w l;cases hl:look l m r b with
 | none=>simp [Instr.lookup,run_underlying Tryz.underlying101,MapKept.run_getObj_map h,chk,hf.1 hl,zint,Result.andThen,Sem.run_bind]
 | some t=>
  obtain ⟨q,hq⟩:=hf.2 t hl;simp [Instr.lookup,run_underlying Tryz.underlying101,MapKept.run_getObj_map h,chk,hq,Result.andThen,Sem.run_bind]
theorem upd_run {w:World} {B:Nat} {l:List Pr} (h:Mp w B l) (m r b t:Int) (hn:look l m r b=none) :
  ∃ W,(Instr.mapUpdate 101 (.map (some B)) (.agg #[zI m,zI r,zI b]) (zI t)).run Tryz.prog w = .ok () W∧Mp W B (l++[⟨m,r,b,t⟩])∧(∀ G,G≠B→W.heap[G]?=w.heap[G]?)∧(∀ B0 w0,B0≤B→Below B0 w0 w→Below B0 w0 W)∧W.heap.size=w.heap.size:=by
 have hf:=(finding m r b w l).1 hn;refine ⟨setBlock w B (.map ((ents l 0).toArray.push ⟨.agg #[zI m,zI r,zI b],zI t,l.length⟩) (l.length+1)),?_,?_,fun G hG=>heap_setBlock_other h _ hG,fun B0 w0 hB hb=>?_,by simp [setBlock]⟩
 ·simp [Instr.mapUpdate,run_underlying Tryz.underlying101,MapKept.run_getObj_map h,chk,hf,MapKept.run_setObj_map _ h,Result.andThen,setBlock,Sem.run_bind]
 ·unfold Mp;rw [heap_setBlock_same h,ents_app,List.length_append];simp [ent]
 ·refine ⟨hb.os,hb.tape,hb.output,by simp [setBlock];exact hb.size,fun k hk=>?_⟩;rw [heap_setBlock_other h _ (by omega)];exact hb.block k hk
theorem run_mkMap (w:World) (n:Int):(Instr.makeMap 101 (some (zI n))).run Tryz.prog w = .ok (.map (some w.heap.size)) (w.alloc (.map #[] 0)):=by kernel_rfl
end ora
namespace vnd
open ora (Pr)
open cell (Wr RowW)
open Go.RowKit
theorem rowP_upd {w W:World} {g:Nat} {cs:Array Value} {T:TypeId} {p:Option Addr} {n:Nat} {l:List Pr} (h:ora.RowP w p n l) (hU:Upd w W g cs T) (hg:0<n→∀ y,p=some y→y.block≠g):ora.RowP W p n l:=by
 refine ⟨h.1,?_⟩;rcases h.2 with h0 | ⟨b,off,rfl,hc⟩
 ·exact .inl h0
 ·refine .inr ⟨b,off,rfl,fun i hi=>?_⟩;have hne:b≠g:=hg (by omega) _ rfl;obtain ⟨h0,h1,h2,h3⟩:=hc i hi;exact ⟨by rw [hU.cell _ hne rfl];exact h0,by rw [hU.cell _ hne rfl];exact h1,by rw [hU.cell _ hne rfl];exact h2,by rw [hU.cell _ hne rfl];exact h3⟩
theorem rowW_upd {w W:World} {g:Nat} {cs:Array Value} {T:TypeId} {p:Option Addr} {n:Nat} {l:List Wr} (h:RowW w p n l) (hU:Upd w W g cs T) (hg:0<n→∀ y,p=some y→y.block≠g):RowW W p n l:=by
 refine ⟨h.1,?_⟩;rcases h.2 with h0 | ⟨b,off,rfl,hc⟩
 ·exact .inl h0
 ·refine .inr ⟨b,off,rfl,fun i hi=>?_⟩;have hne:b≠g:=hg (by omega) _ rfl;rw [hU.cell _ hne rfl,hU.cell _ hne rfl];exact hc i hi
theorem rowP_lt {w:World} {p:Option Addr} {n:Nat} {l:List Pr} (h:ora.RowP w p n l):0<n→∀ y,p=some y→y.block<w.heap.size:=fun hn y hy=>by
 obtain ⟨b,off,h8,l8,_⟩:=h.at hn;rw [h8] at hy;cases hy;exact l8
end vnd
namespace book
open Go.RowKit
def refV (f:Int):Value:= .iface 224 (.agg #[zI f])
def thrown (f:Int):List PanicEntry:=[{ v:=refV f,recovered:=false }]
theorem insist_ok (w:World):Calls Tryz.prog 134 #[zI 0] w fun e w'=>e = .returned (.tuple #[])∧w'=w:=by
 go_enter Tryz.func134,Tryz.ntmps134;go_wp2;go_end0;exact ⟨rfl,rfl⟩
theorem insist_no (f:Int) (hf:f≠0) (w:World):Calls Tryz.prog 134 #[zI f] w fun e w'=>e = .panicked (thrown f)∧w'=w:=by
 have nf:(f != 0)=true:=by simpa using hf
 clear hf;go_enter Tryz.func134,Tryz.ntmps134;go_wp2;exact ⟨rfl,rfl,rfl⟩
theorem reason_nil (w:World):Calls Tryz.prog 76 #[.nilIface] w fun e w'=>e = .returned (zI 0)∧w'=w:=by
 have hq:∀ w:World,(binOp BinOp.eql 20 .nilIface .nilIface).run Tryz.prog w = .ok (.bool true) w:=fun _=>by kernel_rfl
 go_enter Tryz.func76,Tryz.ntmps76;go_wp2;go_ret;exact ⟨rfl,rfl⟩
theorem reason_is (f:Int) (w:World):Calls Tryz.prog 76 #[refV f] w fun e w'=>e = .returned (zI f)∧Below w.heap.size w w':=by
 have hq:∀ w:World,(binOp BinOp.eql 20 (refV f) .nilIface).run Tryz.prog w = .ok (.bool false) w:=fun _=>by kernel_rfl
 have h1:∀ w:World,(Instr.typeAssert (refV f) 20 210 false).run Tryz.prog w = .ok (refV f) w:=fun _=>by kernel_rfl
 have h2:∀ w:World,(Instr.typeAssert (refV f) 210 224 true).run Tryz.prog w = .ok (.tuple #[.agg #[zI f],.bool true]) w:=fun _=>by kernel_rfl
 have HB:Hid (Below w.heap.size w (w.alloc (.cells #[zI f] 224))):=(Below.refl _ _).alloc (Nat.le_refl _) _;unfold refV at *;go_enter Tryz.func76,Tryz.ntmps76;go_wp2;go_ret;exact ⟨rfl,HB.o⟩
theorem encode_caught (g:Nat) (f0 f:Int) (w:World) (hb:Blk w g #[zI f0] 42) :
  CallsD Tryz.prog 103 #[.pointer (some ⟨g,0,none⟩)] (.panicking (thrown f)) w fun e u' w'=>e = .returned (.tuple #[])∧settle u' = .returning∧∃ W,Below w.heap.size w W∧Upd W w' g #[zI f] 42:=by
 refine callsD_of_wpS Tryz.func103 rfl fun c₀ cs hu=>?_;apply wpS_region;simp only [thrown] at hu;simp [wpOpsS,go_sem,recoverD,hu,Tryz.ntmps103,Exit.thenS];refine (reason_is f w).mono ?_;rintro e w1 ⟨rfl,hb1⟩;have hB:=hb.next hb1;have hc:w1.cell? ⟨g,0,none⟩=some (zI f0):=hB.cell 0;have hz:w1.frozen? ⟨g,0,none⟩=false:=hB.free 0;have hU:Upd w1 (w1.setCell ⟨g,0,none⟩ (zI f)) g #[zI f] 42:=upd_cells g _ [zI f] 0 w1 _ hB;simp [go_sem,hc,hz,bodyPostS,results,Tryz.results103,settle];exact ⟨w1,hb1,hU⟩
theorem encode_idle (g:Nat) (f0:Int) (w:World) (hb:Blk w g #[zI f0] 42) :
  CallsD Tryz.prog 103 #[.pointer (some ⟨g,0,none⟩)] .returning w fun e u' w'=>e = .returned (.tuple #[])∧settle u' = .returning∧∃ W,Below w.heap.size w W∧Upd W w' g #[zI 0] 42:=by
 refine callsD_of_wpS Tryz.func103 rfl fun c₀ cs hu=>?_;apply wpS_region;simp [wpOpsS,go_sem,recoverD,hu,Tryz.ntmps103,Exit.thenS];refine (reason_nil w).mono ?_;rintro e w1 ⟨rfl,rfl⟩;have hc:w1.cell? ⟨g,0,none⟩=some (zI f0):=hb.cell 0;have hz:w1.frozen? ⟨g,0,none⟩=false:=hb.free 0;have hU:Upd w1 (w1.setCell ⟨g,0,none⟩ (zI 0)) g #[zI 0] 42:=upd_cells g _ [zI 0] 0 w1 _ hb;simp [go_sem,hc,hz,bodyPostS,results,Tryz.results103,hu,settle];exact ⟨.returning,(by cases c₀;simp_all),rfl,w1,Below.refl _ _,hU⟩
theorem decode_caught (g:Nat) (f0 f:Int) (w:World) (hb:Blk w g #[zI f0] 42) :
  CallsD Tryz.prog 111 #[.pointer (some ⟨g,0,none⟩)] (.panicking (thrown f)) w fun e u' w'=>e = .returned (.tuple #[])∧settle u' = .returning∧∃ W,Below w.heap.size w W∧Upd W w' g #[zI f] 42:=by
 refine callsD_of_wpS Tryz.func111 rfl fun c₀ cs hu=>?_;apply wpS_region;simp only [thrown] at hu;simp [wpOpsS,go_sem,recoverD,hu,Tryz.ntmps111,Exit.thenS];refine (reason_is f w).mono ?_;rintro e w1 ⟨rfl,hb1⟩;have hB:=hb.next hb1;have hc:w1.cell? ⟨g,0,none⟩=some (zI f0):=hB.cell 0;have hz:w1.frozen? ⟨g,0,none⟩=false:=hB.free 0;have hU:Upd w1 (w1.setCell ⟨g,0,none⟩ (zI f)) g #[zI f] 42:=upd_cells g _ [zI f] 0 w1 _ hB;simp [go_sem,hc,hz,bodyPostS,results,Tryz.results111,settle];exact ⟨w1,hb1,hU⟩
theorem decode_idle (g:Nat) (f0:Int) (w:World) (hb:Blk w g #[zI f0] 42) :
  CallsD Tryz.prog 111 #[.pointer (some ⟨g,0,none⟩)] .returning w fun e u' w'=>e = .returned (.tuple #[])∧settle u' = .returning∧∃ W,Below w.heap.size w W∧Upd W w' g #[zI 0] 42:=by
 refine callsD_of_wpS Tryz.func111 rfl fun c₀ cs hu=>?_;apply wpS_region;simp [wpOpsS,go_sem,recoverD,hu,Tryz.ntmps111,Exit.thenS];refine (reason_nil w).mono ?_;rintro e w1 ⟨rfl,rfl⟩;have hc:w1.cell? ⟨g,0,none⟩=some (zI f0):=hb.cell 0;have hz:w1.frozen? ⟨g,0,none⟩=false:=hb.free 0;have hU:Upd w1 (w1.setCell ⟨g,0,none⟩ (zI 0)) g #[zI 0] 42:=upd_cells g _ [zI 0] 0 w1 _ hb;simp [go_sem,hc,hz,bodyPostS,results,Tryz.results111,hu,settle];exact ⟨.returning,(by cases c₀;simp_all),rfl,w1,Below.refl _ _,hU⟩
end book
namespace words
open Go.RowKit
theorem downward_any (K:Nat) (caps:Array Value) (B:Nat) (v0 v1 v2 v3:Value) (x0 x1 x2 y0 y1 y2:Int) (w:World) (h:Acc w w B v0) (hK:∀ args w,(callFunc K args).run Tryz.prog w = .ok (.enter K args) w)
  (s0:∀ w',Acc w w' B v0→Calls Tryz.prog K (#[.int .u32 x2]++caps) w' fun e w''=>e = .returned (.int .u32 y2)∧Acc w' w'' B v1)
  (s1:∀ w',Acc w w' B v1→Calls Tryz.prog K (#[.int .u32 x1]++caps) w' fun e w''=>e = .returned (.int .u32 y1)∧Acc w' w'' B v2)
  (s2:∀ w',Acc w w' B v2→Calls Tryz.prog K (#[.int .u32 x0]++caps) w' fun e w''=>e = .returned (.int .u32 y0)∧Acc w' w'' B v3) :
  Calls Tryz.prog 56 #[.agg #[.int .u32 x0,.int .u32 x1,.int .u32 x2],.func (.func K) #[] caps] w fun e w'=>e = .returned (.agg #[.int .u32 y0,.int .u32 y1,.int .u32 y2])∧Acc w w' B v3:=by
 have HS0:Hid (∀ w',Acc w w' B v0→Calls Tryz.prog K (#[.int .u32 x2]++caps) w' fun e w''=>e = .returned (.int .u32 y2)∧Acc w' w'' B v1):=s0;have HS1:Hid (∀ w',Acc w w' B v1→Calls Tryz.prog K (#[.int .u32 x1]++caps) w' fun e w''=>e = .returned (.int .u32 y1)∧Acc w' w'' B v2):=s1;have HS2:Hid (∀ w',Acc w w' B v2→Calls Tryz.prog K (#[.int .u32 x0]++caps) w' fun e w''=>e = .returned (.int .u32 y0)∧Acc w' w'' B v3):=s2;have HA:Hid (Acc w w B v0):=h;clear s0 s1 s2 h;go_enter Tryz.func56,Tryz.ntmps56;go_wp2_with fail;refine wp_loop_rounds 4 ?_;rw [rounds_succ];go_wp2_with fail;refine (HS0.o _ ((HA.o.alloc _).alloc _)).mono ?_;rintro e w1 ⟨rfl,h1⟩;have hB:=HA.o.old;have T1:Trio w1 w.heap.size (.int .u32 x0) (.int .u32 x1) (.int .u32 x2):=(trio_a _ _ _ _ _).acc h1 (by omega);have R1:Trio w1 (w.heap.size+1) (.int .u32 0) (.int .u32 0) (.int .u32 0):=(trio_b _ _ _ _ _).acc h1 (by omega);have A1:=((HA.o.alloc _).alloc _).trans h1;have c2:=T1.c2;have f2:=T1.free 2;have T1':=T1.set2 (.int .u32 y2);have d1:=T1'.c1;have HT:Hid (Trio (w1.setCell ⟨w.heap.size,2,none⟩ (.int .u32 y2)) w.heap.size (.int .u32 x0) (.int .u32 x1) (.int .u32 y2)):=T1';have HR:Hid (Trio (w1.setCell ⟨w.heap.size,2,none⟩ (.int .u32 y2)) (w.heap.size+1) (.int .u32 0) (.int .u32 0) (.int .u32 0)):=R1.other _ _ (by omega);have HA1:Hid (Acc w (w1.setCell ⟨w.heap.size,2,none⟩ (.int .u32 y2)) B v1):=A1.setNew _ _ _ (Nat.le_refl _);clear h1 T1 R1 A1 T1' HA HS0;go_wp2_with fail;rw [rounds_succ];go_wp2_with fail;refine (HS1.o _ HA1.o).mono ?_;rintro e w2 ⟨rfl,h2⟩;have T2:=HT.o.acc h2 (by omega);have R2:=HR.o.acc h2 (by omega);have A2:=HA1.o.trans h2;clear c2 f2 d1 HT HR HA1 HS1 h2;have c1:=T2.c1;have f1:=T2.free 1;have T2':=T2.set1 (.int .u32 y1);have d2:=T2'.c0;have HT:Hid (Trio (w2.setCell ⟨w.heap.size,1,none⟩ (.int .u32 y1)) w.heap.size (.int .u32 x0) (.int .u32 y1) (.int .u32 y2)):=T2';have HR:Hid (Trio (w2.setCell ⟨w.heap.size,1,none⟩ (.int .u32 y1)) (w.heap.size+1) (.int .u32 0) (.int .u32 0) (.int .u32 0)):=R2.other _ _ (by omega)
 have HA2:Hid (Acc w (w2.setCell ⟨w.heap.size,1,none⟩ (.int .u32 y1)) B v2):=A2.setNew _ _ _ (Nat.le_refl _);clear T2 R2 A2 T2';go_wp2_with fail;rw [rounds_succ];go_wp2_with fail;refine (HS2.o _ HA2.o).mono ?_;rintro e w3 ⟨rfl,h3⟩;have T3:=HT.o.acc h3 (by omega);have R3:=HR.o.acc h3 (by omega);have A3:=HA2.o.trans h3;clear c1 f1 d2 HT HR HA2 HS2 h3;have c0:=T3.c0;have f0:=T3.free 0;have T3':=T3.set0 (.int .u32 y0);have R3':=R3.other (G':=w.heap.size) 0 (.int .u32 y0) (by omega);have e0:=T3'.c0;have e1:=T3'.c1;have e2:=T3'.c2;have r0:=R3'.c0;have r1:=R3'.c1;have r2:=R3'.c2;have g0:=R3'.free 0;have g1:=R3'.free 1;have g2:=R3'.free 2;have HR3:Hid (Trio (w3.setCell ⟨w.heap.size,0,none⟩ (.int .u32 y0)) (w.heap.size+1) (.int .u32 0) (.int .u32 0) (.int .u32 0)):=R3';have HA3:Hid (Acc w (w3.setCell ⟨w.heap.size,0,none⟩ (.int .u32 y0)) B v3):=A3.setNew _ _ _ (Nat.le_refl _);clear T3 R3 A3 T3' R3';go_wp2_with fail;rw [rounds_succ];go_wp2_with fail;have RR:=((HR3.o.set0 (.int .u32 y0)).set1 (.int .u32 y1)).set2 (.int .u32 y2);have AA:=((HA3.o.setNew (w.heap.size+1) 0 (.int .u32 y0) (by omega)).setNew (w.heap.size+1) 1 (.int .u32 y1) (by omega)).setNew (w.heap.size+1) 2 (.int .u32 y2) (by omega);refine bodyPost_ret (v:= .agg #[.int .u32 y0,.int .u32 y1,.int .u32 y2]) (by simp [results,Tryz.results56,RR.c0,RR.c1,RR.c2,go_sem]) rfl ⟨rfl,AA⟩
end words
end Go.Proofs.YtdpfnedfakgolaaGreatDoor
