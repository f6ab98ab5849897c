import Derived.Test.YtoepgdhiepedeaaGreatDoorVVSls1
set_option linter.unusedVariables false
set_option linter.unusedSimpArgs false
set_option maxHeartbeats 4000000
set_option maxRecDepth 100000
namespace Go.Proofs.YtoepgdhiepedeaaGreatDoor
namespace ora
open Go.RowKit
def PrAt(w:World)(b o:Nat)(p:Pr):Prop:=w.cell? ⟨b,o,none⟩=some (zI p.m)∧w.cell? ⟨b,o+1,none⟩=some (zI p.r)∧w.cell? ⟨b,o+2,none⟩=some (zI p.b)∧w.cell? ⟨b,o+3,none⟩=some (zI p.t)
theorem PrAt.below{w w':World}{b o:Nat}{p:Pr}(h:PrAt w b o p)(hb:zB w w'):PrAt w' b o p:=by
 have a:b<w.heap.size:=World.block_lt_of_cell? w _ h.1;exact⟨(hb.cell (p:=⟨b,o,none⟩) a).trans h.1,(hb.cell (p:=⟨b,o+1,none⟩) a).trans h.2.1,(hb.cell (p:=⟨b,o+2,none⟩) a).trans h.2.2.1,(hb.cell (p:=⟨b,o+3,none⟩) a).trans h.2.2.2⟩
def RowP(w:World)(a:Option Addr)(len:Nat)(ps:List Pr):Prop:=
 ps.length=len∧(len=0∨∃b off,a=some ⟨b,off,none⟩∧∀i,i<len→PrAt w b (off+i*4) (ps.getD i pr0))
variable{w:World}{v:Value}{l:List Pr}{base:Nat}{ps:List Pr}{t:TypeId}
theorem RowP.below{w w':World}{a:Option Addr}{n:Nat}(h:RowP w a n ps)(hb:zB w w'):RowP w' a n ps:=by
 refine⟨h.1,?_⟩;rcases h.2 with d|⟨b,c,rfl,e⟩
 ·exact .inl d
 ·exact .inr ⟨b,c,rfl,λi f=>(e i f).below hb⟩
theorem RowP.nil(w:World)(a:Option Addr):RowP w a 0 []:=⟨rfl,.inl rfl⟩
theorem RowP.at{a:Option Addr}{n:Nat}(h:RowP w a n ps)(h0:0<n):∃b off,a=some ⟨b,off,none⟩∧b<w.heap.size∧∀i,i<n→PrAt w b (off+i*4) (ps.getD i pr0):=by
 rcases h.2 with d|⟨b,off,rfl,c⟩
 ·omega
 ·exact⟨b,off,rfl,World.block_lt_of_cell? w _ (c 0 h0).1,c⟩
def cellsP:List Pr→List Value
 |[]=>[]
 |p::l=>zI p.m::zI p.r::zI p.b::zI p.t::cellsP l
theorem cellsP_len(l:List Pr):(cellsP l).length=l.length*4:=by
 induction l with
 |nil=>rfl
 |cons e l ih=>simp[cellsP,ih];omega
theorem cellsP_app(l m:List Pr):cellsP (l++m)=cellsP l++cellsP m:=by
 induction l with
 |nil=>rfl
 |cons e l ih=>simp[cellsP,ih]
theorem oneP(l:List Pr):∀u∈cellsP l,u.oneCell'=true:=by
 induction l with
 |nil=>intro u a;cases a
 |cons e l ih=>
  intro u a;simp only[cellsP,List.mem_cons] at a;rcases a with rfl|rfl|rfl|rfl|a
  ·rfl
  ·rfl
  ·rfl
  ·rfl
  ·exact ih u a
theorem cellsP_at(l:List Pr)(k:Nat)(hk:k<l.length):(cellsP l)[k*4]?=some (zI (l.getD k pr0).m)∧(cellsP l)[k*4+1]?=some (zI (l.getD k pr0).r)∧(cellsP l)[k*4+2]?=some (zI (l.getD k pr0).b)∧(cellsP l)[k*4+3]?=some (zI (l.getD k pr0).t):=by
 induction l generalizing k with
 |nil=>simp at hk
 |cons x l ih=>
  cases k with
  |zero=>exact⟨rfl,rfl,rfl,rfl⟩
  |succ k=>
   rw[show (k+1)*4=k*4+1+1+1+1 by omega];have:=ih k (by simpa using hk);simpa [cellsP] using this
theorem cellsP_get{b off len:Nat}(hz:ps.length=len)(hc:∀i,i<len→PrAt w b (off+i*4) (ps.getD i pr0))(j:Nat)(u:Value)(hu:(cellsP ps)[j]?=some u):w.cell? ⟨b,off+j,none⟩=some u:=by
 have f:j<(cellsP ps).length:=by
  by_cases h:j<(cellsP ps).length
  ·exact h
  ·rw[List.getElem?_eq_none (by omega)] at hu;cases hu
 rw[cellsP_len] at f;have d:=cellsP_at ps (j/4) (by omega);have c:=hc (j/4) (by omega);have e:j%4=0∨j%4=1∨j%4=2∨j%4=3:=by omega
 unfold PrAt at c;rcases e with e|e|e|e
 ·have a:j/4*4=j:=by omega
  rw[a] at d c;rw[d.1] at hu;rw[c.1];exact hu
 ·have a:j/4*4+1=j:=by omega
  rw[Nat.add_assoc off,a] at c;rw[a] at d;rw[d.2.1] at hu;rw[c.2.1];exact hu
 ·have a:j/4*4+2=j:=by omega
  rw[Nat.add_assoc off (j/4*4) 2,a] at c;rw[a] at d;rw[d.2.2.1] at hu;rw[c.2.2.1];exact hu
 ·have a:j/4*4+3=j:=by omega
  rw[Nat.add_assoc off (j/4*4) 3,a] at c;rw[a] at d;rw[d.2.2.2] at hu;rw[c.2.2.2];exact hu
def Pw(w:World)(base:Nat)(v:Value)(l:List Pr):Prop:=w.ownsRow base 87 4 v l.length (cellsP l)
theorem Pw.zero(w:World)(base:Nat):Pw w base (zS) []:=World.ownsRow_nil _ _ _ _
theorem Pw.alloc(h:Pw w base v l)(o:Obj):Pw (w.alloc o) base v l:=World.ownsRow.alloc h o
theorem Pw.next{w w':World}(h:Pw w base v l)(hb:zB w w'):Pw w' base v l:=by
 refine⟨h.1,?_⟩;rcases h.2 with e|⟨g,a,b,f,d,c,rest⟩
 ·exact .inl e
 ·exact .inr ⟨g,a,b,f,d,Blk.next c hb,rest⟩
theorem Pw.low{base base':Nat}(h:Pw w base v l)(hb:base'≤base):Pw w base' v l:=by
 refine⟨h.1,?_⟩;rcases h.2 with c|⟨g,a,b,d,e,rest⟩
 ·exact .inl c
 ·exact .inr ⟨g,a,b,d,by omega,rest⟩
theorem Pw.put(h:Pw w base v l)(G i:Nat)(u:Value)(hG:G<base):Pw (w.setCell ⟨G,i,none⟩ u) base v l:=by
 refine⟨h.1,?_⟩;rcases h.2 with e|⟨g,a,b,f,d,c,rest⟩
 ·exact .inl e
 ·exact .inr ⟨g,a,b,f,d,Blk.other c i u (by omega),rest⟩
theorem Pw.row(h:Pw w base v l):∃a cap,v=.slice a l.length cap∧RowP w a l.length l∧(a=none→cap=0)∧l.length≤cap:=by
 rcases h.2 with⟨b,c⟩|⟨g,cap,d,b,_,_,m,_⟩
 ·exact⟨none,0,by rw[c];exact b,⟨rfl,.inl c⟩,λ_=>rfl,by omega⟩
 ·subst b;refine⟨_,cap,rfl,⟨rfl,.inr ⟨g,0,rfl,λi n=>?_⟩⟩,(λh=>by cases h),m⟩;have e:=World.ownsRow.cellAt h (i*4) (by omega);have f:=World.ownsRow.cellAt h (i*4+1) (by omega);have j:=World.ownsRow.cellAt h (i*4+2) (by omega);have k:=World.ownsRow.cellAt h (i*4+3) (by omega);unfold PrAt;rw[Nat.zero_add,e,f,j,k];exact cellsP_at l i n
theorem pown_far{base n k:Nat}{l:List Value}(h:w.ownsRow base t n v k l){G:Nat}(hG:G<base):some G≠v.ownBlock:=by
 intro e;have:=(World.ownsRow.lt h G e.symm).1;omega
theorem pown_bel{w0 w w':World}{base B n k:Nat}{l:List Value}(h:w.ownsRow base t n v k l)(hg:w.grownBy w' v.ownBlock)(hb:Below B w0 w)(hB:B≤base)(hw:B≤w.heap.size):Below B w0 w':=by
 refine⟨hg.os.trans hb.os,hg.tape.trans hb.tape,hg.output.trans hb.output,Nat.le_trans hb.size hg.size,λk a=>?_⟩;rw[← hb.block k a];exact hg.block k (by omega) (pown_far h (by omega))
theorem palloc_le{B:Nat}(h:B≤w.heap.size)(o:Obj):B≤(w.alloc o).heap.size:=by simp;omega
theorem Blk.pgrown{w w':World}{G:Nat}{cs:Array Value}{row:Option Nat}(h:Blk w G cs t)(hg:w.grownBy w' row)(hne:some G≠row):Blk w' G cs t:=by
 have:=hg.block G h.lt hne;unfold Blk at *;rw[this];exact h
theorem pr_cell(w:World)(m r b t:Int):PrAt (w.alloc (.cells #[zI m,zI r,zI b,zI t] 87)) w.heap.size 0 ⟨m,r,b,t⟩:=
 ⟨(Blk.new w _ _).cell 0,(Blk.new w _ _).cell 1,(Blk.new w _ _).cell 2,(Blk.new w _ _).cell 3⟩
theorem info_pr:(Tryz.prog.info? 87).map (λi=>(i.zero,i.size,i.bytes))=some (some (.agg #[zI 0,zI 0,zI 0,zI 0]),4,32):=by kernel_rfl
theorem wp_pr{ops:Array Oper}{rest:List Oper}{o:Oper}{a:Act}{Q:Exit→Act→World→Prop}(hgd:o.guard=none)(s x:Operand)
  (ho:o.op=.call { callee:=.builtin .append,args:=#[s,x],argTypes:=#[26,26] })
  (base G:Nat) (v:Value) (l:List Pr) (r:Pr) (hs:a.eval s=v) (hx:a.eval x=.slice (some ⟨G,0,none⟩) 1 1) (hv:Pw w base v l) (hu:PrAt w G 0 r) (hn:l.length≤1000000) (hbase:base≤w.heap.size)
  (h:∀v' w',Pw w' base v' (l++[r])→w.grownBy w' v.ownBlock→wpList Tryz.prog ops Q rest (a.put o.dst v') w'):wpList Tryz.prog ops Q (o::rest) a w:=by
 obtain⟨k,i,c,d,e⟩:=info_parts info_pr;refine wpList_append_own w hgd s x 26 ho base 87 k (.agg #[zI 0,zI 0,zI 0,zI 0]) 4 32 Tryz.underlying26 i c d e rfl (by decide) v l.length (cellsP l) hs hv ⟨G,0,none⟩ 1 1 (cellsP [r]) hx rfl ?_ (oneP [r]) (by unfold maxLen;omega) (by omega) hbase ?_
 ·intro j u b
  match j,b with
  |0,b=>simp[cellsP] at b;subst b;simpa [Addr.add] using hu.1
  |1,b=>simp[cellsP] at b;subst b;simpa [Addr.add] using hu.2.1
  |2,b=>simp[cellsP] at b;subst b;simpa [Addr.add] using hu.2.2.1
  |3,b=>simp[cellsP] at b;subst b;simpa [Addr.add] using hu.2.2.2
  |j+4,b=>simp[cellsP] at b
 intro v' w' f g _;refine h v' w' ?_ g;unfold Pw;rw[List.length_append,cellsP_app];exact f
set_option maxRecDepth 100000
def Told(w : World)(P : Prop)(e : Ending)(w' : World): Prop := ∃r : Bool, e=.returned (.bool r) ∧ (r = true ↔ P) ∧ zB w w'
variable{l : List Pr}{a : Option Addr}{n cap : Nat}{w w' : World}
theorem Told.yes{P : Prop}(h : P)(hb : zB w w'): Told w P (.returned (.bool true)) w' := ⟨true, rfl, by simp[h], hb⟩
theorem Told.no{P : Prop}(h : ¬ P)(hb : zB w w'): Told w P (.returned (.bool false)) w' := ⟨false, rfl, by simp[h], hb⟩
def TagPost(w : World)(l : List Pr)(m r b : Int)(e : Ending)(w' : World): Prop :=
 zB w w' ∧ ((∃i : Nat, At l m r b i ∧ e=.returned (.int .i64 (i : Int))) ∨ (No l m r b ∧ e=.returned (.int .i64 (-1))))
structure Bo (w wr : World) (a : Option Addr) (n cap : Nat) (l : List Pr) : Prop where
 box : Blk wr w.heap.size #[.slice a n cap] 28
 row : RowP wr a n l
 bel : zB w wr
theorem Bo.next{w wr w' : World}(h : Bo w wr a n cap l)(hb : zB wr w'): Bo w w' a n cap l := ⟨h.box.next hb, h.row.below hb, bel_step h.bel hb⟩
theorem Bo.alloc{w wr : World}(h : Bo w wr a n cap l)(o : Obj): Bo w (wr.alloc o) a n cap l := h.next (zb.alloc zc _)
theorem Bo.new{w : World}(h : RowP w a n l): Bo w (w.alloc (.cells #[.slice a n cap] 28)) a n cap l :=
 ⟨Blk.new w _ _, h.below (zb.alloc zc _), zb.alloc zc _⟩
def GaveO(w : World)(l : List Pr)(e : Ending)(w' : World): Prop := ∃v, e=.returned (.agg #[v]) ∧ Pw w' w.heap.size v l ∧ zB w w'
theorem take_nextP(l : List Pr)(k : Nat)(h : k<l.length): l.take k ++ [⟨(l.getD k pr0).m, (l.getD k pr0).r, (l.getD k pr0).b, (l.getD k pr0).t⟩] = l.take (k + 1) := by
 rw[List.take_succ_eq_append_getElem h]
 congr 2
 simp[List.getD, List.getElem?_eq_getElem h]
structure Bi (w wr : World) (a : Option Addr) (n cap : Nat) (l : List Pr) : Prop where
 bo : Bo w wr a n cap l
 out : Blk wr (w.heap.size + 1) #[.slice none 0 0] 28
theorem Bi.next{w wr w' : World}(h : Bi w wr a n cap l)(hb : zB wr w'): Bi w w' a n cap l := ⟨h.bo.next hb, h.out.next hb⟩
theorem Bi.alloc{w wr : World}(h : Bi w wr a n cap l)(o : Obj): Bi w (wr.alloc o) a n cap l := h.next (zb.alloc zc _)
theorem Pw.put2{w : World}{base G : Nat}{v : Value}{cs : Array Value}{t : TypeId}(h : Pw w base v l)(hB : Blk w G cs t)(ht : t≠87)(i : Nat)(u : Value): Pw (w.setCell ⟨G, i, none⟩ u) base v l := by
 refine⟨h.1, ?_⟩
 rcases h.2 with f|⟨g, a, b, j, d, c, rest⟩
 ·exact .inl f
 ·refine .inr ⟨g, a, b, j, d, Blk.other c i u (λe => ?_), rest⟩
  subst e
  have := hB.symm.trans c
  simp only[Option.some.injEq, Obj.cells.injEq] at this
  exact ht this.2.1
structure Came (w : World) (a : Option Addr) (n cap : Nat) (l : List Pr) : Prop where
 row : RowP w a n l
 nil : a = none → cap = 0
 le : n ≤ cap
 small : n * 32 ≤ 140737488351232
theorem Came.below(h : Came w a n cap l)(hb : zB w w'): Came w' a n cap l := ⟨h.row.below hb, h.nil, h.le, h.small⟩
def Copied(w : World)(n : Nat)(l : List Pr)(e : Ending)(w' : World): Prop := ∃a' cap', e=.returned (.agg #[.slice a' n cap']) ∧ Came w' a' n cap' l ∧ zB w w'
theorem few_small{m r b d : Int}{ls : List Pr}{x c : Int}(h : IssueIs l m r b d ls x c): ls.length ≤ 500 := by
 rcases h with⟨_, rfl, _⟩|⟨_, _, rfl, _⟩|⟨a, _, _, rfl, _⟩|⟨_, _, _, _, rfl, _⟩|⟨_, _, _, e, rfl, _⟩
 ·decide
 ·decide
 ·exact a.few
 ·decide
 ·rw[List.length_append]; simp; omega
def wfP(p : Pr): Prop := (Lit.int .i64 p.m).wf = true ∧ (Lit.int .i64 p.r).wf = true ∧ (Lit.int .i64 p.b).wf = true ∧ (Lit.int .i64 p.t).wf = true
def RowA(w : World)(a : Option Addr)(len : Nat)(ps : List Pr): Prop :=
 ∀i, i<len → ∃b off, a = some ⟨b, off, none⟩ ∧ PrAt w b (off + i * 4) (ps.getD i pr0) ∧ wfP (ps.getD i pr0)
end ora
namespace words
open Go.RowKit
structure Acc (w0 w:World) (B:Nat) (v:Value):Prop where
 os:w.os=w0.os
 tape:w.tape=w0.tape
 output:w.output=w0.output
 size:w0.heap.size≤w.heap.size
 block:∀k,k<w0.heap.size→k≠B→w.heap[k]?=w0.heap[k]?
 old:B<w0.heap.size
 cell:w.cell? ⟨B,0,none⟩=some v
 free:w.frozen? ⟨B,0,none⟩=false
variable{y0 y1 y2:Value}{w:World}{B:Nat}{G:Nat}{v:Value}
theorem Acc.trans{w0 w1 w2:World}{v v':Value}(h:Acc w0 w1 B v)(h':Acc w1 w2 B v'):Acc w0 w2 B v':=
 ⟨h'.os.trans h.os,h'.tape.trans h.tape,h'.output.trans h.output,Nat.le_trans h.size h'.size,λk b a=>(h'.block k (Nat.lt_of_lt_of_le b h.size) a).trans (h.block k b a),h.old,h'.cell,h'.free⟩
theorem Acc.refl(hc:w.cell? ⟨B,0,none⟩=some v)(hf:w.frozen? ⟨B,0,none⟩=false):Acc w w B v:=by
 refine⟨rfl,rfl,rfl,zc,λ_ _ _=>rfl,?_,hc,hf⟩;by_cases a:B<w.heap.size
 ·exact a
 ·simp[World.cell?,Array.getElem?_eq_none (show w.heap.size≤B by omega)] at hc
theorem Acc.set{w0 w:World}(h:Acc w0 w B v)(u:Value):Acc w0 (w.setCell ⟨B,0,none⟩ u) B u:=by
 refine⟨h.os,h.tape,h.output,by simp[World.setCell];exact h.size,λk b a=>?_,h.old,?_,?_⟩
 ·simp only[World.setCell,Array.getElem?_modify];rw[if_neg (λe=>a e.symm)];exact h.block k b a
 ·apply World.cell?_setCell_same;exact h.cell
 ·rw[World.frozen?_setCell];exact h.free
theorem Acc.drewN{w0 w:World}(h:Acc w0 w B v)(n:Nat):Acc w0 (w.drewN n) B v:=⟨h.os,h.tape,h.output,h.size,h.block,h.old,h.cell,h.free⟩
def Trio(w:World)(G:Nat)(y0 y1 y2:Value):Prop:=w.heap[G]?=some (.cells #[y0,y1,y2] 135 (0,0))
theorem Trio.c0(h:Trio w G y0 y1 y2):w.cell? ⟨G,0,none⟩=some y0:=by unfold Trio at h;simp[World.cell?,h]
theorem Trio.c1(h:Trio w G y0 y1 y2):w.cell? ⟨G,1,none⟩=some y1:=by unfold Trio at h;simp[World.cell?,h]
theorem Trio.c2(h:Trio w G y0 y1 y2):w.cell? ⟨G,2,none⟩=some y2:=by unfold Trio at h;simp[World.cell?,h]
theorem Trio.free(h:Trio w G y0 y1 y2)(i:Nat):w.frozen? ⟨G,i,none⟩=false:=by unfold Trio at h;simp[World.frozen?,h]
theorem Trio.acc{w w':World}{G B:Nat}{y0 y1 y2 v:Value}(h:Trio w G y0 y1 y2)(ha:Acc w w' B v)(hG:G≠B):Trio w' G y0 y1 y2:=by
 have a:G<w.heap.size:=by
  by_cases b:G<w.heap.size
  ·exact b
  ·unfold Trio at h;rw[Array.getElem?_eq_none (by omega)] at h;cases h
 unfold Trio at *;rw[ha.block G a hG];exact h
theorem Trio.set0(h:Trio w G y0 y1 y2)(u:Value):Trio (w.setCell ⟨G,0,none⟩ u) G u y1 y2:=by
 unfold Trio at *;simp[World.setCell,Array.getElem?_modify,h]
theorem Trio.set1(h:Trio w G y0 y1 y2)(u:Value):Trio (w.setCell ⟨G,1,none⟩ u) G y0 u y2:=by
 unfold Trio at *;simp[World.setCell,Array.getElem?_modify,h]
theorem Trio.set2(h:Trio w G y0 y1 y2)(u:Value):Trio (w.setCell ⟨G,2,none⟩ u) G y0 y1 u:=by
 unfold Trio at *;simp[World.setCell,Array.getElem?_modify,h]
theorem Trio.other{G G':Nat}(h:Trio w G y0 y1 y2)(i:Nat)(u:Value)(hne:G'≠G):Trio (w.setCell ⟨G',i,none⟩ u) G y0 y1 y2:=by
 unfold Trio at *;simp only[World.setCell,Array.getElem?_modify];rw[if_neg hne];exact h
theorem Acc.setNew{w0 w:World}(h:Acc w0 w B v)(G i:Nat)(u:Value)(hG:w0.heap.size≤G):Acc w0 (w.setCell ⟨G,i,none⟩ u) B v:=by
 have a:G≠B:=by have:=h.old;omega
 refine⟨h.os,h.tape,h.output,by simp[World.setCell];exact h.size,λk c b=>?_,h.old,?_,?_⟩
 ·simp only[World.setCell,Array.getElem?_modify];rw[if_neg (by omega)];exact h.block k c b
 ·rw[World.cell?_setCell_other]
  ·exact h.cell
  ·intro e;exact a (congrArg Addr.block e)
 ·rw[World.frozen?_setCell];exact h.free
theorem Acc.alloc{w0 w:World}(h:Acc w0 w B v)(o:Obj):Acc w0 (w.alloc o) B v:=by
 have b:∀k,k<w.heap.size→(w.alloc o).heap[k]?=w.heap[k]?:=λk d=>by
  show (w.heap.push o)[k]?=_;rw[Array.getElem?_push,if_neg (by omega)]
 have c:=Nat.lt_of_lt_of_le h.old h.size;refine⟨h.os,h.tape,h.output,?_,λk d c=>?_,h.old,?_,?_⟩
 ·show _≤(w.heap.push o).size;have:=h.size;simp;omega
 ·rw[b k (Nat.lt_of_lt_of_le d h.size)];exact h.block k d c
 ·rw[← h.cell];exact World.cell?_of_block (w:=w) (a:=⟨B,0,none⟩) (b B c)
 ·have:((w.alloc o).frozen? ⟨B,0,none⟩)=w.frozen? ⟨B,0,none⟩:=by simp only[World.frozen?,b B c]
  rw[this];exact h.free
theorem trio_a(w:World)(x y z:Value)(o:Obj):Trio ((w.alloc (.cells #[x,y,z] 135)).alloc o) w.heap.size x y z:=by
 show ((w.heap.push _).push o)[w.heap.size]?=_;rw[Array.getElem?_push,if_neg (by simp),Array.getElem?_push_size]
theorem trio_b(w:World)(o:Obj)(x y z:Value):Trio ((w.alloc o).alloc (.cells #[x,y,z] 135)) (w.heap.size+1) x y z:=by
 show ((w.heap.push o).push _)[w.heap.size+1]?=_;have:w.heap.size+1=(w.heap.push o).size:=by simp
 rw[this,Array.getElem?_push_size]
theorem upward_any(K:Nat)(caps:Array Value)(B:Nat)(v0 v1 v2 v3:Value)(x0 x1 x2 y0 y1 y2:Int)(w:World)(h:Acc w w B v0)(hK:∀args w,(callFunc K args).run Tryz.prog w=.ok (.enter K args) w)
  (s0:∀w',Acc w w' B v0→zC K (#[.int .u32 x0]++caps) w' λe w''=>e=.returned (.int .u32 y0)∧Acc w' w'' B v1)
  (s1:∀w',Acc w w' B v1→zC K (#[.int .u32 x1]++caps) w' λe w''=>e=.returned (.int .u32 y1)∧Acc w' w'' B v2)
  (s2:∀w',Acc w w' B v2→zC K (#[.int .u32 x2]++caps) w' λe w''=>e=.returned (.int .u32 y2)∧Acc w' w'' B v3):
  Calls Tryz.prog 165 #[.agg #[.int .u32 x0,.int .u32 x1,.int .u32 x2],.func (.func K) #[] caps] w λe w'=>e=.returned (.agg #[.int .u32 y0,.int .u32 y1,.int .u32 y2])∧Acc w w' B v3:=by
 have u:Hid (∀w',Acc w w' B v0→zC K (#[.int .u32 x0]++caps) w' λe w''=>e=.returned (.int .u32 y0)∧Acc w' w'' B v1):=s0;have x:Hid (∀w',Acc w w' B v1→zC K (#[.int .u32 x1]++caps) w' λe w''=>e=.returned (.int .u32 y1)∧Acc w' w'' B v2):=s1;have y:Hid (∀w',Acc w w' B v2→zC K (#[.int .u32 x2]++caps) w' λe w''=>e=.returned (.int .u32 y2)∧Acc w' w'' B v3):=s2;have q:Hid (Acc w w B v0):=h;clear s0 s1 s2 h;go_enter Tryz.func165,Tryz.ntmps165;go_wp2_with fail;refine wp_loop_rounds 4 ?_;rw[rounds_succ];go_wp2_with fail;refine(u.o _ ((q.o.alloc _).alloc _)).mono ?_;rintro e i ⟨rfl,m⟩;have X:=q.o.old;have j:Trio i w.heap.size (.int .u32 x0) (.int .u32 x1) (.int .u32 x2):=(trio_a _ _ _ _ _).acc m (by omega);have G:Trio i (w.heap.size+1) (.int .u32 0) (.int .u32 0) (.int .u32 0):=(trio_b _ _ _ _ _).acc m (by omega);have D:=((q.o.alloc _).alloc _).trans m;have c0:=j.c0;have O:=j.free 0;have c:=j.set0 (.int .u32 y0);have M:=c.c1;have z:Hid (Trio (i.setCell ⟨w.heap.size,0,none⟩ (.int .u32 y0)) w.heap.size (.int .u32 y0) (.int .u32 x1) (.int .u32 x2)):=c;have s:Hid (Trio (i.setCell ⟨w.heap.size,0,none⟩ (.int .u32 y0)) (w.heap.size+1) (.int .u32 0) (.int .u32 0) (.int .u32 0)):=G.other _ _ (by omega);have f:Hid (Acc w (i.setCell ⟨w.heap.size,0,none⟩ (.int .u32 y0)) B v1):=D.setNew _ _ _ zc;clear m j G D c;go_wp2_with fail;rw[rounds_succ];go_wp2_with fail;refine(x.o _ f.o).mono ?_;rintro e C ⟨rfl,n⟩;have k:=z.o.acc n (by omega);have H:=s.o.acc n (by omega);have E:=f.o.trans n;clear c0 O M n;have c1:=k.c1;have P:=k.free 1;have d:=k.set1 (.int .u32 y1);have N:=d.c2;have z:Hid (Trio (C.setCell ⟨w.heap.size,1,none⟩ (.int .u32 y1)) w.heap.size (.int .u32 y0) (.int .u32 y1) (.int .u32 x2)):=d;have s:Hid (Trio (C.setCell ⟨w.heap.size,1,none⟩ (.int .u32 y1)) (w.heap.size+1) (.int .u32 0) (.int .u32 0) (.int .u32 0)):=H.other _ _ (by omega)
 have g:Hid (Acc w (C.setCell ⟨w.heap.size,1,none⟩ (.int .u32 y1)) B v2):=E.setNew _ _ _ zc;clear k H E d;go_wp2_with fail;rw[rounds_succ];go_wp2_with fail;refine(y.o _ g.o).mono ?_;rintro e J ⟨rfl,p⟩;have l:=z.o.acc p (by omega);have I:=s.o.acc p (by omega);have F:=g.o.trans p;clear c1 P N p;have c2:=l.c2;have T:=l.free 2;have b:=l.set2 (.int .u32 y2);have a:=I.other (G':=w.heap.size) 2 (.int .u32 y2) (by omega);have Q:=b.c0;have R:=b.c1;have S:=b.c2;have Y:=a.c0;have Z:=a.c1;have r2:=a.c2;have U:=a.free 0;have V:=a.free 1;have W:=a.free 2;have t:Hid (Trio (J.setCell ⟨w.heap.size,2,none⟩ (.int .u32 y2)) (w.heap.size+1) (.int .u32 0) (.int .u32 0) (.int .u32 0)):=a;have r:Hid (Acc w (J.setCell ⟨w.heap.size,2,none⟩ (.int .u32 y2)) B v3):=F.setNew _ _ _ zc;clear l I F b a;go_wp2_with fail;rw[rounds_succ];go_wp2_with fail;have A:=((t.o.set0 (.int .u32 y0)).set1 (.int .u32 y1)).set2 (.int .u32 y2);have L:=((r.o.setNew (w.heap.size+1) 0 (.int .u32 y0) (by omega)).setNew (w.heap.size+1) 1 (.int .u32 y1) (by omega)).setNew (w.heap.size+1) 2 (.int .u32 y2) (by omega);refine bodyPost_ret (v:=.agg #[.int .u32 y0,.int .u32 y1,.int .u32 y2]) (by simp[results,Tryz.results165,A.c0,A.c1,A.c2,go_sem]) rfl ⟨rfl,L⟩
theorem below_set{w w':World}(h:Below B w w')(G i:Nat)(u:Value)(hG:B≤G):Below B w (w'.setCell ⟨G,i,none⟩ u):=by
 refine⟨h.os,h.tape,h.output,by simp[World.setCell];exact h.size,λk a=>?_⟩;rw[← h.block k a];simp only[World.setCell,Array.getElem?_modify];rw[if_neg (by omega)]
theorem Acc.below{w0 w1 w:World}(hb:zB w0 w1)(h:Acc w1 w B v)(hB:w0.heap.size≤B):zB w0 w:=
 hb.trans ⟨h.os,h.tape,h.output,h.size,λk a=>h.block k (Nat.lt_of_lt_of_le a hb.size) (by omega)⟩
theorem Trio.alloc(h:Trio w G y0 y1 y2)(o:Obj):Trio (w.alloc o) G y0 y1 y2:=by
 have b:G<w.heap.size:=by
  by_cases a:G<w.heap.size
  ·exact a
  ·unfold Trio at h;rw[Array.getElem?_eq_none (by omega)] at h;cases h
 unfold Trio at *;show (w.heap.push o)[G]?=_;rw[Array.getElem?_push,if_neg (by omega)];exact h
theorem below_put{w w':World}(h:Below B w w')(G i j k:Nat)(u v x:Value)(hG:B≤G):Below B w (((w'.setCell ⟨G,i,none⟩ u).setCell ⟨G,j,none⟩ v).setCell ⟨G,k,none⟩ x).drew:=
 (below_set (below_set (below_set h G i u hG) G j v hG) G k x hG).drew
theorem bel2(w:World)(o1 o2:Obj):zB w ((w.alloc o1).alloc o2):=(zb.alloc zc o1).alloc (by simp) o2
theorem bel3(w:World)(o1 o2 o3:Obj):zB w (((w.alloc o1).alloc o2).alloc o3):=(bel2 w o1 o2).alloc (by simp;omega) _
theorem Acc.keep{w0 w:World}{B M:Nat}{v u:Value}(h:Acc w0 w B v)(hc:w0.cell? ⟨M,0,none⟩=some u)(hM:M≠B):w.cell? ⟨M,0,none⟩=some u:=by
 have b:M<w0.heap.size:=by
  by_cases c:M<w0.heap.size
  ·exact c
  ·simp[World.cell?,Array.getElem?_eq_none (show w0.heap.size≤M by omega)] at hc
 rw[← hc];exact World.cell?_of_block (w:=w0) (a:=⟨M,0,none⟩) (h.block M b hM)
theorem bel4(w:World)(o1 o2 o3 o4:Obj):zB w ((((w.alloc o1).alloc o2).alloc o3).alloc o4):=(bel3 w o1 o2 o3).alloc (by simp;omega) _
theorem trio_d(w:World)(cs:Array Value)(m:Value)(T:TypeId)(x y z u:Value)(U:TypeId):
  (((((w.alloc (.cells cs 135)).alloc (.cells #[m] T)).alloc (.cells #[x,y,z] 135)).alloc (.cells #[u] U)).cell? ⟨w.heap.size+1+1+1,0,none⟩=some u) ∧
  (((((w.alloc (.cells cs 135)).alloc (.cells #[m] T)).alloc (.cells #[x,y,z] 135)).alloc (.cells #[u] U)).frozen? ⟨w.heap.size+1+1+1,0,none⟩=false) ∧
  Trio ((((w.alloc (.cells cs 135)).alloc (.cells #[m] T)).alloc (.cells #[x,y,z] 135)).alloc (.cells #[u] U)) (w.heap.size+1+1) x y z ∧
  ((((w.alloc (.cells cs 135)).alloc (.cells #[m] T)).alloc (.cells #[x,y,z] 135)).alloc (.cells #[u] U)).cell? ⟨w.heap.size+1,0,none⟩=some m:=by
 have b:w.heap.size+1=(w.heap.push (.cells cs 135)).size:=by simp
 have c:w.heap.size+1+1=((w.heap.push (.cells cs 135)).push (.cells #[m] T)).size:=by simp
 have d:w.heap.size+1+1+1=(((w.heap.push (.cells cs 135)).push (.cells #[m] T)).push (.cells #[x,y,z] 135)).size:=by simp
 have e:((((w.heap.push (.cells cs 135)).push (.cells #[m] T)).push (.cells #[x,y,z] 135)).push (.cells #[u] U))[w.heap.size+1+1+1]?=some (.cells #[u] U):=by
  rw[d,Array.getElem?_push_size]
 have a:((((w.heap.push (.cells cs 135)).push (.cells #[m] T)).push (.cells #[x,y,z] 135)).push (.cells #[u] U))[w.heap.size+1]?=some (.cells #[m] T):=by
  rw[Array.getElem?_push,if_neg (by simp),Array.getElem?_push,if_neg (by simp),b,Array.getElem?_push_size]
 refine⟨?_,?_,?_,?_⟩
 ·simp only[World.cell?,World.alloc,e];rfl
 ·simp only[World.frozen?,World.alloc,e];rfl
 ·show ((((w.heap.push _).push _).push _).push _)[w.heap.size+1+1]?=_;rw[Array.getElem?_push,if_neg (by simp),c,Array.getElem?_push_size]
 ·simp only[World.cell?,World.alloc,a];rfl
def nv:List Nat→Nat
 |[]=>0
 |x::l=>x+4294967296*nv l
def digF:Nat→Nat→List Nat
 |0,_=>[]
 |k+1,m=>if m=0 then [] else (m%4294967296)::digF k (m/4294967296)
def dig(m:Nat):List Nat:=digF m m
theorem digF_same:∀(k j m:Nat),m≤k→m≤j→digF k m=digF j m:=by
 intro k
 induction k with
 |zero=>
  intro j m b c;have:m=0:=by omega
  subst this;cases j with
  |zero=>rfl
  |succ j=>simp[digF]
 |succ k ih=>
  intro j m b c;by_cases a:m=0
  ·subst a;cases j with
   |zero=>simp[digF]
   |succ j=>simp[digF]
  ·obtain⟨j',rfl⟩:∃j',j=j'+1:=⟨j-1,by omega⟩
   rw[digF,digF,if_neg a,if_neg a,ih j' (m/4294967296) (by omega) (by omega)]
theorem dig_zero:dig 0=[]:=rfl
theorem dig_pos{m:Nat}(h:m≠0):dig m=(m%4294967296)::dig (m/4294967296):=by
 obtain⟨k,rfl⟩:∃k,m=k+1:=⟨m-1,by omega⟩
 unfold dig;rw[digF,if_neg h,digF_same k _ _ (by omega) zc]
theorem nv_dig(m:Nat):nv (dig m)=m:=by
 induction m using Nat.strongRecOn with
 |_ m ih=>
  by_cases h:m=0
  ·subst h;rw[dig_zero];rfl
  ·rw[dig_pos h,nv,ih (m/4294967296) (by omega)];omega
theorem dig_lt(m:Nat):∀x∈dig m,x<4294967296:=by
 induction m using Nat.strongRecOn with
 |_ m ih=>
  by_cases h:m=0
  ·subst h;rw[dig_zero];intro x a;cases a
  ·rw[dig_pos h];intro x a;rcases List.mem_cons.1 a with rfl|a
   ·omega
   ·exact ih (m/4294967296) (by omega) x a
theorem dig_nil{m:Nat}(h:dig m=[]):m=0:=by
 by_cases a:m=0
 ·exact a
 ·rw[dig_pos a] at h;cases h
theorem getD_cons_succ(x:Nat)(r:List Nat)(i:Nat):(x::r).getD (i+1) 0=r.getD i 0:=by simp[List.getD]
theorem trim_dig:∀(l:List Nat)(n:Nat),(∀x∈l,x<4294967296)→n≤l.length→(∀i,n≤i→i<l.length→l.getD i 0=0)→(n=0∨l.getD (n-1) 0≠0)→l.take n=dig (nv l)
 |[],n,_,hn,_,_=>by
  have:n=0:=by simpa using hn
  subst this;rw[nv,dig_zero];rfl
 |x::r,0,hlt,_,hz,_=>by
  have g:x=0:=by simpa using hz 0 zc (by simp)
  have a:=trim_dig r 0 (fun y f=>hlt y (List.mem_cons_of_mem _ f)) (Nat.zero_le _) (fun i _ m=>by
   have:=hz (i+1) (Nat.zero_le _) (by simp;omega)
   rwa [getD_cons_succ] at this) (.inl rfl)
  have b:nv r=0:=dig_nil (by rw[← a];rfl);rw[nv,g,b,dig_zero];rfl
 |x::r,k+1,hlt,hn,hz,hne=>by
  have g:=hlt x (List.mem_cons_self ..)
  have a:=trim_dig r k (fun y f=>hlt y (List.mem_cons_of_mem _ f)) (by simp at hn;omega) (fun i m o=>by
   have:=hz (i+1) (by omega) (by simp;omega)
   rwa [getD_cons_succ] at this) (by
   by_cases c:k=0
   ·exact .inl c
   ·right;rcases hne with h|h
    ·omega
    ·have e:k+1-1=(k-1)+1:=by omega
     rw[e,getD_cons_succ] at h
     exact h)
  have d:nv (x::r)≠0:=by
   intro b;rw[nv] at b;rcases hne with h|h
   ·omega
   ·by_cases c:k=0
    ·subst c;simp at h;omega
    ·have j:nv r=0:=by omega
     rw[j,dig_zero] at a
     have p:r.length=0∨k=0:=by
      have:=congrArg List.length a;simp only[List.length_take,List.length_nil] at this;omega
     simp at hn;omega
  rw[List.take_succ_cons,a,dig_pos d]
  congr 1
  ·rw[nv];omega
  ·congr 1;rw[nv];omega
theorem dig_len{m:Nat}:∀k:Nat,m<4294967296^k→(dig m).length≤k:=by
 intro k
 induction k generalizing m with
 |zero=>
  intro h;have:m=0:=by simpa using h
  subst this;rw[dig_zero];simp
 |succ k ih=>
  intro h;by_cases a:m=0
  ·subst a;rw[dig_zero];simp
  ·rw[dig_pos a];have:=ih (m:=m/4294967296) (by rw[Nat.pow_succ] at h;exact Nat.div_lt_of_lt_mul (by rw[Nat.mul_comm];exact h));simp;omega
end words
end Go.Proofs.YtoepgdhiepedeaaGreatDoor
