import Derived.Test.YtnpblpbohcegoaaGreatDoorVVCut5
set_option linter.unusedVariables false
set_option linter.unusedSimpArgs false
set_option maxHeartbeats 4000000
set_option maxRecDepth 100000
namespace Go.Proofs.YtnpblpbohcegoaaGreatDoor
namespace book
open Go.RowKit
structure Ev where
 kd:Int
 me:Int
 mo:Int
 id:Int
 te:Int
 de:Int
 fe:Int
 pr:Int
 ch:Int
 un:Int
 tg:Int
 ow:Int
 bp:Int
def ev0:Ev:=⟨0,0,0,0,0,0,0,0,0,0,0,0,0⟩
def EMay (v:Ev):Prop:=(0≤v.me∧v.me≤49)∧((v.kd=1∧v.mo=0∧v.id=0∧v.te=0∧v.de=0∧v.fe=0∧v.pr=0∧v.ch=0∧v.un=0∧v.tg=0∧v.ow=0∧v.bp=0)∨(v.kd=5∧v.mo=0∧v.id=0∧v.te=0∧v.de=0∧v.fe=0∧v.pr=0∧v.ch=0∧v.un=0∧v.tg=0∧(1≤v.ow∧v.ow≤1000000000)∧0≤v.bp∧v.bp≤10000) ∨
 ((2≤v.kd∧v.kd≤4)∧(1≤v.id∧v.id≤1048575)∧(0≤v.tg∧v.tg≤65535)∧(v.ow=0∧v.bp=0)∧((v.kd=4∧v.mo=0∧v.te=0∧v.de=0∧v.fe=0∧v.pr=0∧v.ch=0∧v.un=0)∨(v.kd≠4∧(0≤v.mo∧v.mo≤2399)∧(1≤v.un∧v.un≤2097151) ∧
   ((v.kd=3∧v.te=0∧v.de=0∧v.fe=0∧v.pr=0∧v.ch=0)∨(v.kd≠3∧(1≤v.te∧v.te≤100000000)∧(0≤v.de∧v.de≤v.te)∧(0≤v.fe∧v.fe≤v.te)∧(0≤v.pr∧v.pr≤v.te)∧(0≤v.ch∧v.ch≤v.te)∧v.de+v.fe+v.pr+v.ch=v.te))))))
def evL (v:Ev):List Int:=[v.kd,v.me,v.mo,v.id,v.te,v.de,v.fe,v.pr,v.ch,v.un,v.tg,v.ow,v.bp]
theorem evL_len (v:Ev):(evL v).length=13:=rfl
theorem may_word {v:Ev} (h:EMay v):∀ x∈evL v,0≤x∧x<4294967296:=by
 intro x hx;unfold EMay at h;simp only [evL,List.mem_cons,List.not_mem_nil,or_false] at hx;rcases hx with rfl | rfl | rfl | rfl | rfl | rfl | rfl | rfl | rfl | rfl | rfl | rfl | rfl <;> omega
def evOf (l:List Int):Ev:=⟨l.getD 0 0,l.getD 1 0,l.getD 2 0,l.getD 3 0,l.getD 4 0,l.getD 5 0,l.getD 6 0,l.getD 7 0,l.getD 8 0,l.getD 9 0,l.getD 10 0,l.getD 11 0,l.getD 12 0⟩
theorem evOf_L (v:Ev):evOf (evL v)=v:=rfl
def EncIs (v:Ev) (ws:List Int) (e:Int):Prop:=(EMay v∧ws=evL v∧e=0)∨(¬ EMay v∧ws=[]∧e=5)
theorem EncIs.one {v:Ev} {a b:List Int} {e f:Int} (h:EncIs v a e) (h':EncIs v b f):a=b∧e=f:=by
 rcases h with ⟨q,rfl,rfl⟩ | ⟨q,rfl,rfl⟩ <;> rcases h' with ⟨q',rfl,rfl⟩ | ⟨q',rfl,rfl⟩ <;> first | exact ⟨rfl,rfl⟩ | contradiction
def DecIs (l:List Int) (v:Ev) (e:Int):Prop:=(l.length≠13∧v=ev0∧e=1)∨(l.length=13∧¬ EMay (evOf l)∧v=ev0∧e=5)∨(l.length=13∧EMay (evOf l)∧v=evOf l∧e=0)
theorem DecIs.one {l:List Int} {a b:Ev} {e f:Int} (h:DecIs l a e) (h':DecIs l b f):a=b∧e=f:=by
 rcases h with ⟨q,rfl,rfl⟩ | ⟨q,r,rfl,rfl⟩ | ⟨q,r,rfl,rfl⟩ <;> rcases h' with ⟨q',rfl,rfl⟩ | ⟨q',r',rfl,rfl⟩ | ⟨q',r',rfl,rfl⟩ <;> first | exact ⟨rfl,rfl⟩ | contradiction
end book
namespace acc
open tar (Du du0 Came)
open Go.RowKit
def Ac.cs (x:Ac) (p:Option Addr) (len cap:Nat):Array Value:=#[zI x.me,zI x.rv,zI x.nx,zI x.mo,zI x.bo,zI x.fr,.slice p len cap]
def Ac.v (x:Ac) (p:Option Addr) (len cap:Nat):Value:= .agg (x.cs p len cap)
def Tm.v (t:Tm) (p:Option Addr) (len cap:Nat):Value:= .agg #[.slice p len cap,zI t.ff,zI t.fb,zI t.db,zI t.al]
def Bi.v (b:Bi):Value:= .agg #[zI b.id,zI b.te,zI b.de,zI b.fe,zI b.pr,zI b.ch,zI b.un]
def wf6 (x:Ac):Prop:=(Lit.int .i64 x.me).wf=true∧(Lit.int .i64 x.rv).wf=true∧(Lit.int .i64 x.nx).wf=true∧(Lit.int .i64 x.mo).wf=true∧(Lit.int .i64 x.bo).wf=true∧(Lit.int .i64 x.fr).wf=true
def wf4 (t:Tm):Prop:=(Lit.int .i64 t.ff).wf=true∧(Lit.int .i64 t.fb).wf=true∧(Lit.int .i64 t.db).wf=true∧(Lit.int .i64 t.al).wf=true
structure ACame (w:World) (x:Ac) (p:Option Addr) (len cap:Nat):Prop where
 ds:Came w p len cap x.ds
 wf:wf6 x
structure TCame (w:World) (t:Tm) (p:Option Addr) (len cap:Nat):Prop where
 ts:Came w p len cap t.ts
 wf:wf4 t
theorem ACame.below {w w':World} {x:Ac} {p:Option Addr} {len cap:Nat} (h:ACame w x p len cap) (hb:Below w.heap.size w w'):ACame w' x p len cap:=⟨h.ds.below hb,h.wf⟩
theorem TCame.below {w w':World} {t:Tm} {p:Option Addr} {len cap:Nat} (h:TCame w t p len cap) (hb:Below w.heap.size w w'):TCame w' t p len cap:=⟨h.ts.below hb,h.wf⟩
def APost (w:World) (R:Ac→Int→Prop) (e:Ending) (w':World):Prop:=∃ b p len cap f,e = .returned (.tuple #[Ac.v b p len cap,zI f])∧R b f∧deb.Fresh w' w.heap.size p len cap b.ds∧Below w.heap.size w w'
def BPost (w:World) (R:Ac→Bi→Int→Prop) (e:Ending) (w':World):Prop:=∃ b l p len cap f,e = .returned (.tuple #[Ac.v b p len cap,Bi.v l,zI f])∧R b l f∧deb.Fresh w' w.heap.size p len cap b.ds∧Below w.heap.size w w'
end acc
namespace ora
open Go.RowKit
set_option maxRecDepth 100000
def Told (w : World) (P : Prop) (e : Ending) (w' : World) : Prop := ∃ r : Bool, e = .returned (.bool r) ∧ (r = true ↔ P) ∧ Below w.heap.size w w'
theorem Told.yes {w w' : World} {P : Prop} (h : P) (hb : Below w.heap.size w w') : Told w P (.returned (.bool true)) w' := ⟨true, rfl, by simp [h], hb⟩
theorem Told.no {w w' : World} {P : Prop} (h : ¬ P) (hb : Below w.heap.size w w') : Told w P (.returned (.bool false)) w' := ⟨false, rfl, by simp [h], hb⟩
structure Bo (w wr : World) (a : Option Addr) (n cap : Nat) (l : List Pr) : Prop where
 box : Blk wr w.heap.size #[.slice a n cap] 39
 row : RowP wr a n l
 bel : Below w.heap.size w wr
theorem Bo.next {w wr w' : World} {a : Option Addr} {n cap : Nat} {l : List Pr} (h : Bo w wr a n cap l) (hb : Below wr.heap.size wr w') : Bo w w' a n cap l := ⟨h.box.next hb, h.row.below hb, bel_step h.bel hb⟩
theorem Bo.alloc {w wr : World} {a : Option Addr} {n cap : Nat} {l : List Pr} (h : Bo w wr a n cap l) (o : Obj) : Bo w (wr.alloc o) a n cap l := h.next ((Below.refl _ _).alloc (Nat.le_refl _) _)
theorem Bo.new {w : World} {a : Option Addr} {n cap : Nat} {l : List Pr} (h : RowP w a n l) : Bo w (w.alloc (.cells #[.slice a n cap] 39)) a n cap l :=
 ⟨Blk.new w _ _, h.below ((Below.refl _ _).alloc (Nat.le_refl _) _), (Below.refl _ _).alloc (Nat.le_refl _) _⟩
theorem take_nextP (l : List Pr) (k : Nat) (h : k < l.length) : l.take k ++ [⟨(l.getD k pr0).m, (l.getD k pr0).r, (l.getD k pr0).b, (l.getD k pr0).t⟩] = l.take (k + 1) := by
 rw [List.take_succ_eq_append_getElem h]
 congr 2
 simp [List.getD, List.getElem?_eq_getElem h]
structure Bi (w wr : World) (a : Option Addr) (n cap : Nat) (l : List Pr) : Prop where
 bo : Bo w wr a n cap l
 out : Blk wr (w.heap.size + 1) #[.slice none 0 0] 39
theorem Bi.next {w wr w' : World} {a : Option Addr} {n cap : Nat} {l : List Pr} (h : Bi w wr a n cap l) (hb : Below wr.heap.size wr w') : Bi w w' a n cap l := ⟨h.bo.next hb, h.out.next hb⟩
theorem Bi.alloc {w wr : World} {a : Option Addr} {n cap : Nat} {l : List Pr} (h : Bi w wr a n cap l) (o : Obj) : Bi w (wr.alloc o) a n cap l := h.next ((Below.refl _ _).alloc (Nat.le_refl _) _)
theorem Pw.put2 {w : World} {base G : Nat} {v : Value} {l : List Pr} {cs : Array Value} {t : TypeId} (h : Pw w base v l) (hB : Blk w G cs t) (ht : t ≠ 279) (i : Nat) (u : Value) : Pw (w.setCell ⟨G, i, none⟩ u) base v l := by
 refine ⟨h.1, ?_⟩
 rcases h.2 with hn | ⟨g, cap, cur, hv, hg, hc, rest⟩
 ·exact .inl hn
 ·refine .inr ⟨g, cap, cur, hv, hg, Blk.other hc i u (fun e => ?_), rest⟩
  subst e
  have := hB.symm.trans hc
  simp only [Option.some.injEq, Obj.cells.injEq] at this
  exact ht this.2.1
structure Came (w : World) (a : Option Addr) (n cap : Nat) (l : List Pr) : Prop where
 row : RowP w a n l
 nil : a = none → cap = 0
 le : n ≤ cap
 small : n * 32 ≤ 140737488351232
theorem Came.below {w w' : World} {a : Option Addr} {n cap : Nat} {l : List Pr} (h : Came w a n cap l) (hb : Below w.heap.size w w') : Came w' a n cap l := ⟨h.row.below hb, h.nil, h.le, h.small⟩
end ora
namespace cell
open Go.RowKit
def GaveC (w:World) (zs:List Int) (c:Int) (e:Ending) (w':World):Prop:=
 ∃ a cap,e = .returned (.tuple #[.slice a zs.length cap,zI c])∧RowU w' a zs.length zs∧(a=none→cap=0)∧zs.length≤cap∧Below w.heap.size w w'
theorem GaveC.mk {w w':World} {zs:List Int} {c:Int} {a:Option Addr} {n cap:Nat} (hr:RowU w' a n zs) (hn:a=none→cap=0) (hc:n≤cap) (hb:Below w.heap.size w w'):GaveC w zs c (.returned (.tuple #[.slice a n cap,zI c])) w':=by
 obtain ⟨h1,h2⟩:=hr;subst h1;exact ⟨a,cap,rfl,⟨rfl,h2⟩,hn,hc,hb⟩
end cell
namespace acc
open tar (Du du0 Came RowD Ld PairT)
open Go.RowKit
theorem row_upd {w W:World} {g:Nat} {new:Array Value} {t:TypeId} {p:Option Addr} {len:Nat} {l:List Du} (h:RowD w p len l) (hU:Upd w W g new t) (hg:0<len→∀ x,p=some x→x.block≠g):RowD W p len l:=by
 refine ⟨h.1,?_⟩;rcases h.2 with h0 | ⟨b,off,rfl,hc⟩
 ·exact .inl h0
 ·refine .inr ⟨b,off,rfl,fun i hi=>?_⟩;have hne:b≠g:=hg (by omega) _ rfl;rw [hU.cell ⟨b,off+i*2,none⟩ hne rfl,hU.cell ⟨b,off+i*2+1,none⟩ hne rfl];exact hc i hi
theorem came_upd {w W:World} {g:Nat} {new:Array Value} {t:TypeId} {p:Option Addr} {len cap:Nat} {l:List Du} (h:Came w p len cap l) (hU:Upd w W g new t) (hg:0<len→∀ x,p=some x→x.block≠g):Came W p len cap l:=⟨row_upd h.row hU hg,h.nil,h.room,h.bytes,h.wf⟩
theorem fresh_updN {w W:World} {g base:Nat} {new:Array Value} {t:TypeId} {p:Option Addr} {len cap:Nat} {l:List Du} (h:deb.Fresh w base p len cap l) (hU:Upd w W g new t) (hg:0<len→∀ x,p=some x→x.block≠g):deb.Fresh W base p len cap l:=⟨came_upd h.came hU hg,h.new⟩
theorem fresh_drew {w:World} {base:Nat} {p:Option Addr} {len cap:Nat} {l:List Du} (h:deb.Fresh w base p len cap l):deb.Fresh w.drew base p len cap l:=⟨⟨h.came.row,h.came.nil,h.came.room,h.came.bytes,h.came.wf⟩,h.new⟩
theorem ld_upd {T:TypeId} {w W:World} {g base:Nat} {new:Array Value} {t:TypeId} {v:Value} {l:List Du} (h:Ld T w base v l) (hU:Upd w W g new t) (hg:g<base):Ld T W base v l:=by
 refine ⟨h.1,?_⟩;rcases h.2 with hn | ⟨q,cap,cur,hv,hq,hc,rest⟩
 ·exact .inl hn
 ·exact .inr ⟨q,cap,cur,hv,hq,hU.keep hc (by omega),rest⟩
theorem came_lt {w:World} {p:Option Addr} {len cap:Nat} {l:List Du} (h:Came w p len cap l):0<len→∀ x,p=some x→x.block<w.heap.size:=fun hn x hx=>by
 obtain ⟨b,off,hp,hb,_⟩:=h.row.at hn;rw [hp] at hx;cases hx;exact hb
end acc
namespace book
open Go.RowKit
theorem eqI (d:Nat) (a b:Int) (w:World):(Op.equalIn (d+1) 3 (zI a) (zI b)).run Tryz.prog w = .ok (a == b) w:=run_equalIn_int w d _ _ _ a b Tryz.underlying3
end book
namespace words
open Go.ChangeShapes Go.WideShapes Go.ChangeAt Go.RowKit
theorem cells_word:Tryz.prog.cellsOf 99=1:=by kernel_rfl
structure Acc (w0 w:World) (B:Nat) (v:Value):Prop where
 os:w.os=w0.os
 tape:w.tape=w0.tape
 output:w.output=w0.output
 size:w0.heap.size≤w.heap.size
 block:∀ k,k<w0.heap.size→k≠B→w.heap[k]?=w0.heap[k]?
 old:B<w0.heap.size
 cell:w.cell? ⟨B,0,none⟩=some v
 free:w.frozen? ⟨B,0,none⟩=false
theorem Acc.trans {w0 w1 w2:World} {B:Nat} {v v':Value} (h:Acc w0 w1 B v) (h':Acc w1 w2 B v'):Acc w0 w2 B v':=
 ⟨h'.os.trans h.os,h'.tape.trans h.tape,h'.output.trans h.output,Nat.le_trans h.size h'.size,fun k hk hB=>(h'.block k (Nat.lt_of_lt_of_le hk h.size) hB).trans (h.block k hk hB),h.old,h'.cell,h'.free⟩
theorem Acc.refl {w:World} {B:Nat} {v:Value} (hc:w.cell? ⟨B,0,none⟩=some v) (hf:w.frozen? ⟨B,0,none⟩=false):Acc w w B v:=by
 refine ⟨rfl,rfl,rfl,Nat.le_refl _,fun _ _ _=>rfl,?_,hc,hf⟩;by_cases hh:B<w.heap.size
 ·exact hh
 ·simp [World.cell?,Array.getElem?_eq_none (show w.heap.size≤B by omega)] at hc
theorem Acc.set {w0 w:World} {B:Nat} {v:Value} (h:Acc w0 w B v) (u:Value):Acc w0 (w.setCell ⟨B,0,none⟩ u) B u:=by
 refine ⟨h.os,h.tape,h.output,by simp [World.setCell];exact h.size,fun k hk hB=>?_,h.old,?_,?_⟩
 ·simp only [World.setCell,Array.getElem?_modify];rw [if_neg (fun e=>hB e.symm)];exact h.block k hk hB
 ·apply World.cell?_setCell_same;exact h.cell
 ·rw [World.frozen?_setCell];exact h.free
theorem Acc.drewN {w0 w:World} {B:Nat} {v:Value} (h:Acc w0 w B v) (n:Nat):Acc w0 (w.drewN n) B v:=⟨h.os,h.tape,h.output,h.size,h.block,h.old,h.cell,h.free⟩
def Trio (w:World) (G:Nat) (y0 y1 y2:Value):Prop:=w.heap[G]?=some (.cells #[y0,y1,y2] 131 (0,0))
theorem Trio.c0 {w:World} {G:Nat} {y0 y1 y2:Value} (h:Trio w G y0 y1 y2):w.cell? ⟨G,0,none⟩=some y0:=by unfold Trio at h;simp [World.cell?,h]
theorem Trio.c1 {w:World} {G:Nat} {y0 y1 y2:Value} (h:Trio w G y0 y1 y2):w.cell? ⟨G,1,none⟩=some y1:=by unfold Trio at h;simp [World.cell?,h]
theorem Trio.c2 {w:World} {G:Nat} {y0 y1 y2:Value} (h:Trio w G y0 y1 y2):w.cell? ⟨G,2,none⟩=some y2:=by unfold Trio at h;simp [World.cell?,h]
theorem Trio.free {w:World} {G:Nat} {y0 y1 y2:Value} (h:Trio w G y0 y1 y2) (i:Nat):w.frozen? ⟨G,i,none⟩=false:=by unfold Trio at h;simp [World.frozen?,h]
theorem Trio.acc {w w':World} {G B:Nat} {y0 y1 y2 v:Value} (h:Trio w G y0 y1 y2) (ha:Acc w w' B v) (hG:G≠B):Trio w' G y0 y1 y2:=by
 have hlt:G<w.heap.size:=by
  by_cases hh:G<w.heap.size
  ·exact hh
  ·unfold Trio at h;rw [Array.getElem?_eq_none (by omega)] at h;cases h
 unfold Trio at *;rw [ha.block G hlt hG];exact h
theorem Trio.set0 {w:World} {G:Nat} {y0 y1 y2:Value} (h:Trio w G y0 y1 y2) (u:Value):Trio (w.setCell ⟨G,0,none⟩ u) G u y1 y2:=by
 unfold Trio at *;simp [World.setCell,Array.getElem?_modify,h]
theorem Trio.set1 {w:World} {G:Nat} {y0 y1 y2:Value} (h:Trio w G y0 y1 y2) (u:Value):Trio (w.setCell ⟨G,1,none⟩ u) G y0 u y2:=by
 unfold Trio at *;simp [World.setCell,Array.getElem?_modify,h]
theorem Trio.set2 {w:World} {G:Nat} {y0 y1 y2:Value} (h:Trio w G y0 y1 y2) (u:Value):Trio (w.setCell ⟨G,2,none⟩ u) G y0 y1 u:=by
 unfold Trio at *;simp [World.setCell,Array.getElem?_modify,h]
theorem Trio.other {w:World} {G G':Nat} {y0 y1 y2:Value} (h:Trio w G y0 y1 y2) (i:Nat) (u:Value) (hne:G'≠G):Trio (w.setCell ⟨G',i,none⟩ u) G y0 y1 y2:=by
 unfold Trio at *;simp only [World.setCell,Array.getElem?_modify];rw [if_neg hne];exact h
theorem Acc.setNew {w0 w:World} {B:Nat} {v:Value} (h:Acc w0 w B v) (G i:Nat) (u:Value) (hG:w0.heap.size≤G):Acc w0 (w.setCell ⟨G,i,none⟩ u) B v:=by
 have hne:G≠B:=by have:=h.old;omega
 refine ⟨h.os,h.tape,h.output,by simp [World.setCell];exact h.size,fun k hk hB=>?_,h.old,?_,?_⟩
 ·simp only [World.setCell,Array.getElem?_modify];rw [if_neg (by omega)];exact h.block k hk hB
 ·rw [World.cell?_setCell_other]
  ·exact h.cell
  ·intro e;exact hne (congrArg Addr.block e)
 ·rw [World.frozen?_setCell];exact h.free
theorem Acc.alloc {w0 w:World} {B:Nat} {v:Value} (h:Acc w0 w B v) (o:Obj):Acc w0 (w.alloc o) B v:=by
 have hlt:∀ k,k<w.heap.size→(w.alloc o).heap[k]?=w.heap[k]?:=fun k hk=>by
  show (w.heap.push o)[k]?=_;rw [Array.getElem?_push,if_neg (by omega)]
 have hB:=Nat.lt_of_lt_of_le h.old h.size;refine ⟨h.os,h.tape,h.output,?_,fun k hk hB=>?_,h.old,?_,?_⟩
 ·show _≤(w.heap.push o).size;have:=h.size;simp;omega
 ·rw [hlt k (Nat.lt_of_lt_of_le hk h.size)];exact h.block k hk hB
 ·rw [← h.cell];exact World.cell?_of_block (w:=w) (a:=⟨B,0,none⟩) (hlt B hB)
 ·have:((w.alloc o).frozen? ⟨B,0,none⟩)=w.frozen? ⟨B,0,none⟩:=by simp only [World.frozen?,hlt B hB]
  rw [this];exact h.free
theorem trio_a (w:World) (x y z:Value) (o:Obj):Trio ((w.alloc (.cells #[x,y,z] 131)).alloc o) w.heap.size x y z:=by
 show ((w.heap.push _).push o)[w.heap.size]?=_;rw [Array.getElem?_push,if_neg (by simp),Array.getElem?_push_size]
theorem trio_b (w:World) (o:Obj) (x y z:Value):Trio ((w.alloc o).alloc (.cells #[x,y,z] 131)) (w.heap.size+1) x y z:=by
 show ((w.heap.push o).push _)[w.heap.size+1]?=_;have:w.heap.size+1=(w.heap.push o).size:=by simp
 rw [this,Array.getElem?_push_size]
theorem upward_any (K:Nat) (caps:Array Value) (B:Nat) (v0 v1 v2 v3:Value) (x0 x1 x2 y0 y1 y2:Int) (w:World) (h:Acc w w B v0) (hK:∀ args w,(callFunc K args).run Tryz.prog w = .ok (.enter K args) w)
  (s0:∀ w',Acc w w' B v0→Calls Tryz.prog K (#[.int .u32 x0]++caps) w' fun e w''=>e = .returned (.int .u32 y0)∧Acc w' w'' B v1)
  (s1:∀ w',Acc w w' B v1→Calls Tryz.prog K (#[.int .u32 x1]++caps) w' fun e w''=>e = .returned (.int .u32 y1)∧Acc w' w'' B v2)
  (s2:∀ w',Acc w w' B v2→Calls Tryz.prog K (#[.int .u32 x2]++caps) w' fun e w''=>e = .returned (.int .u32 y2)∧Acc w' w'' B v3) :
  Calls Tryz.prog 129 #[.agg #[.int .u32 x0,.int .u32 x1,.int .u32 x2],.func (.func K) #[] caps] w fun e w'=>e = .returned (.agg #[.int .u32 y0,.int .u32 y1,.int .u32 y2])∧Acc w w' B v3:=by
 have HS0:Hid (∀ w',Acc w w' B v0→Calls Tryz.prog K (#[.int .u32 x0]++caps) w' fun e w''=>e = .returned (.int .u32 y0)∧Acc w' w'' B v1):=s0;have HS1:Hid (∀ w',Acc w w' B v1→Calls Tryz.prog K (#[.int .u32 x1]++caps) w' fun e w''=>e = .returned (.int .u32 y1)∧Acc w' w'' B v2):=s1;have HS2:Hid (∀ w',Acc w w' B v2→Calls Tryz.prog K (#[.int .u32 x2]++caps) w' fun e w''=>e = .returned (.int .u32 y2)∧Acc w' w'' B v3):=s2;have HA:Hid (Acc w w B v0):=h;clear s0 s1 s2 h;go_enter Tryz.func129,Tryz.ntmps129;go_wp2_with fail;refine wp_loop_rounds 4 ?_;rw [rounds_succ];go_wp2_with fail;refine (HS0.o _ ((HA.o.alloc _).alloc _)).mono ?_;rintro e w1 ⟨rfl,h1⟩;have hB:=HA.o.old;have T1:Trio w1 w.heap.size (.int .u32 x0) (.int .u32 x1) (.int .u32 x2):=(trio_a _ _ _ _ _).acc h1 (by omega);have R1:Trio w1 (w.heap.size+1) (.int .u32 0) (.int .u32 0) (.int .u32 0):=(trio_b _ _ _ _ _).acc h1 (by omega);have A1:=((HA.o.alloc _).alloc _).trans h1;have c0:=T1.c0;have f0:=T1.free 0;have T1':=T1.set0 (.int .u32 y0);have d1:=T1'.c1;have HT:Hid (Trio (w1.setCell ⟨w.heap.size,0,none⟩ (.int .u32 y0)) w.heap.size (.int .u32 y0) (.int .u32 x1) (.int .u32 x2)):=T1';have HR:Hid (Trio (w1.setCell ⟨w.heap.size,0,none⟩ (.int .u32 y0)) (w.heap.size+1) (.int .u32 0) (.int .u32 0) (.int .u32 0)):=R1.other _ _ (by omega);have HA1:Hid (Acc w (w1.setCell ⟨w.heap.size,0,none⟩ (.int .u32 y0)) B v1):=A1.setNew _ _ _ (Nat.le_refl _);clear h1 T1 R1 A1 T1' HA HS0;go_wp2_with fail;rw [rounds_succ];go_wp2_with fail;refine (HS1.o _ HA1.o).mono ?_;rintro e w2 ⟨rfl,h2⟩;have T2:=HT.o.acc h2 (by omega);have R2:=HR.o.acc h2 (by omega);have A2:=HA1.o.trans h2;clear c0 f0 d1 HT HR HA1 HS1 h2;have c1:=T2.c1;have f1:=T2.free 1;have T2':=T2.set1 (.int .u32 y1);have d2:=T2'.c2;have HT:Hid (Trio (w2.setCell ⟨w.heap.size,1,none⟩ (.int .u32 y1)) w.heap.size (.int .u32 y0) (.int .u32 y1) (.int .u32 x2)):=T2';have HR:Hid (Trio (w2.setCell ⟨w.heap.size,1,none⟩ (.int .u32 y1)) (w.heap.size+1) (.int .u32 0) (.int .u32 0) (.int .u32 0)):=R2.other _ _ (by omega)
 have HA2:Hid (Acc w (w2.setCell ⟨w.heap.size,1,none⟩ (.int .u32 y1)) B v2):=A2.setNew _ _ _ (Nat.le_refl _);clear T2 R2 A2 T2';go_wp2_with fail;rw [rounds_succ];go_wp2_with fail;refine (HS2.o _ HA2.o).mono ?_;rintro e w3 ⟨rfl,h3⟩;have T3:=HT.o.acc h3 (by omega);have R3:=HR.o.acc h3 (by omega);have A3:=HA2.o.trans h3;clear c1 f1 d2 HT HR HA2 HS2 h3;have c2:=T3.c2;have f2:=T3.free 2;have T3':=T3.set2 (.int .u32 y2);have R3':=R3.other (G':=w.heap.size) 2 (.int .u32 y2) (by omega);have e0:=T3'.c0;have e1:=T3'.c1;have e2:=T3'.c2;have r0:=R3'.c0;have r1:=R3'.c1;have r2:=R3'.c2;have g0:=R3'.free 0;have g1:=R3'.free 1;have g2:=R3'.free 2;have HR3:Hid (Trio (w3.setCell ⟨w.heap.size,2,none⟩ (.int .u32 y2)) (w.heap.size+1) (.int .u32 0) (.int .u32 0) (.int .u32 0)):=R3';have HA3:Hid (Acc w (w3.setCell ⟨w.heap.size,2,none⟩ (.int .u32 y2)) B v3):=A3.setNew _ _ _ (Nat.le_refl _);clear T3 R3 A3 T3' R3';go_wp2_with fail;rw [rounds_succ];go_wp2_with fail;have RR:=((HR3.o.set0 (.int .u32 y0)).set1 (.int .u32 y1)).set2 (.int .u32 y2);have AA:=((HA3.o.setNew (w.heap.size+1) 0 (.int .u32 y0) (by omega)).setNew (w.heap.size+1) 1 (.int .u32 y1) (by omega)).setNew (w.heap.size+1) 2 (.int .u32 y2) (by omega);refine bodyPost_ret (v:= .agg #[.int .u32 y0,.int .u32 y1,.int .u32 y2]) (by simp [results,Tryz.results129,RR.c0,RR.c1,RR.c2,go_sem]) rfl ⟨rfl,AA⟩
theorem below_set {B:Nat} {w w':World} (h:Below B w w') (G i:Nat) (u:Value) (hG:B≤G):Below B w (w'.setCell ⟨G,i,none⟩ u):=by
 refine ⟨h.os,h.tape,h.output,by simp [World.setCell];exact h.size,fun k hk=>?_⟩;rw [← h.block k hk];simp only [World.setCell,Array.getElem?_modify];rw [if_neg (by omega)]
theorem Acc.below {w0 w1 w:World} {B:Nat} {v:Value} (hb:Below w0.heap.size w0 w1) (h:Acc w1 w B v) (hB:w0.heap.size≤B):Below w0.heap.size w0 w:=
 hb.trans ⟨h.os,h.tape,h.output,h.size,fun k hk=>h.block k (Nat.lt_of_lt_of_le hk hb.size) (by omega)⟩
theorem Trio.alloc {w:World} {G:Nat} {y0 y1 y2:Value} (h:Trio w G y0 y1 y2) (o:Obj):Trio (w.alloc o) G y0 y1 y2:=by
 have hlt:G<w.heap.size:=by
  by_cases hh:G<w.heap.size
  ·exact hh
  ·unfold Trio at h;rw [Array.getElem?_eq_none (by omega)] at h;cases h
 unfold Trio at *;show (w.heap.push o)[G]?=_;rw [Array.getElem?_push,if_neg (by omega)];exact h
theorem below_put {B:Nat} {w w':World} (h:Below B w w') (G i j k:Nat) (u v x:Value) (hG:B≤G):Below B w (((w'.setCell ⟨G,i,none⟩ u).setCell ⟨G,j,none⟩ v).setCell ⟨G,k,none⟩ x).drew:=
 (below_set (below_set (below_set h G i u hG) G j v hG) G k x hG).drew
theorem bel2 (w:World) (o1 o2:Obj):Below w.heap.size w ((w.alloc o1).alloc o2):=((Below.refl _ _).alloc (Nat.le_refl _) o1).alloc (by simp) o2
theorem bel3 (w:World) (o1 o2 o3:Obj):Below w.heap.size w (((w.alloc o1).alloc o2).alloc o3):=(bel2 w o1 o2).alloc (by simp;omega) _
theorem Acc.keep {w0 w:World} {B M:Nat} {v u:Value} (h:Acc w0 w B v) (hc:w0.cell? ⟨M,0,none⟩=some u) (hM:M≠B):w.cell? ⟨M,0,none⟩=some u:=by
 have hlt:M<w0.heap.size:=by
  by_cases hh:M<w0.heap.size
  ·exact hh
  ·simp [World.cell?,Array.getElem?_eq_none (show w0.heap.size≤M by omega)] at hc
 rw [← hc];exact World.cell?_of_block (w:=w0) (a:=⟨M,0,none⟩) (h.block M hlt hM)
theorem bel4 (w:World) (o1 o2 o3 o4:Obj):Below w.heap.size w ((((w.alloc o1).alloc o2).alloc o3).alloc o4):=(bel3 w o1 o2 o3).alloc (by simp;omega) _
theorem trio_d (w:World) (cs:Array Value) (m:Value) (T:TypeId) (x y z u:Value) (U:TypeId) :
  (((((w.alloc (.cells cs 131)).alloc (.cells #[m] T)).alloc (.cells #[x,y,z] 131)).alloc (.cells #[u] U)).cell? ⟨w.heap.size+1+1+1,0,none⟩=some u) ∧
  (((((w.alloc (.cells cs 131)).alloc (.cells #[m] T)).alloc (.cells #[x,y,z] 131)).alloc (.cells #[u] U)).frozen? ⟨w.heap.size+1+1+1,0,none⟩=false) ∧
  Trio ((((w.alloc (.cells cs 131)).alloc (.cells #[m] T)).alloc (.cells #[x,y,z] 131)).alloc (.cells #[u] U)) (w.heap.size+1+1) x y z ∧
  ((((w.alloc (.cells cs 131)).alloc (.cells #[m] T)).alloc (.cells #[x,y,z] 131)).alloc (.cells #[u] U)).cell? ⟨w.heap.size+1,0,none⟩=some m:=by
 have s1:w.heap.size+1=(w.heap.push (.cells cs 131)).size:=by simp
 have s2:w.heap.size+1+1=((w.heap.push (.cells cs 131)).push (.cells #[m] T)).size:=by simp
 have s3:w.heap.size+1+1+1=(((w.heap.push (.cells cs 131)).push (.cells #[m] T)).push (.cells #[x,y,z] 131)).size:=by simp
 have e:((((w.heap.push (.cells cs 131)).push (.cells #[m] T)).push (.cells #[x,y,z] 131)).push (.cells #[u] U))[w.heap.size+1+1+1]?=some (.cells #[u] U):=by
  rw [s3,Array.getElem?_push_size]
 have em:((((w.heap.push (.cells cs 131)).push (.cells #[m] T)).push (.cells #[x,y,z] 131)).push (.cells #[u] U))[w.heap.size+1]?=some (.cells #[m] T):=by
  rw [Array.getElem?_push,if_neg (by simp),Array.getElem?_push,if_neg (by simp),s1,Array.getElem?_push_size]
 refine ⟨?_,?_,?_,?_⟩
 ·simp only [World.cell?,World.alloc,e];rfl
 ·simp only [World.frozen?,World.alloc,e];rfl
 ·show ((((w.heap.push _).push _).push _).push _)[w.heap.size+1+1]?=_;rw [Array.getElem?_push,if_neg (by simp),s2,Array.getElem?_push_size]
 ·simp only [World.cell?,World.alloc,em];rfl
end words
namespace token
open Go.RowKit
theorem bel_box (w:World) (o:Obj):Below w.heap.size w (w.alloc o):=(Below.refl _ _).alloc (Nat.le_refl _) o
end token
section
open Go.RowKit
structure WQ (P : Program) (ops : Array Oper) (C : World → Prop) (Q : Act → Prop) (l : List Oper) (a : Act) : Prop where
 out : wpQuiet P ops C Q l a
theorem wq_nil {P : Program} {ops : Array Oper} {C : World → Prop} {Q : Act → Prop} {a : Act} (h : Q a) : WQ P ops C Q [] a := ⟨h⟩
theorem wq_step {P : Program} {ops : Array Oper} {C : World → Prop} {Q : Act → Prop} {a : Act} {o : Oper} {rest : List Oper}
  (h : ∀ K : Act → Prop, (∀ a, WQ P ops C Q rest a → K a) → if Region.wanted o (yielded ops a.tmps) then o.quiet P a C K else K (a.put o.dst undef)) : WQ P ops C Q (o :: rest) a :=
 ⟨wpQuiet_step fun K hK => h K fun a ha => hK a ha.out⟩
theorem wq_skip {P : Program} {ops : Array Oper} {C : World → Prop} {Q : Act → Prop} {a : Act} {o : Oper} {rest : List Oper} (hw : Region.wanted o (yielded ops a.tmps) = false) (h : WQ P ops C Q rest (a.put o.dst undef)) : WQ P ops C Q (o :: rest) a := by
 refine ⟨?_⟩
 unfold wpQuiet
 rw [if_neg (by rw [hw]; decide)]
 exact h.out
theorem wq_below {P : Program} {id : Nat} {Q : Exit → Act → World → Prop} {a : Act} {w : World} {l : List Oper} (hm : P.follows .mixedOrders = true) (hB : Region.lexB .any l.toArray = true)
  (h : WQ P l.toArray (fun w' => ∃ p : Regrown, w' = Sort.grow (redrawn w p.d) p.os) (fun a' => ∀ w', (∃ p : Regrown, w' = Sort.grow (redrawn w p.d) p.os) → Q .normal a' w') l a) : (Code.region id l.toArray true).wp P Q a w :=
 wp_region_quiet_below hm hB h.out
end
namespace vnd
open ora (Pr)
open cell (Wr RowW)
open Go.RowKit
theorem rowP_upd {w W:World} {g:Nat} {cs:Array Value} {T:TypeId} {p:Option Addr} {n:Nat} {l:List Pr} (h:ora.RowP w p n l) (hU:Upd w W g cs T) (hg:0<n→∀ y,p=some y→y.block≠g):ora.RowP W p n l:=by
 refine ⟨h.1,?_⟩;rcases h.2 with h0 | ⟨b,off,rfl,hc⟩
 ·exact .inl h0
 ·refine .inr ⟨b,off,rfl,fun i hi=>?_⟩;have hne:b≠g:=hg (by omega) _ rfl;obtain ⟨h0,h1,h2,h3⟩:=hc i hi;exact ⟨by rw [hU.cell _ hne rfl];exact h0,by rw [hU.cell _ hne rfl];exact h1,by rw [hU.cell _ hne rfl];exact h2,by rw [hU.cell _ hne rfl];exact h3⟩
theorem rowW_upd {w W:World} {g:Nat} {cs:Array Value} {T:TypeId} {p:Option Addr} {n:Nat} {l:List Wr} (h:RowW w p n l) (hU:Upd w W g cs T) (hg:0<n→∀ y,p=some y→y.block≠g):RowW W p n l:=by
 refine ⟨h.1,?_⟩;rcases h.2 with h0 | ⟨b,off,rfl,hc⟩
 ·exact .inl h0
 ·refine .inr ⟨b,off,rfl,fun i hi=>?_⟩;have hne:b≠g:=hg (by omega) _ rfl;rw [hU.cell _ hne rfl,hU.cell _ hne rfl];exact hc i hi
theorem rowP_lt {w:World} {p:Option Addr} {n:Nat} {l:List Pr} (h:ora.RowP w p n l):0<n→∀ y,p=some y→y.block<w.heap.size:=fun hn y hy=>by
 obtain ⟨b,off,h8,l8,_⟩:=h.at hn;rw [h8] at hy;cases hy;exact l8
end vnd
namespace disk
open Go.RowKit cell
theorem rec_at {c:List Int} {p m x:Nat} (hm:(c.getD p 0).toNat=m) (hx:x<m):(recAt c p).getD x 0=c.getD (p+1+x) 0:=by
 unfold recAt;rw [hm];simp [List.getD,List.getElem?_drop,hx]
theorem rec_len {c:List Int} {p m:Nat} (hm:(c.getD p 0).toNat=m) (hf:p+m<c.length):(recAt c p).length=m:=by
 unfold recAt;rw [hm,List.length_take,List.length_drop];omega
end disk
namespace book
open Go.RowKit
def refV (f:Int):Value:= .iface 150 (.agg #[zI f])
def thrown (f:Int):List PanicEntry:=[{ v:=refV f,recovered:=false }]
theorem insist_ok (w:World):Calls Tryz.prog 112 #[zI 0] w fun e w'=>e = .returned (.tuple #[])∧w'=w:=by
 go_enter Tryz.func112,Tryz.ntmps112;go_wp2;go_end0;exact ⟨rfl,rfl⟩
theorem insist_no (f:Int) (hf:f≠0) (w:World):Calls Tryz.prog 112 #[zI f] w fun e w'=>e = .panicked (thrown f)∧w'=w:=by
 have nf:(f != 0)=true:=by simpa using hf
 clear hf;go_enter Tryz.func112,Tryz.ntmps112;go_wp2;exact ⟨rfl,rfl,rfl⟩
theorem reason_nil (w:World):Calls Tryz.prog 39 #[.nilIface] w fun e w'=>e = .returned (zI 0)∧w'=w:=by
 have hq:∀ w:World,(binOp BinOp.eql 20 .nilIface .nilIface).run Tryz.prog w = .ok (.bool true) w:=fun _=>by kernel_rfl
 go_enter Tryz.func39,Tryz.ntmps39;go_wp2;go_ret;exact ⟨rfl,rfl⟩
theorem reason_is (f:Int) (w:World):Calls Tryz.prog 39 #[refV f] w fun e w'=>e = .returned (zI f)∧Below w.heap.size w w':=by
 have hq:∀ w:World,(binOp BinOp.eql 20 (refV f) .nilIface).run Tryz.prog w = .ok (.bool false) w:=fun _=>by kernel_rfl
 have h1:∀ w:World,(Instr.typeAssert (refV f) 20 148 false).run Tryz.prog w = .ok (refV f) w:=fun _=>by kernel_rfl
 have h2:∀ w:World,(Instr.typeAssert (refV f) 148 150 true).run Tryz.prog w = .ok (.tuple #[.agg #[zI f],.bool true]) w:=fun _=>by kernel_rfl
 have HB:Hid (Below w.heap.size w (w.alloc (.cells #[zI f] 150))):=(Below.refl _ _).alloc (Nat.le_refl _) _;unfold refV at *;go_enter Tryz.func39,Tryz.ntmps39;go_wp2;go_ret;exact ⟨rfl,HB.o⟩
theorem encode_caught (g:Nat) (f0 f:Int) (w:World) (hb:Blk w g #[zI f0] 27) :
  CallsD Tryz.prog 152 #[.pointer (some ⟨g,0,none⟩)] (.panicking (thrown f)) w fun e u' w'=>e = .returned (.tuple #[])∧settle u' = .returning∧∃ W,Below w.heap.size w W∧Upd W w' g #[zI f] 27:=by
 refine callsD_of_wpS Tryz.func152 rfl fun c₀ cs hu=>?_;apply wpS_region;simp only [thrown] at hu;simp [wpOpsS,go_sem,recoverD,hu,Tryz.ntmps152,Exit.thenS];refine (reason_is f w).mono ?_;rintro e w1 ⟨rfl,hb1⟩;have hB:=hb.next hb1;have hc:w1.cell? ⟨g,0,none⟩=some (zI f0):=hB.cell 0;have hz:w1.frozen? ⟨g,0,none⟩=false:=hB.free 0;have hU:Upd w1 (w1.setCell ⟨g,0,none⟩ (zI f)) g #[zI f] 27:=upd_cells g _ [zI f] 0 w1 _ hB;simp [go_sem,hc,hz,bodyPostS,results,Tryz.results152,settle];exact ⟨w1,hb1,hU⟩
theorem encode_idle (g:Nat) (f0:Int) (w:World) (hb:Blk w g #[zI f0] 27) :
  CallsD Tryz.prog 152 #[.pointer (some ⟨g,0,none⟩)] .returning w fun e u' w'=>e = .returned (.tuple #[])∧settle u' = .returning∧∃ W,Below w.heap.size w W∧Upd W w' g #[zI 0] 27:=by
 refine callsD_of_wpS Tryz.func152 rfl fun c₀ cs hu=>?_;apply wpS_region;simp [wpOpsS,go_sem,recoverD,hu,Tryz.ntmps152,Exit.thenS];refine (reason_nil w).mono ?_;rintro e w1 ⟨rfl,rfl⟩;have hc:w1.cell? ⟨g,0,none⟩=some (zI f0):=hb.cell 0;have hz:w1.frozen? ⟨g,0,none⟩=false:=hb.free 0;have hU:Upd w1 (w1.setCell ⟨g,0,none⟩ (zI 0)) g #[zI 0] 27:=upd_cells g _ [zI 0] 0 w1 _ hb;simp [go_sem,hc,hz,bodyPostS,results,Tryz.results152,hu,settle];exact ⟨.returning,(by cases c₀;simp_all),rfl,w1,Below.refl _ _,hU⟩
theorem decode_caught (g:Nat) (f0 f:Int) (w:World) (hb:Blk w g #[zI f0] 27) :
  CallsD Tryz.prog 65 #[.pointer (some ⟨g,0,none⟩)] (.panicking (thrown f)) w fun e u' w'=>e = .returned (.tuple #[])∧settle u' = .returning∧∃ W,Below w.heap.size w W∧Upd W w' g #[zI f] 27:=by
 refine callsD_of_wpS Tryz.func65 rfl fun c₀ cs hu=>?_;apply wpS_region;simp only [thrown] at hu;simp [wpOpsS,go_sem,recoverD,hu,Tryz.ntmps65,Exit.thenS];refine (reason_is f w).mono ?_;rintro e w1 ⟨rfl,hb1⟩;have hB:=hb.next hb1;have hc:w1.cell? ⟨g,0,none⟩=some (zI f0):=hB.cell 0;have hz:w1.frozen? ⟨g,0,none⟩=false:=hB.free 0;have hU:Upd w1 (w1.setCell ⟨g,0,none⟩ (zI f)) g #[zI f] 27:=upd_cells g _ [zI f] 0 w1 _ hB;simp [go_sem,hc,hz,bodyPostS,results,Tryz.results65,settle];exact ⟨w1,hb1,hU⟩
theorem decode_idle (g:Nat) (f0:Int) (w:World) (hb:Blk w g #[zI f0] 27) :
  CallsD Tryz.prog 65 #[.pointer (some ⟨g,0,none⟩)] .returning w fun e u' w'=>e = .returned (.tuple #[])∧settle u' = .returning∧∃ W,Below w.heap.size w W∧Upd W w' g #[zI 0] 27:=by
 refine callsD_of_wpS Tryz.func65 rfl fun c₀ cs hu=>?_;apply wpS_region;simp [wpOpsS,go_sem,recoverD,hu,Tryz.ntmps65,Exit.thenS];refine (reason_nil w).mono ?_;rintro e w1 ⟨rfl,rfl⟩;have hc:w1.cell? ⟨g,0,none⟩=some (zI f0):=hb.cell 0;have hz:w1.frozen? ⟨g,0,none⟩=false:=hb.free 0;have hU:Upd w1 (w1.setCell ⟨g,0,none⟩ (zI 0)) g #[zI 0] 27:=upd_cells g _ [zI 0] 0 w1 _ hb;simp [go_sem,hc,hz,bodyPostS,results,Tryz.results65,hu,settle];exact ⟨.returning,(by cases c₀;simp_all),rfl,w1,Below.refl _ _,hU⟩
end book
namespace deb
open tar (Du du0 Came TwoPost)
open Go.RowKit
def KdAge:Prop:=∀ (W:World) (a:Option Addr) (len cap:Nat) (ls:List Du) (m:Int),Came W a len cap ls→(Lit.int .i64 m).wf=true→Calls Tryz.prog 201 #[.slice a len cap,zI m] W fun e w'=>AgePost W ls m e w'
open tar (RowD Ld ErrPost PairT)
theorem grow_more {b x:Int} (hx:0≤x) (hx1:x≤1000000000) (hb:0≤b):grow b x=x+min (x*b / 10000) (1000000000 - x):=by
 unfold grow;have:=Int.mul_nonneg hx hb;generalize x*b=p at *;omega
theorem pgrowth (x b:Int) (w:World) (hx:0≤x∧x≤1000000000) (hb:0≤b∧b≤10000):Calls Tryz.prog 206 #[.agg #[zI x,zI b]] w fun e w'=>e = .returned (zI (min (x*b / 10000) (1000000000 - x)))∧Below w.heap.size w w':=by
 have HPA:Hid (∀ W,Calls Tryz.prog 165 #[zI x,zI b] W fun e w'=>e = .returned (.tuple #[zI (x*b / 10000),zI 0])∧Below W.heap.size W w'):=fun W=>cents.part_yes x b W hx.1 (by omega) hb.1 hb.2;have HBX:Hid (Blk (w.alloc (.cells #[zI x,zI b] 70)) w.heap.size #[zI x,zI b] 70):=Blk.new w _ _;have HBW:Hid (Below w.heap.size w (w.alloc (.cells #[zI x,zI b] 70))):=(Below.refl _ _).alloc (Nat.le_refl _) _;obtain ⟨hx0,hx1⟩:=hx;clear hb;have hmin:=tar.run_min (x*b / 10000) (1000000000 - x) _ rfl;generalize x*b / 10000=q at *;generalize min q (1000000000 - x)=m at *;go_enter Tryz.func206,Tryz.ntmps206;go_wp2_with fail;refine (HPA.o _).mono ?_;rintro e w1 ⟨rfl,hb1⟩;have HB1:=shB HBW hb1;have c0:w1.cell? ⟨w.heap.size,0,none⟩=some (zI x):=(HBX.o.next hb1).cell 0;have c1:w1.cell? ⟨w.heap.size,1,none⟩=some (zI b):=(HBX.o.next hb1).cell 1;clear hb1 HPA HBX HBW;go_wp2_with fail;go_ret;exact ⟨rfl,HB1.o⟩
end deb
namespace tar
open Go.RowKit
theorem pwithin (lo hi n:Int) (w:World):Calls Tryz.prog 113 #[zI lo,zI hi,zI n] w fun e w'=>e = .returned (.bool (decide (lo≤n∧n≤hi)))∧w'=w:=by
 by_cases h1:lo≤n
 ·by_cases h2:n≤hi
  ·have h3:decide (lo≤n∧n≤hi)=true:=by simp;omega
   rw [h3];clear h3;go_enter Tryz.func113,Tryz.ntmps113;go_wp2;go_ret;exact ⟨rfl,rfl⟩
  ·have h3:decide (lo≤n∧n≤hi)=false:=by simp;omega
   have h4:decide (n≤hi)=false:=by simp;omega
   rw [h3];clear h3 h2;go_enter Tryz.func113,Tryz.ntmps113;go_wp2;go_ret;exact ⟨rfl,rfl⟩
 ·have h3:decide (lo≤n∧n≤hi)=false:=by simp;omega
  have h4:decide (lo≤n)=false:=by simp;omega
  rw [h3];clear h3 h1;go_enter Tryz.func113,Tryz.ntmps113;go_wp2;go_ret;exact ⟨rfl,rfl⟩
open Classical in
theorem prises (b off k cap:Nat) (ls:List Du) (w1:World) (hs1:1≤k) (hs2:k≤8) (hlen:ls.length=k) (hbl:b<w1.heap.size) (hc:∀ i,i<k→w1.cell? ⟨b,off+i*2,none⟩=some (zI (ls.getD i du0).a)∧w1.cell? ⟨b,off+i*2+1,none⟩=some (zI (ls.getD i du0).b)):Calls Tryz.prog 114 #[.slice (some ⟨b,off,none⟩) k cap] w1 fun e w'=>e = .returned (.bool (decide (Rises ls)))∧Below w1.heap.size w1 w':=by
 have HC:Hid (∀ i,i<k→w1.cell? ⟨b,off+i*2,none⟩=some (zI (ls.getD i du0).a)∧w1.cell? ⟨b,off+i*2+1,none⟩=some (zI (ls.getD i du0).b)):=hc;have HLEN:Hid (ls.length=k):=hlen;have hnm:k≤9223372036854775807:=by omega
 clear hc hlen;go_enter Tryz.func114,Tryz.ntmps114;go_wp2_with fail;go_loopw [3] (fun x wr2=>∃ j:Nat,1≤j∧j≤k∧x=zI (j:Int)∧(∀ i,1≤i→i<j→(ls.getD (i - 1) du0).a<(ls.getD i du0).a)∧Below w1.heap.size w1 wr2) (fun x _=>k - (intOf x).toNat)
 case atStart=>exact ⟨1,Nat.le_refl _,hs1,rfl,fun i h1 h2=>absurd h2 (by omega),Below.refl _ _⟩
 case round=>
  obtain ⟨j,hj1,hj,rfl,hf,hb⟩:=hrel;have HF:Hid (∀ i,1≤i→i<j→(ls.getD (i - 1) du0).a<(ls.getD i du0).a):=hf;have HB:Hid (Below w1.heap.size w1 wr):=hb;by_cases hlt2:j<k
  ·have hdl2:decide ((j:Int)<(k:Int))=true:=by simp;omega
   have c0:wr.cell? ⟨b,off+j*2,none⟩=some (zI (ls.getD j du0).a):=(hb.cell (p:=⟨b,off+j*2,none⟩) hbl).trans (HC.o j hlt2).1;have c1:wr.cell? ⟨b,off+(j - 1)*2,none⟩=some (zI (ls.getD (j - 1) du0).a):=(hb.cell (p:=⟨b,off+(j - 1)*2,none⟩) hbl).trans (HC.o (j - 1) (by omega)).1;have hs2':wr.drew.cell? ⟨b,off+j*2,none⟩=some (zI (ls.getD j du0).a):=c0;have HBD:Hid (Below w1.heap.size w1 wr.drew):=hb.drew;have hsub:((j:Int) - 1)=((j - 1:Nat):Int):=by omega
   have hjm:j - 1<k:=by omega
   clear hb hf;by_cases hle:(ls.getD j du0).a≤(ls.getD (j - 1) du0).a
   ·have hde:decide ((ls.getD j du0).a≤(ls.getD (j - 1) du0).a)=true:=decide_eq_true hle
    have HN:Hid (decide (Rises ls)=false):=decide_eq_false fun h=>by
     have:=h j hj1 (by rw [HLEN.o];exact hlt2);omega
    clear hle;generalize (ls.getD j du0).a=x at *;generalize (ls.getD (j - 1) du0).a=y at *;generalize j - 1=j1 at *;go_wp2_with fail;go_region
    all_goals go_wp2_with fail
    go_ret;exact ⟨by rw [HN.o];rfl,HBD.o⟩
   ·have hde:decide ((ls.getD j du0).a≤(ls.getD (j - 1) du0).a)=false:=decide_eq_false hle
    have HF2:Hid (∀ i,1≤i→i<j+1→(ls.getD (i - 1) du0).a<(ls.getD i du0).a):=fun i h1 h2=>by
     by_cases e:i=j
     ·subst e;omega
     ·exact HF.o i h1 (by omega)
    clear hle;generalize (ls.getD j du0).a=x at *;generalize (ls.getD (j - 1) du0).a=y at *;generalize j - 1=j1 at *;go_wp2_with fail;go_region
    all_goals go_wp2_with fail
    go_roundw
    case rel=>exact ⟨j+1,by omega,by omega,by go_num,HF2.o,HBD.o⟩
    case measure=>simp [intOf];omega
  ·obtain rfl:j=k:=by omega
   have hdl2:decide ((j:Int)<(j:Int))=false:=by simp
   have HR:Hid (decide (Rises ls)=true):=decide_eq_true fun i h1 h2=>HF.o i h1 (by rw [HLEN.o] at h2;exact h2);clear hb hf;go_wp2_with fail;go_ret;exact ⟨by rw [HR.o];rfl,HB.o⟩
def KtMost:Prop:=∀ (W:World) (a:Option Addr) (len cap:Nat) (ls:List Du) (x n:Int),Came W a len cap ls→(Lit.int .i64 x).wf=true→(Lit.int .i64 n).wf=true→Calls Tryz.prog 166 #[.slice a len cap,zI x,zI n] W fun e w'=>ThreePost W (MostIs ls x n) e w'
end tar
namespace deb
open tar (Du du0 Came TwoPost)
open Go.RowKit
def KdTotal:Prop:=∀ (W:World) (a:Option Addr) (len cap:Nat) (ls:List Du),Came W a len cap ls→Calls Tryz.prog 184 #[.slice a len cap] W fun e w'=>TwoPost W (OwedIs ls) e w'
end deb
namespace book
open Go.RowKit
theorem of_caught (ge gn ga:Nat) (f0 m0 a0 f:Int) (hf:f≠0) (w:World) (he:Blk w ge #[zI f0] 27) (hn:Blk w gn #[zI m0] 3) (ha:Blk w ga #[zI a0] 3) (h1:gn≠ge) (h2:ga≠ge) :
  CallsD Tryz.prog 38 #[.pointer (some ⟨ge,0,none⟩),.pointer (some ⟨gn,0,none⟩),.pointer (some ⟨ga,0,none⟩)] (.panicking (thrown f)) w fun e u' w'=>e = .returned (.tuple #[])∧settle u' = .returning∧∃ W W2,Below w.heap.size w W∧Upd W W2 ge #[zI f] 27∧Upd W2 w' ga #[zI m0] 3:=by
 refine callsD_of_wpS Tryz.func38 rfl fun c₀ cs hu=>?_;apply wpS_seq;apply wpS_region;simp only [thrown] at hu;simp [wpOpsS,go_sem,recoverD,hu,Tryz.ntmps38,Exit.thenS];refine (reason_is f w).mono ?_;rintro e w1 ⟨rfl,hb1⟩;have hE:=he.next hb1;have hN:=hn.next hb1;have hA:=ha.next hb1;have hc:w1.cell? ⟨ge,0,none⟩=some (zI f0):=hE.cell 0;have hz:w1.frozen? ⟨ge,0,none⟩=false:=hE.free 0;have hU:Upd w1 (w1.setCell ⟨ge,0,none⟩ (zI f)) ge #[zI f] 27:=upd_cells ge _ [zI f] 0 w1 _ hE;simp [go_sem,hc,hz,Exit.thenS];generalize w1.setCell ⟨ge,0,none⟩ (zI f)=W2 at *;have hE2:=hU.blk;have hN2:=hU.keep hN h1;have hA2:=hU.keep hA h2;have q0:W2.cell? ⟨ge,0,none⟩=some (zI f):=hE2.cell 0;have q1:W2.cell? ⟨gn,0,none⟩=some (zI m0):=hN2.cell 0;have nf:(f != 0)=true:=by simpa using hf
 change Code.wpS _ _ _ { tmps:=#[.pointer (some ⟨ge,0,none⟩),.pointer (some ⟨gn,0,none⟩),.pointer (some ⟨ga,0,none⟩),refV f,zI f,undef,undef,undef],defers:=[] } _ _;apply wpS_of_wp;have HA2:Hid (Blk W2 ga #[zI a0] 3):=hA2;have HU:Hid (Upd w1 W2 ge #[zI f] 27):=hU;have HB:Hid (Below w.heap.size w w1):=hb1;clear hf he hn ha hE hN hA hc hz hU hE2 hN2 hA2 hb1 hu;go_wp2_with (first | (refine wp_let1 rfl 3 _ _ rfl ga 0 rfl .i64 m0 rfl (by kernel_rfl) #[zI a0] 3 HA2.o (by simp) ?_) | fail)
 intro W3 hU3;have HU3:Hid (Upd W2 W3 ga #[zI m0] 3):=hU3;clear hU3;go_wp2_with fail;simp [bodyPostS,results,Tryz.results38,settle];exact ⟨w1,HB.o,W2,HU.o,HU3.o⟩
theorem of_idle (ge gn ga:Nat) (f0:Int) (w:World) (he:Blk w ge #[zI f0] 27) :
  CallsD Tryz.prog 38 #[.pointer (some ⟨ge,0,none⟩),.pointer (some ⟨gn,0,none⟩),.pointer (some ⟨ga,0,none⟩)] .returning w fun e u' w'=>e = .returned (.tuple #[])∧settle u' = .returning∧∃ W,Below w.heap.size w W∧Upd W w' ge #[zI 0] 27:=by
 refine callsD_of_wpS Tryz.func38 rfl fun c₀ cs hu=>?_;apply wpS_seq;apply wpS_region;simp [wpOpsS,go_sem,recoverD,hu,Tryz.ntmps38,Exit.thenS];refine (reason_nil w).mono ?_;rintro e w1 ⟨rfl,rfl⟩;have hc:w1.cell? ⟨ge,0,none⟩=some (zI f0):=he.cell 0;have hz:w1.frozen? ⟨ge,0,none⟩=false:=he.free 0;have hU:Upd w1 (w1.setCell ⟨ge,0,none⟩ (zI 0)) ge #[zI 0] 27:=upd_cells ge _ [zI 0] 0 w1 _ he;simp [go_sem,hc,hz,Exit.thenS];generalize w1.setCell ⟨ge,0,none⟩ (zI 0)=W2 at *;have q0:W2.cell? ⟨ge,0,none⟩=some (zI 0):=hU.blk.cell 0;change Code.wpS _ _ _ { tmps:=#[.pointer (some ⟨ge,0,none⟩),.pointer (some ⟨gn,0,none⟩),.pointer (some ⟨ga,0,none⟩),.nilIface,zI 0,undef,undef,undef],defers:=[] } _ _;apply wpS_of_wp;have HU:Hid (Upd w1 W2 ge #[zI 0] 27):=hU;have HH:Hid (c₀.mode = .returning):=hu;clear he hc hz hU hu;go_wp2_with fail;have hu:=HH.o;have hU:=HU.o;simp [bodyPostS,results,Tryz.results38,hu,settle];exact ⟨.returning,(by cases c₀;simp_all),rfl,w1,Below.refl _ _,hU⟩
def FindPost (w:World) (l:List Cu) (me:Int) (e:Ending) (w':World):Prop:=∃ x f,e = .returned (.tuple #[zI x,zI f])∧FindIs l me x f∧Below w.heap.size w w'
end book
end Go.Proofs.YtnpblpbohcegoaaGreatDoor
