import Derived.Test.YtnpblpbohcegoaaGreatDoorVBTed1
set_option linter.unusedVariables false
set_option linter.unusedSimpArgs false
set_option maxHeartbeats 4000000
set_option maxRecDepth 100000
namespace Go.Proofs.YtnpblpbohcegoaaGreatDoor
namespace book
open Go.RowKit
structure Ev where
 kd:Int
 me:Int
 mo:Int
 id:Int
 te:Int
 de:Int
 fe:Int
 pr:Int
 ch:Int
 un:Int
 tg:Int
 ow:Int
 bp:Int
def ev0:Ev:=⟨0,0,0,0,0,0,0,0,0,0,0,0,0⟩
def EMay (v:Ev):Prop:=(0≤v.me∧v.me≤49)∧((v.kd=1∧v.mo=0∧v.id=0∧v.te=0∧v.de=0∧v.fe=0∧v.pr=0∧v.ch=0∧v.un=0∧v.tg=0∧v.ow=0∧v.bp=0)∨(v.kd=5∧v.mo=0∧v.id=0∧v.te=0∧v.de=0∧v.fe=0∧v.pr=0∧v.ch=0∧v.un=0∧v.tg=0∧(1≤v.ow∧v.ow≤1000000000)∧0≤v.bp∧v.bp≤10000) ∨
 ((2≤v.kd∧v.kd≤4)∧(1≤v.id∧v.id≤1048575)∧(0≤v.tg∧v.tg≤65535)∧(v.ow=0∧v.bp=0)∧((v.kd=4∧v.mo=0∧v.te=0∧v.de=0∧v.fe=0∧v.pr=0∧v.ch=0∧v.un=0)∨(v.kd≠4∧(0≤v.mo∧v.mo≤2399)∧(1≤v.un∧v.un≤2097151) ∧
   ((v.kd=3∧v.te=0∧v.de=0∧v.fe=0∧v.pr=0∧v.ch=0)∨(v.kd≠3∧(1≤v.te∧v.te≤100000000)∧(0≤v.de∧v.de≤v.te)∧(0≤v.fe∧v.fe≤v.te)∧(0≤v.pr∧v.pr≤v.te)∧(0≤v.ch∧v.ch≤v.te)∧v.de+v.fe+v.pr+v.ch=v.te))))))
def evL (v:Ev):List Int:=[v.kd,v.me,v.mo,v.id,v.te,v.de,v.fe,v.pr,v.ch,v.un,v.tg,v.ow,v.bp]
theorem evL_len (v:Ev):(evL v).length=13:=rfl
theorem may_word {v:Ev} (h:EMay v):∀ x∈evL v,0≤x∧x<4294967296:=by
 intro x hx;unfold EMay at h;simp only [evL,List.mem_cons,List.not_mem_nil,or_false] at hx;rcases hx with rfl | rfl | rfl | rfl | rfl | rfl | rfl | rfl | rfl | rfl | rfl | rfl | rfl <;> omega
def evOf (l:List Int):Ev:=⟨l.getD 0 0,l.getD 1 0,l.getD 2 0,l.getD 3 0,l.getD 4 0,l.getD 5 0,l.getD 6 0,l.getD 7 0,l.getD 8 0,l.getD 9 0,l.getD 10 0,l.getD 11 0,l.getD 12 0⟩
theorem evOf_L (v:Ev):evOf (evL v)=v:=rfl
def EncIs (v:Ev) (ws:List Int) (e:Int):Prop:=(EMay v∧ws=evL v∧e=0)∨(¬ EMay v∧ws=[]∧e=5)
theorem EncIs.one {v:Ev} {a b:List Int} {e f:Int} (h:EncIs v a e) (h':EncIs v b f):a=b∧e=f:=by
 rcases h with ⟨q,rfl,rfl⟩ | ⟨q,rfl,rfl⟩ <;> rcases h' with ⟨q',rfl,rfl⟩ | ⟨q',rfl,rfl⟩ <;> first | exact ⟨rfl,rfl⟩ | contradiction
def DecIs (l:List Int) (v:Ev) (e:Int):Prop:=(l.length≠13∧v=ev0∧e=1)∨(l.length=13∧¬ EMay (evOf l)∧v=ev0∧e=5)∨(l.length=13∧EMay (evOf l)∧v=evOf l∧e=0)
theorem DecIs.one {l:List Int} {a b:Ev} {e f:Int} (h:DecIs l a e) (h':DecIs l b f):a=b∧e=f:=by
 rcases h with ⟨q,rfl,rfl⟩ | ⟨q,r,rfl,rfl⟩ | ⟨q,r,rfl,rfl⟩ <;> rcases h' with ⟨q',rfl,rfl⟩ | ⟨q',r',rfl,rfl⟩ | ⟨q',r',rfl,rfl⟩ <;> first | exact ⟨rfl,rfl⟩ | contradiction
end book
namespace cell
open Go.RowKit
def RowU (w:World) (a:Option Addr) (len:Nat) (zs:List Int):Prop:=
 zs.length=len∧(len=0∨∃ b off,a=some ⟨b,off,none⟩∧∀ i,i<len→w.cell? ⟨b,off+i,none⟩=some (.int .u32 (zs.getD i 0)))
theorem RowU.below {w w':World} {a:Option Addr} {n:Nat} {zs:List Int} (h:RowU w a n zs) (hb:Below w.heap.size w w'):RowU w' a n zs:=by
 refine ⟨h.1,?_⟩;rcases h.2 with h0 | ⟨b,off,rfl,hc⟩
 ·exact .inl h0
 ·refine .inr ⟨b,off,rfl,fun i hi=>?_⟩;have h1:=hc i hi;rw [hb.cell (p:=⟨b,off+i,none⟩) (World.block_lt_of_cell? w _ h1)];exact h1
theorem RowU.nil (w:World) (a:Option Addr):RowU w a 0 []:=⟨rfl,.inl rfl⟩
theorem RowU.at {w:World} {a:Option Addr} {n:Nat} {zs:List Int} (h:RowU w a n zs) (h0:0<n):∃ b off,a=some ⟨b,off,none⟩∧b<w.heap.size∧∀ i,i<n→w.cell? ⟨b,off+i,none⟩=some (.int .u32 (zs.getD i 0)):=by
 rcases h.2 with h1 | ⟨b,off,rfl,hc⟩
 ·omega
 ·exact ⟨b,off,rfl,World.block_lt_of_cell? w _ (hc 0 h0),hc⟩
def Ws (w:World) (base:Nat) (v:Value) (zs:List Int):Prop:=w.ownsRow base 99 1 v zs.length (zs.map (.int .u32))
theorem Ws.alloc {w:World} {base:Nat} {v:Value} {l:List Int} (h:Ws w base v l) (o:Obj):Ws (w.alloc o) base v l:=World.ownsRow.alloc h o
theorem Ws.next {w w':World} {base:Nat} {v:Value} {l:List Int} (h:Ws w base v l) (hb:Below w.heap.size w w'):Ws w' base v l:=by
 refine ⟨h.1,?_⟩;rcases h.2 with hn | ⟨g,cap,cur,hv,hg,hc,rest⟩
 ·exact .inl hn
 ·exact .inr ⟨g,cap,cur,hv,hg,Blk.next hc hb,rest⟩
theorem Ws.row {w:World} {base:Nat} {v:Value} {l:List Int} (h:Ws w base v l):∃ a cap,v = .slice a l.length cap∧RowU w a l.length l∧(a=none→cap=0)∧l.length≤cap:=by
 rcases h.2 with ⟨hv,hn⟩ | ⟨g,cap,cur,hv,_,_,h1,_⟩
 ·exact ⟨none,0,by rw [hn];exact hv,⟨rfl,.inl hn⟩,fun _=>rfl,by omega⟩
 ·subst hv;refine ⟨_,cap,rfl,⟨rfl,.inr ⟨g,0,rfl,fun i hi=>?_⟩⟩,(fun h=>by cases h),h1⟩;have:=World.ownsRow.cellAt h i (by omega);rw [Nat.zero_add,this];simp [List.getD,hi]
theorem own_far {w:World} {base n k:Nat} {t:TypeId} {v:Value} {l:List Value} (h:w.ownsRow base t n v k l) {G:Nat} (hG:G<base):some G≠v.ownBlock:=by
 intro e;have:=(World.ownsRow.lt h G e.symm).1;omega
theorem own_bel {w0 w w':World} {base B n k:Nat} {t:TypeId} {v:Value} {l:List Value} (h:w.ownsRow base t n v k l) (hg:w.grownBy w' v.ownBlock) (hb:Below B w0 w) (hB:B≤base) (hw:B≤w.heap.size):Below B w0 w':=by
 refine ⟨hg.os.trans hb.os,hg.tape.trans hb.tape,hg.output.trans hb.output,Nat.le_trans hb.size hg.size,fun k hk=>?_⟩;rw [← hb.block k hk];exact hg.block k (by omega) (own_far h (by omega))
theorem alloc_le {w:World} {B:Nat} (h:B≤w.heap.size) (o:Obj):B≤(w.alloc o).heap.size:=by simp;omega
theorem info_u32:(Tryz.prog.info? 99).map (fun i=>(i.zero,i.size,i.bytes))=some (some (.int .u32 0),1,4):=by kernel_rfl
theorem wp_word {w:World} {ops:Array Oper} {rest:List Oper} {o:Oper} {a:Act} {Q:Exit→Act→World→Prop} (hgd:o.guard=none) (s x:Operand)
  (ho:o.op = .call { callee:= .builtin .append,args:=#[s,x],argTypes:=#[25,25] })
  (base G:Nat) (v:Value) (l:List Int) (r:Int) (hs:a.eval s=v) (hx:a.eval x = .slice (some ⟨G,0,none⟩) 1 1) (hv:Ws w base v l) (hu:w.cell? ⟨G,0,none⟩=some (.int .u32 r)) (hn:l.length≤1000000) (hbase:base≤w.heap.size)
  (h:∀ v' w',Ws w' base v' (l++[r])→w.grownBy w' v.ownBlock→wpList Tryz.prog ops Q rest (a.put o.dst v') w'):wpList Tryz.prog ops Q (o :: rest) a w:=by
 obtain ⟨i0,hi,hz0,hz1,hz2⟩:=info_parts info_u32;refine wpList_append_own w hgd s x 25 ho base 99 i0 (.int .u32 0) 1 4 Tryz.underlying25 hi hz0 hz1 hz2 rfl (by decide) v l.length (l.map (.int .u32)) hs hv ⟨G,0,none⟩ 1 1 [.int .u32 r] hx rfl ?_ ?_ (by unfold maxLen;omega) (by omega) hbase ?_
 ·intro j u hj
  match j,hj with
  | 0,hj=>simp at hj;subst hj;simpa [Addr.add] using hu
 ·intro u hu;simp at hu;subst hu;rfl
 intro v' w' h1 h2 _;refine h v' w' ?_ h2;unfold Ws;rw [List.length_append,List.map_append];exact h1
end cell
namespace vnd
open Go.RowKit
theorem blk_new4 (w:World) (o p q r:Obj) (cs:Array Value) (t:TypeId):Blk (((((w.alloc o).alloc p).alloc q).alloc r).alloc (.cells cs t)) (w.heap.size+1+1+1+1) cs t:=by
 have h:=Blk.new ((((w.alloc o).alloc p).alloc q).alloc r) cs t
 rwa [show ((((w.alloc o).alloc p).alloc q).alloc r).heap.size=w.heap.size+1+1+1+1 by simp] at h
theorem blk_new5 (w:World) (o p q r s:Obj) (cs:Array Value) (t:TypeId):Blk ((((((w.alloc o).alloc p).alloc q).alloc r).alloc s).alloc (.cells cs t)) (w.heap.size+1+1+1+1+1) cs t:=by
 have h:=Blk.new (((((w.alloc o).alloc p).alloc q).alloc r).alloc s) cs t
 rwa [show (((((w.alloc o).alloc p).alloc q).alloc r).alloc s).heap.size=w.heap.size+1+1+1+1+1 by simp] at h
end vnd
namespace cell
open Go.RowKit
def GaveU (w:World) (zs:List Int) (e:Ending) (w':World):Prop:=∃ v,e = .returned v∧Ws w' w.heap.size v zs∧Below w.heap.size w w'
theorem GaveU.mk {w w':World} {zs:List Int} {v:Value} (h1:Ws w' w.heap.size v zs) (h2:Below w.heap.size w w'):GaveU w zs (.returned v) w':=⟨v,rfl,h1,h2⟩
end cell
namespace cents
open Go.RowKit
def Row (w:World) (a:Option Addr) (len:Nat) (zs:List Int):Prop:=
 zs.length=len∧(len=0∨∃ b off,a=some ⟨b,off,none⟩∧∀ i,i<len→w.cell? ⟨b,off+i,none⟩=some (zI (zs.getD i 0)))
def okAll (lo hi:Int) (l:List Int):Bool:=l.all fun n=>decide (lo≤n) && decide (n≤hi)
theorem okAll_step (lo hi:Int) (zs:List Int) (k:Nat) (hk:k<zs.length) (h:okAll lo hi (zs.take k)=true) (h1:lo≤zs.getD k 0) (h2:zs.getD k 0≤hi):okAll lo hi (zs.take (k+1))=true:=by
 unfold okAll at *;rw [List.take_add_one,List.all_append,h];simp only [List.getD,List.getElem?_eq_getElem hk,Option.getD] at h1 h2 ⊢;simp [h1,h2]
theorem okAll_no (lo hi:Int) (zs:List Int) (k:Nat) (hk:k<zs.length) (h:zs.getD k 0<lo∨hi<zs.getD k 0):okAll lo hi zs=false:=by
 unfold okAll;rw [List.all_eq_false];refine ⟨zs[k],List.getElem_mem hk,?_⟩;simp only [List.getD,List.getElem?_eq_getElem hk,Option.getD] at h;simp;omega
theorem ret_bool {a b:Bool} (h:a=b):Ending.returned (.bool a) = .returned (.bool b):=by rw [h]
theorem within_any (lo hi:Int) (a:Option Addr) (len cap:Nat) (zs:List Int) (w:World) (hr:Row w a len zs) (hl:len≤maxLen) :
  Calls Tryz.prog 192 #[zI lo,zI hi,.slice a len cap] w fun e w'=>e = .returned (.bool (okAll lo hi zs))∧w'=w:=by
 unfold maxLen at hl;obtain ⟨hz,hr⟩:=hr;go_enter Tryz.func192,Tryz.ntmps192;go_wp2;go_loop [11] (fun i=>∃ k:Nat,k≤len∧i=zI k∧okAll lo hi (zs.take k)=true) (fun i=>len - (intOf i).toNat)
 case atStart=>exact ⟨0,Nat.zero_le _,rfl,rfl⟩
 case round=>
  obtain ⟨k,hk,rfl,hok⟩:=hrel;have HK:Hid (okAll lo hi (zs.take k)=true):=hok;clear hok;by_cases hlt:k<len
  ·rcases hr with h0 | ⟨b,off,rfl,hc⟩
   ·omega
   have hcell:=hc k hlt;clear hc;generalize hzk:zs.getD k 0=z at hcell;have HZ:Hid (zs.getD k 0=z):=hzk;clear hzk;by_cases h1:z<lo
   ·go_wp2;go_ret;exact ⟨ret_bool (okAll_no lo hi zs k (by omega) (.inl (by rw [HZ.o];exact h1))).symm,rfl⟩
   ·by_cases h2:hi<z
    ·go_wp2;go_ret;exact ⟨ret_bool (okAll_no lo hi zs k (by omega) (.inr (by rw [HZ.o];exact h2))).symm,rfl⟩
    ·go_wp2;go_round
     case rel=>exact ⟨k+1,by omega,by go_num,okAll_step lo hi zs k (by omega) HK.o (by rw [HZ.o];omega) (by rw [HZ.o];omega)⟩
     case measure=>simp [intOf];omega
  ·go_wp2;go_ret;refine ⟨ret_bool ?_,rfl⟩;have:=HK.o;rw [List.take_of_length_le (by omega)] at this;exact this.symm
end cents
namespace words
open Go.ChangeShapes Go.WideShapes Go.ChangeAt Go.RowKit
theorem cells_word:Tryz.prog.cellsOf 99=1:=by kernel_rfl
structure Acc (w0 w:World) (B:Nat) (v:Value):Prop where
 os:w.os=w0.os
 tape:w.tape=w0.tape
 output:w.output=w0.output
 size:w0.heap.size≤w.heap.size
 block:∀ k,k<w0.heap.size→k≠B→w.heap[k]?=w0.heap[k]?
 old:B<w0.heap.size
 cell:w.cell? ⟨B,0,none⟩=some v
 free:w.frozen? ⟨B,0,none⟩=false
theorem Acc.trans {w0 w1 w2:World} {B:Nat} {v v':Value} (h:Acc w0 w1 B v) (h':Acc w1 w2 B v'):Acc w0 w2 B v':=
 ⟨h'.os.trans h.os,h'.tape.trans h.tape,h'.output.trans h.output,Nat.le_trans h.size h'.size,fun k hk hB=>(h'.block k (Nat.lt_of_lt_of_le hk h.size) hB).trans (h.block k hk hB),h.old,h'.cell,h'.free⟩
theorem Acc.refl {w:World} {B:Nat} {v:Value} (hc:w.cell? ⟨B,0,none⟩=some v) (hf:w.frozen? ⟨B,0,none⟩=false):Acc w w B v:=by
 refine ⟨rfl,rfl,rfl,Nat.le_refl _,fun _ _ _=>rfl,?_,hc,hf⟩;by_cases hh:B<w.heap.size
 ·exact hh
 ·simp [World.cell?,Array.getElem?_eq_none (show w.heap.size≤B by omega)] at hc
theorem Acc.set {w0 w:World} {B:Nat} {v:Value} (h:Acc w0 w B v) (u:Value):Acc w0 (w.setCell ⟨B,0,none⟩ u) B u:=by
 refine ⟨h.os,h.tape,h.output,by simp [World.setCell];exact h.size,fun k hk hB=>?_,h.old,?_,?_⟩
 ·simp only [World.setCell,Array.getElem?_modify];rw [if_neg (fun e=>hB e.symm)];exact h.block k hk hB
 ·apply World.cell?_setCell_same;exact h.cell
 ·rw [World.frozen?_setCell];exact h.free
theorem Acc.drewN {w0 w:World} {B:Nat} {v:Value} (h:Acc w0 w B v) (n:Nat):Acc w0 (w.drewN n) B v:=⟨h.os,h.tape,h.output,h.size,h.block,h.old,h.cell,h.free⟩
def Trio (w:World) (G:Nat) (y0 y1 y2:Value):Prop:=w.heap[G]?=some (.cells #[y0,y1,y2] 131 (0,0))
theorem Trio.c0 {w:World} {G:Nat} {y0 y1 y2:Value} (h:Trio w G y0 y1 y2):w.cell? ⟨G,0,none⟩=some y0:=by unfold Trio at h;simp [World.cell?,h]
theorem Trio.c1 {w:World} {G:Nat} {y0 y1 y2:Value} (h:Trio w G y0 y1 y2):w.cell? ⟨G,1,none⟩=some y1:=by unfold Trio at h;simp [World.cell?,h]
theorem Trio.c2 {w:World} {G:Nat} {y0 y1 y2:Value} (h:Trio w G y0 y1 y2):w.cell? ⟨G,2,none⟩=some y2:=by unfold Trio at h;simp [World.cell?,h]
theorem Trio.free {w:World} {G:Nat} {y0 y1 y2:Value} (h:Trio w G y0 y1 y2) (i:Nat):w.frozen? ⟨G,i,none⟩=false:=by unfold Trio at h;simp [World.frozen?,h]
theorem Trio.acc {w w':World} {G B:Nat} {y0 y1 y2 v:Value} (h:Trio w G y0 y1 y2) (ha:Acc w w' B v) (hG:G≠B):Trio w' G y0 y1 y2:=by
 have hlt:G<w.heap.size:=by
  by_cases hh:G<w.heap.size
  ·exact hh
  ·unfold Trio at h;rw [Array.getElem?_eq_none (by omega)] at h;cases h
 unfold Trio at *;rw [ha.block G hlt hG];exact h
theorem Trio.set0 {w:World} {G:Nat} {y0 y1 y2:Value} (h:Trio w G y0 y1 y2) (u:Value):Trio (w.setCell ⟨G,0,none⟩ u) G u y1 y2:=by
 unfold Trio at *;simp [World.setCell,Array.getElem?_modify,h]
theorem Trio.set1 {w:World} {G:Nat} {y0 y1 y2:Value} (h:Trio w G y0 y1 y2) (u:Value):Trio (w.setCell ⟨G,1,none⟩ u) G y0 u y2:=by
 unfold Trio at *;simp [World.setCell,Array.getElem?_modify,h]
theorem Trio.set2 {w:World} {G:Nat} {y0 y1 y2:Value} (h:Trio w G y0 y1 y2) (u:Value):Trio (w.setCell ⟨G,2,none⟩ u) G y0 y1 u:=by
 unfold Trio at *;simp [World.setCell,Array.getElem?_modify,h]
theorem Trio.other {w:World} {G G':Nat} {y0 y1 y2:Value} (h:Trio w G y0 y1 y2) (i:Nat) (u:Value) (hne:G'≠G):Trio (w.setCell ⟨G',i,none⟩ u) G y0 y1 y2:=by
 unfold Trio at *;simp only [World.setCell,Array.getElem?_modify];rw [if_neg hne];exact h
theorem Acc.setNew {w0 w:World} {B:Nat} {v:Value} (h:Acc w0 w B v) (G i:Nat) (u:Value) (hG:w0.heap.size≤G):Acc w0 (w.setCell ⟨G,i,none⟩ u) B v:=by
 have hne:G≠B:=by have:=h.old;omega
 refine ⟨h.os,h.tape,h.output,by simp [World.setCell];exact h.size,fun k hk hB=>?_,h.old,?_,?_⟩
 ·simp only [World.setCell,Array.getElem?_modify];rw [if_neg (by omega)];exact h.block k hk hB
 ·rw [World.cell?_setCell_other]
  ·exact h.cell
  ·intro e;exact hne (congrArg Addr.block e)
 ·rw [World.frozen?_setCell];exact h.free
theorem Acc.alloc {w0 w:World} {B:Nat} {v:Value} (h:Acc w0 w B v) (o:Obj):Acc w0 (w.alloc o) B v:=by
 have hlt:∀ k,k<w.heap.size→(w.alloc o).heap[k]?=w.heap[k]?:=fun k hk=>by
  show (w.heap.push o)[k]?=_;rw [Array.getElem?_push,if_neg (by omega)]
 have hB:=Nat.lt_of_lt_of_le h.old h.size;refine ⟨h.os,h.tape,h.output,?_,fun k hk hB=>?_,h.old,?_,?_⟩
 ·show _≤(w.heap.push o).size;have:=h.size;simp;omega
 ·rw [hlt k (Nat.lt_of_lt_of_le hk h.size)];exact h.block k hk hB
 ·rw [← h.cell];exact World.cell?_of_block (w:=w) (a:=⟨B,0,none⟩) (hlt B hB)
 ·have:((w.alloc o).frozen? ⟨B,0,none⟩)=w.frozen? ⟨B,0,none⟩:=by simp only [World.frozen?,hlt B hB]
  rw [this];exact h.free
theorem trio_a (w:World) (x y z:Value) (o:Obj):Trio ((w.alloc (.cells #[x,y,z] 131)).alloc o) w.heap.size x y z:=by
 show ((w.heap.push _).push o)[w.heap.size]?=_;rw [Array.getElem?_push,if_neg (by simp),Array.getElem?_push_size]
theorem trio_b (w:World) (o:Obj) (x y z:Value):Trio ((w.alloc o).alloc (.cells #[x,y,z] 131)) (w.heap.size+1) x y z:=by
 show ((w.heap.push o).push _)[w.heap.size+1]?=_;have:w.heap.size+1=(w.heap.push o).size:=by simp
 rw [this,Array.getElem?_push_size]
theorem upward_any (K:Nat) (caps:Array Value) (B:Nat) (v0 v1 v2 v3:Value) (x0 x1 x2 y0 y1 y2:Int) (w:World) (h:Acc w w B v0) (hK:∀ args w,(callFunc K args).run Tryz.prog w = .ok (.enter K args) w)
  (s0:∀ w',Acc w w' B v0→Calls Tryz.prog K (#[.int .u32 x0]++caps) w' fun e w''=>e = .returned (.int .u32 y0)∧Acc w' w'' B v1)
  (s1:∀ w',Acc w w' B v1→Calls Tryz.prog K (#[.int .u32 x1]++caps) w' fun e w''=>e = .returned (.int .u32 y1)∧Acc w' w'' B v2)
  (s2:∀ w',Acc w w' B v2→Calls Tryz.prog K (#[.int .u32 x2]++caps) w' fun e w''=>e = .returned (.int .u32 y2)∧Acc w' w'' B v3) :
  Calls Tryz.prog 129 #[.agg #[.int .u32 x0,.int .u32 x1,.int .u32 x2],.func (.func K) #[] caps] w fun e w'=>e = .returned (.agg #[.int .u32 y0,.int .u32 y1,.int .u32 y2])∧Acc w w' B v3:=by
 have HS0:Hid (∀ w',Acc w w' B v0→Calls Tryz.prog K (#[.int .u32 x0]++caps) w' fun e w''=>e = .returned (.int .u32 y0)∧Acc w' w'' B v1):=s0;have HS1:Hid (∀ w',Acc w w' B v1→Calls Tryz.prog K (#[.int .u32 x1]++caps) w' fun e w''=>e = .returned (.int .u32 y1)∧Acc w' w'' B v2):=s1;have HS2:Hid (∀ w',Acc w w' B v2→Calls Tryz.prog K (#[.int .u32 x2]++caps) w' fun e w''=>e = .returned (.int .u32 y2)∧Acc w' w'' B v3):=s2;have HA:Hid (Acc w w B v0):=h;clear s0 s1 s2 h;go_enter Tryz.func129,Tryz.ntmps129;go_wp2_with fail;refine wp_loop_rounds 4 ?_;rw [rounds_succ];go_wp2_with fail;refine (HS0.o _ ((HA.o.alloc _).alloc _)).mono ?_;rintro e w1 ⟨rfl,h1⟩;have hB:=HA.o.old;have T1:Trio w1 w.heap.size (.int .u32 x0) (.int .u32 x1) (.int .u32 x2):=(trio_a _ _ _ _ _).acc h1 (by omega);have R1:Trio w1 (w.heap.size+1) (.int .u32 0) (.int .u32 0) (.int .u32 0):=(trio_b _ _ _ _ _).acc h1 (by omega);have A1:=((HA.o.alloc _).alloc _).trans h1;have c0:=T1.c0;have f0:=T1.free 0;have T1':=T1.set0 (.int .u32 y0);have d1:=T1'.c1;have HT:Hid (Trio (w1.setCell ⟨w.heap.size,0,none⟩ (.int .u32 y0)) w.heap.size (.int .u32 y0) (.int .u32 x1) (.int .u32 x2)):=T1';have HR:Hid (Trio (w1.setCell ⟨w.heap.size,0,none⟩ (.int .u32 y0)) (w.heap.size+1) (.int .u32 0) (.int .u32 0) (.int .u32 0)):=R1.other _ _ (by omega);have HA1:Hid (Acc w (w1.setCell ⟨w.heap.size,0,none⟩ (.int .u32 y0)) B v1):=A1.setNew _ _ _ (Nat.le_refl _);clear h1 T1 R1 A1 T1' HA HS0;go_wp2_with fail;rw [rounds_succ];go_wp2_with fail;refine (HS1.o _ HA1.o).mono ?_;rintro e w2 ⟨rfl,h2⟩;have T2:=HT.o.acc h2 (by omega);have R2:=HR.o.acc h2 (by omega);have A2:=HA1.o.trans h2;clear c0 f0 d1 HT HR HA1 HS1 h2;have c1:=T2.c1;have f1:=T2.free 1;have T2':=T2.set1 (.int .u32 y1);have d2:=T2'.c2;have HT:Hid (Trio (w2.setCell ⟨w.heap.size,1,none⟩ (.int .u32 y1)) w.heap.size (.int .u32 y0) (.int .u32 y1) (.int .u32 x2)):=T2';have HR:Hid (Trio (w2.setCell ⟨w.heap.size,1,none⟩ (.int .u32 y1)) (w.heap.size+1) (.int .u32 0) (.int .u32 0) (.int .u32 0)):=R2.other _ _ (by omega)
 have HA2:Hid (Acc w (w2.setCell ⟨w.heap.size,1,none⟩ (.int .u32 y1)) B v2):=A2.setNew _ _ _ (Nat.le_refl _);clear T2 R2 A2 T2';go_wp2_with fail;rw [rounds_succ];go_wp2_with fail;refine (HS2.o _ HA2.o).mono ?_;rintro e w3 ⟨rfl,h3⟩;have T3:=HT.o.acc h3 (by omega);have R3:=HR.o.acc h3 (by omega);have A3:=HA2.o.trans h3;clear c1 f1 d2 HT HR HA2 HS2 h3;have c2:=T3.c2;have f2:=T3.free 2;have T3':=T3.set2 (.int .u32 y2);have R3':=R3.other (G':=w.heap.size) 2 (.int .u32 y2) (by omega);have e0:=T3'.c0;have e1:=T3'.c1;have e2:=T3'.c2;have r0:=R3'.c0;have r1:=R3'.c1;have r2:=R3'.c2;have g0:=R3'.free 0;have g1:=R3'.free 1;have g2:=R3'.free 2;have HR3:Hid (Trio (w3.setCell ⟨w.heap.size,2,none⟩ (.int .u32 y2)) (w.heap.size+1) (.int .u32 0) (.int .u32 0) (.int .u32 0)):=R3';have HA3:Hid (Acc w (w3.setCell ⟨w.heap.size,2,none⟩ (.int .u32 y2)) B v3):=A3.setNew _ _ _ (Nat.le_refl _);clear T3 R3 A3 T3' R3';go_wp2_with fail;rw [rounds_succ];go_wp2_with fail;have RR:=((HR3.o.set0 (.int .u32 y0)).set1 (.int .u32 y1)).set2 (.int .u32 y2);have AA:=((HA3.o.setNew (w.heap.size+1) 0 (.int .u32 y0) (by omega)).setNew (w.heap.size+1) 1 (.int .u32 y1) (by omega)).setNew (w.heap.size+1) 2 (.int .u32 y2) (by omega);refine bodyPost_ret (v:= .agg #[.int .u32 y0,.int .u32 y1,.int .u32 y2]) (by simp [results,Tryz.results129,RR.c0,RR.c1,RR.c2,go_sem]) rfl ⟨rfl,AA⟩
theorem below_set {B:Nat} {w w':World} (h:Below B w w') (G i:Nat) (u:Value) (hG:B≤G):Below B w (w'.setCell ⟨G,i,none⟩ u):=by
 refine ⟨h.os,h.tape,h.output,by simp [World.setCell];exact h.size,fun k hk=>?_⟩;rw [← h.block k hk];simp only [World.setCell,Array.getElem?_modify];rw [if_neg (by omega)]
theorem Acc.below {w0 w1 w:World} {B:Nat} {v:Value} (hb:Below w0.heap.size w0 w1) (h:Acc w1 w B v) (hB:w0.heap.size≤B):Below w0.heap.size w0 w:=
 hb.trans ⟨h.os,h.tape,h.output,h.size,fun k hk=>h.block k (Nat.lt_of_lt_of_le hk hb.size) (by omega)⟩
theorem Trio.alloc {w:World} {G:Nat} {y0 y1 y2:Value} (h:Trio w G y0 y1 y2) (o:Obj):Trio (w.alloc o) G y0 y1 y2:=by
 have hlt:G<w.heap.size:=by
  by_cases hh:G<w.heap.size
  ·exact hh
  ·unfold Trio at h;rw [Array.getElem?_eq_none (by omega)] at h;cases h
 unfold Trio at *;show (w.heap.push o)[G]?=_;rw [Array.getElem?_push,if_neg (by omega)];exact h
theorem below_put {B:Nat} {w w':World} (h:Below B w w') (G i j k:Nat) (u v x:Value) (hG:B≤G):Below B w (((w'.setCell ⟨G,i,none⟩ u).setCell ⟨G,j,none⟩ v).setCell ⟨G,k,none⟩ x).drew:=
 (below_set (below_set (below_set h G i u hG) G j v hG) G k x hG).drew
theorem bel2 (w:World) (o1 o2:Obj):Below w.heap.size w ((w.alloc o1).alloc o2):=((Below.refl _ _).alloc (Nat.le_refl _) o1).alloc (by simp) o2
theorem bel3 (w:World) (o1 o2 o3:Obj):Below w.heap.size w (((w.alloc o1).alloc o2).alloc o3):=(bel2 w o1 o2).alloc (by simp;omega) _
theorem Acc.keep {w0 w:World} {B M:Nat} {v u:Value} (h:Acc w0 w B v) (hc:w0.cell? ⟨M,0,none⟩=some u) (hM:M≠B):w.cell? ⟨M,0,none⟩=some u:=by
 have hlt:M<w0.heap.size:=by
  by_cases hh:M<w0.heap.size
  ·exact hh
  ·simp [World.cell?,Array.getElem?_eq_none (show w0.heap.size≤M by omega)] at hc
 rw [← hc];exact World.cell?_of_block (w:=w0) (a:=⟨M,0,none⟩) (h.block M hlt hM)
theorem bel4 (w:World) (o1 o2 o3 o4:Obj):Below w.heap.size w ((((w.alloc o1).alloc o2).alloc o3).alloc o4):=(bel3 w o1 o2 o3).alloc (by simp;omega) _
theorem trio_d (w:World) (cs:Array Value) (m:Value) (T:TypeId) (x y z u:Value) (U:TypeId) :
  (((((w.alloc (.cells cs 131)).alloc (.cells #[m] T)).alloc (.cells #[x,y,z] 131)).alloc (.cells #[u] U)).cell? ⟨w.heap.size+1+1+1,0,none⟩=some u) ∧
  (((((w.alloc (.cells cs 131)).alloc (.cells #[m] T)).alloc (.cells #[x,y,z] 131)).alloc (.cells #[u] U)).frozen? ⟨w.heap.size+1+1+1,0,none⟩=false) ∧
  Trio ((((w.alloc (.cells cs 131)).alloc (.cells #[m] T)).alloc (.cells #[x,y,z] 131)).alloc (.cells #[u] U)) (w.heap.size+1+1) x y z ∧
  ((((w.alloc (.cells cs 131)).alloc (.cells #[m] T)).alloc (.cells #[x,y,z] 131)).alloc (.cells #[u] U)).cell? ⟨w.heap.size+1,0,none⟩=some m:=by
 have s1:w.heap.size+1=(w.heap.push (.cells cs 131)).size:=by simp
 have s2:w.heap.size+1+1=((w.heap.push (.cells cs 131)).push (.cells #[m] T)).size:=by simp
 have s3:w.heap.size+1+1+1=(((w.heap.push (.cells cs 131)).push (.cells #[m] T)).push (.cells #[x,y,z] 131)).size:=by simp
 have e:((((w.heap.push (.cells cs 131)).push (.cells #[m] T)).push (.cells #[x,y,z] 131)).push (.cells #[u] U))[w.heap.size+1+1+1]?=some (.cells #[u] U):=by
  rw [s3,Array.getElem?_push_size]
 have em:((((w.heap.push (.cells cs 131)).push (.cells #[m] T)).push (.cells #[x,y,z] 131)).push (.cells #[u] U))[w.heap.size+1]?=some (.cells #[m] T):=by
  rw [Array.getElem?_push,if_neg (by simp),Array.getElem?_push,if_neg (by simp),s1,Array.getElem?_push_size]
 refine ⟨?_,?_,?_,?_⟩
 ·simp only [World.cell?,World.alloc,e];rfl
 ·simp only [World.frozen?,World.alloc,e];rfl
 ·show ((((w.heap.push _).push _).push _).push _)[w.heap.size+1+1]?=_;rw [Array.getElem?_push,if_neg (by simp),s2,Array.getElem?_push_size]
 ·simp only [World.cell?,World.alloc,em];rfl
end words
namespace token
open Go.RowKit
theorem bel_box (w:World) (o:Obj):Below w.heap.size w (w.alloc o):=(Below.refl _ _).alloc (Nat.le_refl _) o
end token
end Go.Proofs.YtnpblpbohcegoaaGreatDoor
