import Derived.Test.YtnpblpbohcegoaaGreatDoorVBGws4
set_option linter.unusedVariables false
set_option linter.unusedSimpArgs false
set_option maxHeartbeats 4000000
set_option maxRecDepth 100000
namespace Go.Proofs.YtnpblpbohcegoaaGreatDoor
namespace ora
open Go.RowKit
def PrAt (w:World) (b o:Nat) (p:Pr):Prop:=w.cell? ⟨b,o,none⟩=some (zI p.m)∧w.cell? ⟨b,o+1,none⟩=some (zI p.r)∧w.cell? ⟨b,o+2,none⟩=some (zI p.b)∧w.cell? ⟨b,o+3,none⟩=some (zI p.t)
theorem PrAt.below {w w':World} {b o:Nat} {p:Pr} (h:PrAt w b o p) (hb:Below w.heap.size w w'):PrAt w' b o p:=by
 have hl:b<w.heap.size:=World.block_lt_of_cell? w _ h.1;exact ⟨(hb.cell (p:=⟨b,o,none⟩) hl).trans h.1,(hb.cell (p:=⟨b,o+1,none⟩) hl).trans h.2.1,(hb.cell (p:=⟨b,o+2,none⟩) hl).trans h.2.2.1,(hb.cell (p:=⟨b,o+3,none⟩) hl).trans h.2.2.2⟩
def RowP (w:World) (a:Option Addr) (len:Nat) (ps:List Pr):Prop:=
 ps.length=len∧(len=0∨∃ b off,a=some ⟨b,off,none⟩∧∀ i,i<len→PrAt w b (off+i*4) (ps.getD i pr0))
theorem RowP.below {w w':World} {a:Option Addr} {n:Nat} {ps:List Pr} (h:RowP w a n ps) (hb:Below w.heap.size w w'):RowP w' a n ps:=by
 refine ⟨h.1,?_⟩;rcases h.2 with h0 | ⟨b,off,rfl,hc⟩
 ·exact .inl h0
 ·exact .inr ⟨b,off,rfl,fun i hi=>(hc i hi).below hb⟩
theorem RowP.nil (w:World) (a:Option Addr):RowP w a 0 []:=⟨rfl,.inl rfl⟩
theorem RowP.at {w:World} {a:Option Addr} {n:Nat} {ps:List Pr} (h:RowP w a n ps) (h0:0<n):∃ b off,a=some ⟨b,off,none⟩∧b<w.heap.size∧∀ i,i<n→PrAt w b (off+i*4) (ps.getD i pr0):=by
 rcases h.2 with h1 | ⟨b,off,rfl,hc⟩
 ·omega
 ·exact ⟨b,off,rfl,World.block_lt_of_cell? w _ (hc 0 h0).1,hc⟩
def cellsP:List Pr→List Value
 | []=>[]
 | p :: l=>zI p.m :: zI p.r :: zI p.b :: zI p.t :: cellsP l
theorem cellsP_len (l:List Pr):(cellsP l).length=l.length*4:=by
 induction l with
 | nil=>rfl
 | cons e l ih=>simp [cellsP,ih];omega
theorem cellsP_app (l m:List Pr):cellsP (l++m)=cellsP l++cellsP m:=by
 induction l with
 | nil=>rfl
 | cons e l ih=>simp [cellsP,ih]
theorem oneP (l:List Pr):∀ u∈cellsP l,u.oneCell'=true:=by
 induction l with
 | nil=>intro u hu;cases hu
 | cons e l ih=>
  intro u hu;simp only [cellsP,List.mem_cons] at hu;rcases hu with rfl | rfl | rfl | rfl | hu
  ·rfl
  ·rfl
  ·rfl
  ·rfl
  ·exact ih u hu
theorem cellsP_at (l:List Pr) (k:Nat) (hk:k<l.length):(cellsP l)[k*4]?=some (zI (l.getD k pr0).m)∧(cellsP l)[k*4+1]?=some (zI (l.getD k pr0).r)∧(cellsP l)[k*4+2]?=some (zI (l.getD k pr0).b)∧(cellsP l)[k*4+3]?=some (zI (l.getD k pr0).t):=by
 induction l generalizing k with
 | nil=>simp at hk
 | cons x l ih=>
  cases k with
  | zero=>exact ⟨rfl,rfl,rfl,rfl⟩
  | succ k=>
   rw [show (k+1)*4=k*4+1+1+1+1 by omega];have:=ih k (by simpa using hk);simpa [cellsP] using this
theorem cellsP_get {w:World} {b off len:Nat} {ps:List Pr} (hz:ps.length=len) (hc:∀ i,i<len→PrAt w b (off+i*4) (ps.getD i pr0)) (j:Nat) (u:Value) (hu:(cellsP ps)[j]?=some u):w.cell? ⟨b,off+j,none⟩=some u:=by
 have hj:j<(cellsP ps).length:=by
  by_cases h:j<(cellsP ps).length
  ·exact h
  ·rw [List.getElem?_eq_none (by omega)] at hu;cases hu
 rw [cellsP_len] at hj;have h1:=cellsP_at ps (j / 4) (by omega);have h2:=hc (j / 4) (by omega);have e:j % 4=0∨j % 4=1∨j % 4=2∨j % 4=3:=by omega
 unfold PrAt at h2;rcases e with e | e | e | e
 ·have e2:j / 4*4=j:=by omega
  rw [e2] at h1 h2;rw [h1.1] at hu;rw [h2.1];exact hu
 ·have e2:j / 4*4+1=j:=by omega
  rw [Nat.add_assoc off,e2] at h2;rw [e2] at h1;rw [h1.2.1] at hu;rw [h2.2.1];exact hu
 ·have e2:j / 4*4+2=j:=by omega
  rw [Nat.add_assoc off (j / 4*4) 2,e2] at h2;rw [e2] at h1;rw [h1.2.2.1] at hu;rw [h2.2.2.1];exact hu
 ·have e2:j / 4*4+3=j:=by omega
  rw [Nat.add_assoc off (j / 4*4) 3,e2] at h2;rw [e2] at h1;rw [h1.2.2.2] at hu;rw [h2.2.2.2];exact hu
def Pw (w:World) (base:Nat) (v:Value) (l:List Pr):Prop:=w.ownsRow base 279 4 v l.length (cellsP l)
theorem Pw.zero (w:World) (base:Nat):Pw w base (zS) []:=World.ownsRow_nil _ _ _ _
theorem Pw.alloc {w:World} {base:Nat} {v:Value} {l:List Pr} (h:Pw w base v l) (o:Obj):Pw (w.alloc o) base v l:=World.ownsRow.alloc h o
theorem Pw.low {w:World} {base base':Nat} {v:Value} {l:List Pr} (h:Pw w base v l) (hb:base'≤base):Pw w base' v l:=by
 refine ⟨h.1,?_⟩;rcases h.2 with hn | ⟨g,cap,cur,hv,hg,rest⟩
 ·exact .inl hn
 ·exact .inr ⟨g,cap,cur,hv,by omega,rest⟩
theorem Pw.put {w:World} {base:Nat} {v:Value} {l:List Pr} (h:Pw w base v l) (G i:Nat) (u:Value) (hG:G<base):Pw (w.setCell ⟨G,i,none⟩ u) base v l:=by
 refine ⟨h.1,?_⟩;rcases h.2 with hn | ⟨g,cap,cur,hv,hg,hc,rest⟩
 ·exact .inl hn
 ·exact .inr ⟨g,cap,cur,hv,hg,Blk.other hc i u (by omega),rest⟩
theorem Pw.row {w:World} {base:Nat} {v:Value} {l:List Pr} (h:Pw w base v l):∃ a cap,v = .slice a l.length cap∧RowP w a l.length l∧(a=none→cap=0)∧l.length≤cap:=by
 rcases h.2 with ⟨hv,hn⟩ | ⟨g,cap,cur,hv,_,_,h1,_⟩
 ·exact ⟨none,0,by rw [hn];exact hv,⟨rfl,.inl hn⟩,fun _=>rfl,by omega⟩
 ·subst hv;refine ⟨_,cap,rfl,⟨rfl,.inr ⟨g,0,rfl,fun i hi=>?_⟩⟩,(fun h=>by cases h),h1⟩;have e1:=World.ownsRow.cellAt h (i*4) (by omega);have e2:=World.ownsRow.cellAt h (i*4+1) (by omega);have e3:=World.ownsRow.cellAt h (i*4+2) (by omega);have e4:=World.ownsRow.cellAt h (i*4+3) (by omega);unfold PrAt;rw [Nat.zero_add,e1,e2,e3,e4];exact cellsP_at l i hi
theorem pown_far {w:World} {base n k:Nat} {t:TypeId} {v:Value} {l:List Value} (h:w.ownsRow base t n v k l) {G:Nat} (hG:G<base):some G≠v.ownBlock:=by
 intro e;have:=(World.ownsRow.lt h G e.symm).1;omega
theorem pown_bel {w0 w w':World} {base B n k:Nat} {t:TypeId} {v:Value} {l:List Value} (h:w.ownsRow base t n v k l) (hg:w.grownBy w' v.ownBlock) (hb:Below B w0 w) (hB:B≤base) (hw:B≤w.heap.size):Below B w0 w':=by
 refine ⟨hg.os.trans hb.os,hg.tape.trans hb.tape,hg.output.trans hb.output,Nat.le_trans hb.size hg.size,fun k hk=>?_⟩;rw [← hb.block k hk];exact hg.block k (by omega) (pown_far h (by omega))
theorem palloc_le {w:World} {B:Nat} (h:B≤w.heap.size) (o:Obj):B≤(w.alloc o).heap.size:=by simp;omega
theorem pr_cell (w:World) (m r b t:Int):PrAt (w.alloc (.cells #[zI m,zI r,zI b,zI t] 279)) w.heap.size 0 ⟨m,r,b,t⟩:=
 ⟨(Blk.new w _ _).cell 0,(Blk.new w _ _).cell 1,(Blk.new w _ _).cell 2,(Blk.new w _ _).cell 3⟩
theorem info_pr:(Tryz.prog.info? 279).map (fun i=>(i.zero,i.size,i.bytes))=some (some (.agg #[zI 0,zI 0,zI 0,zI 0]),4,32):=by kernel_rfl
set_option maxRecDepth 100000
def Told (w : World) (P : Prop) (e : Ending) (w' : World) : Prop := ∃ r : Bool, e = .returned (.bool r) ∧ (r = true ↔ P) ∧ Below w.heap.size w w'
theorem Told.yes {w w' : World} {P : Prop} (h : P) (hb : Below w.heap.size w w') : Told w P (.returned (.bool true)) w' := ⟨true, rfl, by simp [h], hb⟩
theorem Told.no {w w' : World} {P : Prop} (h : ¬ P) (hb : Below w.heap.size w w') : Told w P (.returned (.bool false)) w' := ⟨false, rfl, by simp [h], hb⟩
structure Bo (w wr : World) (a : Option Addr) (n cap : Nat) (l : List Pr) : Prop where
 box : Blk wr w.heap.size #[.slice a n cap] 39
 row : RowP wr a n l
 bel : Below w.heap.size w wr
theorem Bo.next {w wr w' : World} {a : Option Addr} {n cap : Nat} {l : List Pr} (h : Bo w wr a n cap l) (hb : Below wr.heap.size wr w') : Bo w w' a n cap l := ⟨h.box.next hb, h.row.below hb, bel_step h.bel hb⟩
theorem Bo.alloc {w wr : World} {a : Option Addr} {n cap : Nat} {l : List Pr} (h : Bo w wr a n cap l) (o : Obj) : Bo w (wr.alloc o) a n cap l := h.next ((Below.refl _ _).alloc (Nat.le_refl _) _)
theorem Bo.new {w : World} {a : Option Addr} {n cap : Nat} {l : List Pr} (h : RowP w a n l) : Bo w (w.alloc (.cells #[.slice a n cap] 39)) a n cap l :=
 ⟨Blk.new w _ _, h.below ((Below.refl _ _).alloc (Nat.le_refl _) _), (Below.refl _ _).alloc (Nat.le_refl _) _⟩
theorem take_nextP (l : List Pr) (k : Nat) (h : k < l.length) : l.take k ++ [⟨(l.getD k pr0).m, (l.getD k pr0).r, (l.getD k pr0).b, (l.getD k pr0).t⟩] = l.take (k + 1) := by
 rw [List.take_succ_eq_append_getElem h]
 congr 2
 simp [List.getD, List.getElem?_eq_getElem h]
structure Bi (w wr : World) (a : Option Addr) (n cap : Nat) (l : List Pr) : Prop where
 bo : Bo w wr a n cap l
 out : Blk wr (w.heap.size + 1) #[.slice none 0 0] 39
theorem Bi.next {w wr w' : World} {a : Option Addr} {n cap : Nat} {l : List Pr} (h : Bi w wr a n cap l) (hb : Below wr.heap.size wr w') : Bi w w' a n cap l := ⟨h.bo.next hb, h.out.next hb⟩
theorem Bi.alloc {w wr : World} {a : Option Addr} {n cap : Nat} {l : List Pr} (h : Bi w wr a n cap l) (o : Obj) : Bi w (wr.alloc o) a n cap l := h.next ((Below.refl _ _).alloc (Nat.le_refl _) _)
theorem Pw.put2 {w : World} {base G : Nat} {v : Value} {l : List Pr} {cs : Array Value} {t : TypeId} (h : Pw w base v l) (hB : Blk w G cs t) (ht : t ≠ 279) (i : Nat) (u : Value) : Pw (w.setCell ⟨G, i, none⟩ u) base v l := by
 refine ⟨h.1, ?_⟩
 rcases h.2 with hn | ⟨g, cap, cur, hv, hg, hc, rest⟩
 ·exact .inl hn
 ·refine .inr ⟨g, cap, cur, hv, hg, Blk.other hc i u (fun e => ?_), rest⟩
  subst e
  have := hB.symm.trans hc
  simp only [Option.some.injEq, Obj.cells.injEq] at this
  exact ht this.2.1
structure Came (w : World) (a : Option Addr) (n cap : Nat) (l : List Pr) : Prop where
 row : RowP w a n l
 nil : a = none → cap = 0
 le : n ≤ cap
 small : n * 32 ≤ 140737488351232
theorem Came.below {w w' : World} {a : Option Addr} {n cap : Nat} {l : List Pr} (h : Came w a n cap l) (hb : Below w.heap.size w w') : Came w' a n cap l := ⟨h.row.below hb, h.nil, h.le, h.small⟩
end ora
namespace tar
open Go.RowKit
abbrev Ln:={ t:Tr // LineOk t }
def encL (t:Ln):Array Value:=#[.agg #[zI t.1.a,zI t.1.b,zI t.1.c]]
def lns (l:List Ln):List Tr:=l.map (fun t=>t.1)
theorem lns_app (l m:List Ln):lns (l++m)=lns l++lns m:=by unfold lns;rw [List.map_append]
theorem lns_len (l:List Ln):(lns l).length=l.length:=by unfold lns;rw [List.length_map]
theorem lns_ok (l:List Ln):∀ t∈lns l,LineOk t:=fun t ht=>by
 unfold lns at ht;obtain ⟨s,_,rfl⟩:=List.mem_map.1 ht;exact s.2
def Kq (n lo hi:Nat) (W W':World):Prop:=Below n W W'∧∀ j,lo≤j→j<hi→W'.heap[j]?=W.heap[j]?
theorem Kq.trans {n lo hi:Nat} {A B C:World} (h:Kq n lo hi A B) (k:Kq n lo hi B C):Kq n lo hi A C:=⟨h.1.trans k.1,fun j a b=>(k.2 j a b).trans (h.2 j a b)⟩
theorem nxt_yes {l:List Du} (h:Right l) (x y:Int) (hx:0≤x) (hxy:x≤y) (k:Nat) (hk:k<l.length) (hp:0<min (l.getD k du0).a y - (x+manyK l x y k)):min (l.getD k du0).a y - (x+manyK l x y k)=ov (low l k) (l.getD k du0).a x y:=by
 have h1:=many_eq h x y hx hxy k (by omega);have h2:=h.rise k hk;have h3:=h.low_pos k (by omega);rw [h1] at hp ⊢;unfold ov;omega
theorem nxt_no {l:List Du} (h:Right l) (x y:Int) (hx:0≤x) (hxy:x≤y) (k:Nat) (hk:k<l.length) (hp:¬ 0<min (l.getD k du0).a y - (x+manyK l x y k)):ov (low l k) (l.getD k du0).a x y=0:=by
 have h1:=many_eq h x y hx hxy k (by omega);have h2:=h.rise k hk;have h3:=h.low_pos k (by omega);rw [h1] at hp;unfold ov;omega
theorem many_next (l:List Du) (x y:Int) (k:Nat):manyK l x y (k+1)=manyK l x y k+ov (low l k) (l.getD k du0).a x y:=rfl
theorem many_bd {l:List Du} (h:Right l) (x y:Int) (hx:0≤x) (hxy:x≤y) (k:Nat) (hk:k≤l.length):0≤manyK l x y k∧manyK l x y k≤y - x:=by
 rw [many_eq h x y hx hxy k hk];omega
theorem line_ok {l:List Du} (h:Right l) (x y:Int) (k:Nat) (hk:k<l.length) (hp:0<ov (low l k) (l.getD k du0).a x y):LineOk ⟨ov (low l k) (l.getD k du0).a x y,(l.getD k du0).b,ov (low l k) (l.getD k du0).a x y*(l.getD k du0).b⟩:=by
 have h1:=h.price k hk;have h2:=h.upto k hk;have h3:=h.low_pos k (by omega);exact ⟨by show 1≤ov _ _ _ _;omega,ov_le _ _ _ _ h3 h2.2,h1.1,h1.2,rfl⟩
theorem bill_prefix (l:List Du) (x y:Int) (k m:Nat) (hkm:k≤m):billK l x y k <+: billK l x y m:=by
 induction m with
 | zero=>
  have:k=0:=by omega
  subst this;exact List.prefix_refl _
 | succ m ih=>
  by_cases e:k=m+1
  ·subst e;exact List.prefix_refl _
  ·exact (ih (by omega)).trans (List.prefix_append (billK l x y m) (if 0<ov (low l m) (l.getD m du0).a x y then [⟨ov (low l m) (l.getD m du0).a x y,(l.getD m du0).b,ov (low l m) (l.getD m du0).a x y*(l.getD m du0).b⟩] else []))
open Go.Shelf
attribute [local go_sem] Oper.semAt_some
theorem boxed_same {W W':World} {B:Nat} {t:TypeId} {v:Value} (h:Boxed W B t v) (e:W'.heap[B]?=W.heap[B]?):Boxed W' B t v:=e.trans h
theorem lines1_in (F:Fence) (n:Nat) (hF:F.fn 203) (hro:F.round=none) (hn:1≤n) (l Bf Bt Bu n₀ lo hi b off len cap B0:Nat) (ls:List Du) (x u:Int) (J Jx:List Ln→World→Prop)
  (hR:Right ls) (hlen:ls.length=len) (hx:0≤x∧x≤10000000) (hu:0≤u∧x+u≤10000000) (hJ:AbidesFrom B0 J)
  (hY:∀ pre t W,J pre W→pre.length<len→YieldAt F (n - 1) Tryz.prog l (encL t) W fun e W'=>
   (e = .returned (.bool true)∧J (pre++[t]) W'∧Kq n₀ lo hi W W')∨(e = .returned (.bool false)∧Jx (pre++[t]) W'))
  (W:World) (hf:Boxed W Bf 3 (zI x)) (ht:Boxed W Bt 22 (.slice (some ⟨b,off,none⟩) len cap)) (hun:Boxed W Bu 3 (zI u)) (h1:lo≤Bf∧Bf<hi) (h2:lo≤Bu∧Bu<hi) (hb:b<n₀) (hnW:n₀≤W.heap.size)
  (hc:∀ i,i<len→W.cell? ⟨b,off+i*2,none⟩=some (zI (ls.getD i du0).a)∧W.cell? ⟨b,off+i*2+1,none⟩=some (zI (ls.getD i du0).b)) (h0:J [] W) :
  CallsIn F n Tryz.prog 203 #[.func (.yield l) #[] #[],.pointer (some ⟨Bf,0,none⟩),.pointer (some ⟨Bt,0,none⟩),.pointer (some ⟨Bu,0,none⟩)] W fun e W'=>(∃ v,e = .returned v) ∧
   ((∃ ys,lns ys=billK ls x (x+u) len∧J ys W')∨(∃ pre,lns pre <+: billK ls x (x+u) len∧Jx pre W')):=by
 have HR:Hid (Right ls):=hR
 have HY:Hid (∀ pre t W,J pre W→pre.length<len→YieldAt F (n - 1) Tryz.prog l (encL t) W fun e W'=>
   (e = .returned (.bool true)∧J (pre++[t]) W'∧Kq n₀ lo hi W W')∨(e = .returned (.bool false)∧Jx (pre++[t]) W')):=hY
 have HJ:Hid (AbidesFrom B0 J):=hJ;have HC:Hid (∀ i,i<len→W.cell? ⟨b,off+i*2,none⟩=some (zI (ls.getD i du0).a)∧W.cell? ⟨b,off+i*2+1,none⟩=some (zI (ls.getD i du0).b)):=hc;have HLEN:Hid (ls.length=len):=hlen;have hl8:len≤8:=by have:=hR.1.2;omega
 have ct:=ht.cell;have cf:=hf.cell;obtain ⟨hx0,hx1⟩:=hx;obtain ⟨hu0,hu1⟩:=hu;have HX:Hid (0≤x∧x≤x+u∧x+u≤10000000):=⟨hx0,by omega,hu1⟩
 clear hR hY hJ hc hlen;refine callsIn_of_wp Tryz.func203 rfl hF ?_ hro;simp only [Tryz.ntmps203,List.size_toArray,List.length_cons,List.length_nil,Nat.reduceAdd,Nat.reduceSub,Array.replicate_succ,Array.replicate_zero,List.push_toArray,List.append_toArray,List.nil_append,List.cons_append]
 gi_wp2
 gi_loopw [5,12] (fun r i wr=>∃ (k:Nat) (pre:List Ln),k≤len∧i=zI (k:Int)∧r=zI (x+manyK ls x (x+u) k)∧lns pre=billK ls x (x+u) k∧J pre wr∧Boxed wr Bf 3 (zI x)∧Boxed wr Bu 3 (zI u)∧Below n₀ W wr) (fun _ i _=>len - (intOf i).toNat)
 case atStart=>exact ⟨0,[],Nat.zero_le _,rfl,by show _=Value.int .i64 (x+0);rw [Int.add_zero],rfl,h0,hf,hun,Below.refl _ _⟩
 case round=>
  obtain ⟨k,pre,hk,rfl,rfl,hpre,hj,hbf,hbu,hbl⟩:=hrel;have HPRE:Hid (lns pre=billK ls x (x+u) k):=hpre;have HJP:Hid (J pre wr):=hj;have HBF:Hid (Boxed wr Bf 3 (zI x)):=hbf;have HBU:Hid (Boxed wr Bu 3 (zI u)):=hbu;have HBL:Hid (Below n₀ W wr):=hbl;clear hpre hj hf hun ht ct cf;by_cases hlt:k<len
  ·have hdl:decide ((k:Int)<(len:Int))=true:=by simp;omega
   have c0:wr.cell? ⟨b,off+k*2,none⟩=some (zI (ls.getD k du0).a):=(hbl.cell (p:=⟨b,off+k*2,none⟩) hb).trans (HC.o k hlt).1;have c1:wr.cell? ⟨b,off+k*2+1,none⟩=some (zI (ls.getD k du0).b):=(hbl.cell (p:=⟨b,off+k*2+1,none⟩) hb).trans (HC.o k hlt).2;have hkl:k<ls.length:=by rw [HLEN.o];exact hlt
   have hpr:=HR.o.price k hkl;have hup:=HR.o.upto k hkl;have hmb:=many_bd HR.o x (x+u) hx0 (by omega) k (by omega);have hmin:=run_min (ls.getD k du0).a (x+u) _ rfl
   have hpl:pre.length<len:=by
    have e1:=lns_len pre;have e2:=bill_len ls x (x+u) k;rw [HPRE.o] at e1;omega
   have HBA:Hid (∀ o,Below n₀ W (wr.alloc o)):=fun o=>hbl.alloc (Nat.le_trans hnW hbl.size) o;have cf:∀ o,(wr.alloc o).cell? ⟨Bf,0,none⟩=some (zI x):=fun o=>(hbf.alloc o).cell;have cu:∀ o,(wr.alloc o).cell? ⟨Bu,0,none⟩=some (zI u):=fun o=>(hbu.alloc o).cell;have HFA:Hid (∀ o,Boxed (wr.alloc o) Bf 3 (zI x)):=fun o=>hbf.alloc o;have HUA:Hid (∀ o,Boxed (wr.alloc o) Bu 3 (zI u)):=fun o=>hbu.alloc o;have HJA:Hid (∀ o,J pre (wr.alloc o)):=fun o=>HJ.o pre wr _ none HJP.o (World.grownBy_alloc wr o none) (fun r e=>by cases e);clear hbf hbu hbl;by_cases hp:0<min (ls.getD k du0).a (x+u) - (x+manyK ls x (x+u) k)
   ·have ho:=nxt_yes HR.o x (x+u) hx0 (by omega) k hkl hp;have hp2:=hp;rw [ho] at hp2;have hok:=line_ok HR.o x (x+u) k hkl hp2;have HN:Hid (billK ls x (x+u) (k+1)=billK ls x (x+u) k++[⟨ov (low ls k) (ls.getD k du0).a x (x+u),(ls.getD k du0).b,ov (low ls k) (ls.getD k du0).a x (x+u)*(ls.getD k du0).b⟩]):=billK_yes ls x (x+u) k hp2;have HM:Hid (manyK ls x (x+u) (k+1)=manyK ls x (x+u) k+ov (low ls k) (ls.getD k du0).a x (x+u)):=many_next ls x (x+u) k;have hm2:=many_bd HR.o x (x+u) hx0 (by omega) (k+1) (by omega);rw [HM.o] at hm2;have hle:=ov_le (low ls k) (ls.getD k du0).a x (x+u) (HR.o.low_pos k (by omega)) hup.2;have hpb:=prod_bd (Int.le_of_lt hp2) hle hpr.1 hpr.2;generalize ov (low ls k) (ls.getD k du0).a x (x+u)=o at *;generalize manyK ls x (x+u) k=mk at *;generalize (ls.getD k du0).a=up at *;generalize (ls.getD k du0).b=p at *;generalize min up (x+u)=m at *;have hm:m - (x+mk)=o:=ho;have hdo:decide (o≤0)=false:=by simp;omega
    have HQ:Hid (∀ C,YieldAt F (n - 1) Tryz.prog l (encL ⟨⟨o,p,o*p⟩,hok⟩) (wr.alloc C) fun e W'=>
     (e = .returned (.bool true)∧J (pre++[⟨⟨o,p,o*p⟩,hok⟩]) W'∧Kq n₀ lo hi (wr.alloc C) W')∨(e = .returned (.bool false)∧Jx (pre++[⟨⟨o,p,o*p⟩,hok⟩]) W')):=fun C=>HY.o pre ⟨⟨o,p,o*p⟩,hok⟩ _ (HJA.o C) hpl
    obtain ⟨fn,tmps,assign,body,hy,hRd⟩:=HQ.o (.cells #[zI up,zI p] 198)
    have HNX:Hid (lns (pre++[⟨⟨o,p,o*p⟩,hok⟩])=billK ls x (x+u) (k+1)):=by
     show _=_;rw [lns_app,HPRE.o,HN.o];rfl
    have hpb0:=hpb.1;have hpb1:=hpb.2;have hxm0:0≤x+mk:=by omega
    have hxm1:x+mk≤10000000:=by omega
    have hm0:0≤m:=by omega
    have hm1:m≤20000000:=by omega
    have hs1:x+mk+o≤10000000:=by omega
    have ho0:0≤o:=by omega
    simp only [encL] at hy;clear ho hp HQ hmb hm2 hpb hpr hup
    gi_wp2
    refine hRd.mono ?_;rintro e W3 (⟨rfl,hJ3,hk3⟩ | ⟨rfl,hJx3⟩)
    ·have HB3:Hid (Below n₀ W W3):=(HBA.o _).trans hk3.1;have HF3:Hid (Boxed W3 Bf 3 (zI x)):=boxed_same (HFA.o _) (hk3.2 Bf h1.1 h1.2);have HU3:Hid (Boxed W3 Bu 3 (zI u)):=boxed_same (HUA.o _) (hk3.2 Bu h2.1 h2.2);have HJ3:Hid (J (pre++[⟨⟨o,p,o*p⟩,hok⟩]) W3):=hJ3;clear hk3 hJ3
     gi_wp2
     go_roundw
     case rel=>exact ⟨k+1,pre++[⟨⟨o,p,o*p⟩,hok⟩],by omega,by go_num,by rw [HM.o,Int.add_assoc],HNX.o,HJ3.o,HF3.o,HU3.o,HB3.o⟩
     case measure=>simp [intOf];omega
    ·have HJX:Hid (Jx (pre++[⟨⟨o,p,o*p⟩,hok⟩]) W3):=hJx3;clear hJx3
     gi_wp2
     refine bodyPost_ret (results_none rfl _ _ _) rfl ?_;exact ⟨⟨_,rfl⟩,.inr ⟨pre++[⟨⟨o,p,o*p⟩,hok⟩],by rw [HNX.o];exact bill_prefix ls x (x+u) (k+1) len (by omega),HJX.o⟩⟩
   ·have ho:=nxt_no HR.o x (x+u) hx0 (by omega) k hkl hp;have hmz:0≤min (ls.getD k du0).a (x+u):=by omega
    have HN:Hid (billK ls x (x+u) (k+1)=billK ls x (x+u) k):=billK_no ls x (x+u) k (by omega);have HM:Hid (manyK ls x (x+u) (k+1)=manyK ls x (x+u) k):=by show _=_;rw [many_next,ho,Int.add_zero]
    generalize manyK ls x (x+u) k=mk at *;generalize (ls.getD k du0).a=up at *;generalize (ls.getD k du0).b=p at *;generalize min up (x+u)=m at *;have hxm0:0≤x+mk:=by omega
    have hxm1:x+mk≤10000000:=by omega
    have hdo:decide (m - (x+mk)≤0)=true:=by simp;omega
    have hm0:0≤m:=hmz;have hm1:m≤20000000:=by omega
    clear ho hp hmb hpr hup
    gi_wp2
    go_roundw
    case rel=>exact ⟨k+1,pre,by omega,by go_num,by rw [HM.o],by rw [HN.o];exact HPRE.o,HJA.o _,HFA.o _,HUA.o _,HBA.o _⟩
    case measure=>simp [intOf];omega
  ·obtain rfl:k=len:=by omega
   have hdl:decide ((k:Int)<(k:Int))=false:=by simp
   clear hbf hbu hbl
   gi_wp2
   go_end0;exact ⟨⟨_,rfl⟩,.inl ⟨pre,HPRE.o,HJP.o⟩⟩
end tar
namespace book
open Go.RowKit
def leftE (v:Ev):Ev:=if v.kd=2 then ⟨0,0,0,0,0,0,0,0,0,0,0,v.ow,v.bp⟩ else if v.kd=3 then ⟨0,0,0,0,v.te,v.de,v.fe,v.pr,v.ch,0,0,v.ow,v.bp⟩ else if v.kd=4 then ⟨0,0,v.mo,0,v.te,v.de,v.fe,v.pr,v.ch,v.un,0,v.ow,v.bp⟩ else if v.kd=5 then ⟨0,0,v.mo,v.id,v.te,v.de,v.fe,v.pr,v.ch,v.un,v.tg,0,0⟩ else ⟨0,0,v.mo,v.id,v.te,v.de,v.fe,v.pr,v.ch,v.un,v.tg,v.ow,v.bp⟩
def Numd (id tg:Int):Prop:=(1≤id∧id≤1048575)∧0≤tg∧tg≤65535
def Unt (un:Int):Prop:=1≤un∧un≤2097151
def Mon (mo:Int):Prop:=0≤mo∧mo≤2399
def Mony (te de fe pr ch:Int):Prop:=(1≤te∧te≤100000000)∧((0≤de∧de≤100000000)∧(0≤fe∧fe≤100000000)∧(0≤pr∧pr≤100000000)∧0≤ch∧ch≤100000000)∧de+fe+pr+ch=te
def Dbt (ow bp:Int):Prop:=(1≤ow∧ow≤1000000000)∧0≤bp∧bp≤10000
def KindR (v:Ev):Prop:=v.kd=1∨(v.kd=2∧Mon v.mo∧Numd v.id v.tg∧Unt v.un∧Mony v.te v.de v.fe v.pr v.ch)∨(v.kd=3∧Mon v.mo∧Numd v.id v.tg∧Unt v.un)∨(v.kd=4∧Numd v.id v.tg)∨(v.kd=5∧Dbt v.ow v.bp)
theorem may_iff (v:Ev):EMay v↔(0≤v.me∧v.me≤49)∧KindR v∧leftE v=ev0:=by
 obtain ⟨kd,me,mo,id,te,de,fe,pr,ch,un,tg,ow,bp⟩:=v;unfold EMay KindR leftE ev0 Numd Unt Mon Mony Dbt;simp only;by_cases h1:kd=1
 ·subst h1;simp
 by_cases h2:kd=2
 ·subst h2;simp;intro _ _;constructor <;> intro h <;> omega
 by_cases h3:kd=3
 ·subst h3;simp;intro _ _;constructor <;> intro h <;> omega
 by_cases h4:kd=4
 ·subst h4;simp;intro _ _;constructor <;> intro h <;> omega
 by_cases h5:kd=5
 ·subst h5;simp;intro _ _;constructor <;> intro h <;> omega
 constructor
 ·rintro ⟨_,h | h | h⟩
  ·exact absurd h.1 h1
  ·exact absurd h.1 h5
  ·have:=h.1;omega
 ·rintro ⟨_,h | h | h | h | h,_⟩
  ·exact absurd h h1
  ·exact absurd h.1 h2
  ·exact absurd h.1 h3
  ·exact absurd h.1 h4
  ·exact absurd h.1 h5
theorem kind_2 {v:Ev} (h:v.kd=2):KindR v↔Mon v.mo∧Numd v.id v.tg∧Unt v.un∧Mony v.te v.de v.fe v.pr v.ch:=by simp [KindR,h]
theorem kind_3 {v:Ev} (h:v.kd=3):KindR v↔Mon v.mo∧Numd v.id v.tg∧Unt v.un:=by simp [KindR,h]
theorem kind_4 {v:Ev} (h:v.kd=4):KindR v↔Numd v.id v.tg:=by simp [KindR,h]
theorem kind_5 {v:Ev} (h:v.kd=5):KindR v↔Dbt v.ow v.bp:=by simp [KindR,h]
def YN (w:World) (P:Prop) (e:Ending) (w':World):Prop:=∃ B,e = .returned (.bool B)∧(B=true↔P)∧Below w.heap.size w w'
theorem YN.yes {w w':World} {P:Prop} (h:P) (hb:Below w.heap.size w w'):YN w P (.returned (.bool true)) w':=⟨true,rfl,⟨fun _=>h,fun _=>rfl⟩,hb⟩
theorem YN.no {w w':World} {P:Prop} (h:¬ P) (hb:Below w.heap.size w w'):YN w P (.returned (.bool false)) w':=⟨false,rfl,⟨fun q=>(by cases q),fun q=>absurd q h⟩,hb⟩
end book
namespace ora
open Go.RowKit
open Go.ChangeMaps (setBlock heap_setBlock_same heap_setBlock_other)
def ent (p:Pr) (i:Nat):MapEntry:={ key:= .agg #[zI p.m,zI p.r,zI p.b],val:=zI p.t,born:=i }
def ents:List Pr→Nat→List MapEntry
 | [],_=>[]
 | p :: l,i=>ent p i :: ents l (i+1)
theorem ents_app (l:List Pr) (p:Pr) (i:Nat):ents (l++[p]) i=ents l i++[ent p (i+l.length)]:=by
 induction l generalizing i with
 | nil=>rfl
 | cons x l ih=>simp only [List.cons_append,ents,ih,List.length_cons];rw [show i+1+l.length=i+(l.length+1) by omega]
def Mp (w:World) (B:Nat) (l:List Pr):Prop:=w.heap[B]?=some (.map (ents l 0).toArray l.length)
theorem Mp.lt {w:World} {B:Nat} {l:List Pr} (h:Mp w B l):B<w.heap.size:=by
 unfold Mp at h;by_cases hh:B<w.heap.size
 ·exact hh
 ·rw [Array.getElem?_eq_none (by omega)] at h;cases h
theorem Mp.below {w w':World} {B:Nat} {l:List Pr} (h:Mp w B l) (hb:Below w.heap.size w w'):Mp w' B l:=by
 have hl:=h.lt;unfold Mp at *;rw [hb.block B hl];exact h
theorem Mp.new (w:World):Mp (w.alloc (.map #[] 0)) w.heap.size []:=by
 show (w.heap.push _)[w.heap.size]?=_;rw [Array.getElem?_push_size];rfl
def look:List Pr→Int→Int→Int→Option Int
 | [],_,_,_=>none
 | p :: l,m,r,b=>if m=p.m∧r=p.r∧b=p.b then some p.t else look l m r b
theorem look_no {l:List Pr} {m r b:Int} (h:No l m r b):look l m r b=none:=by
 induction l with
 | nil=>rfl
 | cons p l ih=>
  have h0:=h 0 (by simp);rw [look,if_neg (fun e=>h0 ⟨e.1.symm,e.2.1.symm,e.2.2.symm⟩)];exact ih fun j hj=>h (j+1) (by simpa using hj)
theorem look_at {l:List Pr} {m r b:Int} {i:Nat} (h:At l m r b i):look l m r b=some (l.getD i pr0).t:=by
 induction l generalizing i with
 | nil=>exact absurd h.lt (Nat.not_lt_zero _)
 | cons p l ih=>
  cases i with
  | zero=>
   have h0:=h.is;rw [look,if_pos ⟨h0.1.symm,h0.2.1.symm,h0.2.2.symm⟩];rfl
  | succ i=>
   have h0:=h.first 0 (by omega);rw [look,if_neg (fun e=>h0 ⟨e.1.symm,e.2.1.symm,e.2.2.symm⟩)];exact ih ⟨by have:=h.lt;simpa using this,h.is,fun j hj=>h.first (j+1) (by omega)⟩
theorem look_take {l:List Pr} {m r b:Int} {k:Nat} (hk:k≤l.length):look (l.take k) m r b=none↔∀ j,j<k→¬ (l.getD j pr0).key m r b:=by
 have hg:∀ j,j<k→(l.take k).getD j pr0=l.getD j pr0:=fun j hj=>by simp [List.getD,List.getElem?_take,hj]
 rcases find_or (l.take k) m r b with ⟨i,hi⟩ | hn
 ·constructor
  ·intro h;rw [look_at hi] at h;cases h
  ·intro h;have hl:=hi.lt;rw [List.length_take] at hl;have:=hi.is;rw [hg i (by omega)] at this;exact absurd this (h i (by omega))
 ·constructor
  ·intro _ j hj;have:=hn j (by rw [List.length_take];omega)
   rwa [hg j hj] at this
  ·intro _;exact look_no hn
theorem skq (d:Nat) (a b:Int) (w:World):(Op.equalIn (d+1) 3 (zI a) (zI b)).run Tryz.prog w = .ok (a == b) w:=run_equalIn_int w d _ _ _ a b Tryz.underlying3
theorem sk0 (s t c:Int) (w:World):(part 3 #[zI s,zI t,zI c] 0).run Tryz.prog w = .ok (zI s) w:=by kernel_rfl
theorem sk1 (s t c:Int) (w:World):(part 3 #[zI s,zI t,zI c] 1).run Tryz.prog w = .ok (zI t) w:=by kernel_rfl
theorem sk2 (s t c:Int) (w:World):(part 3 #[zI s,zI t,zI c] 2).run Tryz.prog w = .ok (zI c) w:=by kernel_rfl
theorem eqSub (m r b:Int) (p:Pr) (w:World) :
  (Op.equal 282 (.agg #[zI m,zI r,zI b]) (.agg #[zI p.m,zI p.r,zI p.b])).run Tryz.prog w = .ok (decide (m=p.m∧r=p.r∧b=p.b)) w:=by
 unfold Op.equal;rw [show Op.maxDepth=9999+1 from rfl,run_equalIn_agg w 9999 282 _ _ (by kernel_rfl) (by kernel_rfl)];simp only [Program.fieldsOf,Tryz.underlying282,Op.eqFields,Sem.run_bind,Sem.run_ite];by_cases h1:m=p.m <;> by_cases h2:r=p.r <;> by_cases h3:b=p.b <;> simp [sk0,sk1,sk2,show (9999:Nat)=9998+1 from rfl,skq,h1,h2,h3]
theorem chk (em:Bool) (m r b:Int) (w:World):(Instr.checkKey em 10000 282 (.agg #[zI m,zI r,zI b])).run Tryz.prog w = .ok () w:=by kernel_rfl
theorem asking (m r b:Int) (w:World):∀ (l:List Pr) (i j:Nat),(look l m r b=none→(Instr.findAsking 282 (.agg #[zI m,zI r,zI b]) (ents l i) j).run Tryz.prog w = .ok none w) ∧
  ∀ t,look l m r b=some t→∃ q,(Instr.findAsking 282 (.agg #[zI m,zI r,zI b]) (ents l i) j).run Tryz.prog w = .ok (some (q,zI t)) w
 | [],i,j=>⟨fun _=>rfl,fun t h=>by cases h⟩
 | p :: l,i,j=>by
  have ih:=asking m r b w l (i+1) (j+1);unfold look;by_cases hp:m=p.m∧r=p.r∧b=p.b
  ·refine ⟨fun h=>(by rw [if_pos hp] at h;cases h),fun t h=>⟨j,?_⟩⟩;rw [if_pos hp] at h;cases h;simp [ents,Instr.findAsking,ent,eqSub,hp,Sem.run_bind]
  ·rw [if_neg hp]
   have e:∀ X,(Instr.findAsking 282 (.agg #[zI m,zI r,zI b]) (ents (p :: l) i) j).run Tryz.prog w=X↔(Instr.findAsking 282 (.agg #[zI m,zI r,zI b]) (ents l (i+1)) (j+1)).run Tryz.prog w=X:=fun X=>by
    simp [ents,Instr.findAsking,ent,eqSub,hp,Sem.run_bind]
   exact ⟨fun h=>(e _).2 (ih.1 h),fun t h=>(ih.2 t h).imp fun q hq=>(e _).2 hq⟩
theorem finding (m r b:Int) (w:World) (l:List Pr):(look l m r b=none→(Instr.findKey 282 (.agg #[zI m,zI r,zI b]) (ents l 0)).run Tryz.prog w = .ok none w) ∧
  ∀ t,look l m r b=some t→∃ q,(Instr.findKey 282 (.agg #[zI m,zI r,zI b]) (ents l 0)).run Tryz.prog w = .ok (some (q,zI t)) w:=by
 cases l with
 | nil=>exact ⟨fun _=>by simp [Instr.findKey,ents,Instr.findNow,run_underlying Tryz.underlying282,Sem.run_bind],fun t h=>by cases h⟩
 | cons p l=>
  have e:(Instr.findKey 282 (.agg #[zI m,zI r,zI b]) (ents (p :: l) 0)).run Tryz.prog w=(Instr.findAsking 282 (.agg #[zI m,zI r,zI b]) (ents (p :: l) 0)).run Tryz.prog w:=by
   simp [Instr.findKey,ents,Instr.findNow,Instr.sameNow,run_underlying Tryz.underlying282,Sem.run_bind]
  rw [e];exact asking m r b w (p :: l) 0 0
theorem zint (w:World):(zeroValue 3).run Tryz.prog w = .ok (zI 0) w:=by kernel_rfl
theorem look_run {w:World} {B:Nat} {l:List Pr} (h:Mp w B l) (m r b:Int) :
  (Instr.lookup 275 (.map (some B)) (.agg #[zI m,zI r,zI b]) true).run Tryz.prog w = .ok (.tuple #[zI ((look l m r b).getD 0),.bool (look l m r b).isSome]) w:=by
 have hf:=finding m r b w l;cases hl:look l m r b with
 | none=>simp [Instr.lookup,run_underlying Tryz.underlying275,MapKept.run_getObj_map h,chk,hf.1 hl,zint,Result.andThen,Sem.run_bind]
 | some t=>
  obtain ⟨q,hq⟩:=hf.2 t hl;simp [Instr.lookup,run_underlying Tryz.underlying275,MapKept.run_getObj_map h,chk,hq,Result.andThen,Sem.run_bind]
theorem upd_run {w:World} {B:Nat} {l:List Pr} (h:Mp w B l) (m r b t:Int) (hn:look l m r b=none) :
  ∃ W,(Instr.mapUpdate 275 (.map (some B)) (.agg #[zI m,zI r,zI b]) (zI t)).run Tryz.prog w = .ok () W∧Mp W B (l++[⟨m,r,b,t⟩])∧(∀ G,G≠B→W.heap[G]?=w.heap[G]?)∧(∀ B0 w0,B0≤B→Below B0 w0 w→Below B0 w0 W)∧W.heap.size=w.heap.size:=by
 have hf:=(finding m r b w l).1 hn;refine ⟨setBlock w B (.map ((ents l 0).toArray.push ⟨.agg #[zI m,zI r,zI b],zI t,l.length⟩) (l.length+1)),?_,?_,fun G hG=>heap_setBlock_other h _ hG,fun B0 w0 hB hb=>?_,by simp [setBlock]⟩
 ·simp [Instr.mapUpdate,run_underlying Tryz.underlying275,MapKept.run_getObj_map h,chk,hf,MapKept.run_setObj_map _ h,Result.andThen,setBlock,Sem.run_bind]
 ·unfold Mp;rw [heap_setBlock_same h,ents_app,List.length_append];simp [ent]
 ·refine ⟨hb.os,hb.tape,hb.output,by simp [setBlock];exact hb.size,fun k hk=>?_⟩;rw [heap_setBlock_other h _ (by omega)];exact hb.block k hk
theorem run_mkMap (w:World) (n:Int):(Instr.makeMap 275 (some (zI n))).run Tryz.prog w = .ok (.map (some w.heap.size)) (w.alloc (.map #[] 0)):=by kernel_rfl
end ora
end Go.Proofs.YtnpblpbohcegoaaGreatDoor
