import Derived.Test.YtnpblpbohcegoaaGreatDoorVVRry2
import Derived.Test.YtnpblpbohcegoaaGreatDoorVVRry4
set_option linter.unusedVariables false
set_option linter.unusedSimpArgs false
set_option maxHeartbeats 4000000
set_option maxRecDepth 100000
namespace Go.Proofs.YtnpblpbohcegoaaGreatDoor
namespace tar
open Go.RowKit
def RowL (w:World) (a:Option Addr) (len:Nat) (ls:List Tr):Prop:=
 ls.length=len∧(len=0∨∃ b off,a=some ⟨b,off,none⟩∧∀ i,i<len→w.cell? ⟨b,off+i*3,none⟩=some (zI (ls.getD i tr0).a)∧w.cell? ⟨b,off+i*3+1,none⟩=some (zI (ls.getD i tr0).b)∧w.cell? ⟨b,off+i*3+2,none⟩=some (zI (ls.getD i tr0).c))
theorem RowL.at {w:World} {a:Option Addr} {n:Nat} {zs:List Tr} (h:RowL w a n zs) (h0:0<n):∃ b off,a=some ⟨b,off,none⟩∧b<w.heap.size∧∀ i,i<n→w.cell? ⟨b,off+i*3,none⟩=some (zI (zs.getD i tr0).a)∧w.cell? ⟨b,off+i*3+1,none⟩=some (zI (zs.getD i tr0).b)∧w.cell? ⟨b,off+i*3+2,none⟩=some (zI (zs.getD i tr0).c):=by
 rcases h.2 with h1 | ⟨b,off,rfl,hc⟩
 ·omega
 ·exact ⟨b,off,rfl,World.block_lt_of_cell? w _ (hc 0 h0).1,hc⟩
def ErrPost (w:World) (R:Int→Prop) (e:Ending) (w':World):Prop:=∃ f,e = .returned (zI f)∧R f∧Below w.heap.size w w'
def TwoPost (w:World) (R:Int→Int→Prop) (e:Ending) (w':World):Prop:=∃ p f,e = .returned (.tuple #[zI p,zI f])∧R p f∧Below w.heap.size w w'
def ThreePost (w:World) (R:Int→Int→Int→Prop) (e:Ending) (w':World):Prop:=∃ u p f,e = .returned (.tuple #[zI u,zI p,zI f])∧R u p f∧Below w.heap.size w w'
structure Came (w:World) (a:Option Addr) (len cap:Nat) (ls:List Du):Prop where
 row:RowD w a len ls
 nil:a=none→cap=0
 room:len≤cap
 bytes:len*16≤140737488351232
 wf:∀ x∈ls,(Lit.int .i64 x.a).wf=true∧(Lit.int .i64 x.b).wf=true
theorem Came.below {w w':World} {a:Option Addr} {len cap:Nat} {ls:List Du} (h:Came w a len cap ls) (hb:Below w.heap.size w w'):Came w' a len cap ls:=⟨h.row.below hb,h.nil,h.room,h.bytes,h.wf⟩
theorem Came.most {w:World} {a:Option Addr} {len cap:Nat} {ls:List Du} (h:Came w a len cap ls):len≤maxLen:=by have:=h.bytes;unfold maxLen;omega
theorem Ld.came {T:TypeId} {w:World} {base:Nat} {v:Value} {l:List Du} (h:Ld T w base v l) (hl:l.length*16≤140737488351232) (hw:∀ x∈l,(Lit.int .i64 x.a).wf=true∧(Lit.int .i64 x.b).wf=true):∃ a cap,v = .slice a l.length cap∧Came w a l.length cap l:=by
 obtain ⟨a,cap,hv,hr,hn,hc,_⟩:=h.row;exact ⟨a,cap,hv,hr,hn,hc,hl,hw⟩
theorem wf_mid {z:Int} (h0:0≤z) (h1:z≤4000000000000):(Lit.int .i64 z).wf=true:=by
 have h1:IntKind.i64.min≤z:=by
  have e:IntKind.i64.min=-9223372036854775808:=by decide
  omega
 have h2:z≤IntKind.i64.max:=by
  have e:IntKind.i64.max=9223372036854775807:=by decide
  omega
 show (decide (IntKind.i64.min≤z) && decide (z≤IntKind.i64.max))=true;rw [Bool.and_eq_true];exact ⟨decide_eq_true h1,decide_eq_true h2⟩
theorem MostIs.got {l:List Du} {x m u p e:Int} (h:MostIs l x m u p e) (hR:Right l) (hM:MayMost x m):e=0∧MostOf l x m u∧p=cost l x (x+u):=by
 rcases h with ⟨a,_⟩ | ⟨_,b,_⟩ | ⟨_,_,c,d⟩
 ·exact absurd hR a
 ·exact absurd hM b
 ·exact ⟨c,d⟩
end tar
namespace deb
open tar (Du du0 Came RowD Ld ErrPost TwoPost PairT)
open Go.RowKit
structure Fresh (w:World) (base:Nat) (a:Option Addr) (len cap:Nat) (ls:List Du):Prop where
 came:Came w a len cap ls
 new:0<len→∀ x,a=some x→base≤x.block
def RecPost (w:World) (l:List Du) (t bp:Int) (e:Ending) (w':World):Prop:=∃ a len cap z p f,e = .returned (.tuple #[.slice a len cap,zI p,zI f])∧RecIs l t bp z p f∧Fresh w' w.heap.size a len cap z∧Below w.heap.size w w'
def AgePost (w:World) (l:List Du) (m:Int) (e:Ending) (w':World):Prop:=∃ a len cap z f,e = .returned (.tuple #[.slice a len cap,zI f])∧AgeIs l m z f∧Fresh w' w.heap.size a len cap z∧Below w.heap.size w w'
theorem Mays.wf {l:List Du} (h:Mays l):∀ x∈l,(Lit.int .i64 x.a).wf=true∧(Lit.int .i64 x.b).wf=true:=fun x hx=>by
 obtain ⟨⟨a1,a2⟩,b1,b2⟩:=mem_fits h.2 x hx;exact ⟨tar.wf_mid a1 (by omega),tar.wf_mid b1 (by omega)⟩
theorem ld_mays {T:TypeId} {w:World} {base:Nat} {v:Value} {l:List Du} (h:Ld T w base v l) (hm:Mays l):∃ a cap,v = .slice a l.length cap∧Came w a l.length cap l:=h.came (by have:=hm.1;omega) hm.wf
theorem ld_new {T:TypeId} {w:World} {base:Nat} {a:Option Addr} {n cap:Nat} {l:List Du} (h:Ld T w base (.slice a n cap) l):0<n→∀ x,a=some x→base≤x.block:=fun hn x hx=>by
 subst hx;exact (World.ownsRow.lt h x.block rfl).1
theorem ld_fresh {T:TypeId} {w:World} {base:Nat} {v:Value} {l:List Du} (h:Ld T w base v l) (hm:Mays l):∃ a cap,v = .slice a l.length cap∧Fresh w base a l.length cap l:=by
 obtain ⟨a,cap,rfl,hc⟩:=ld_mays h hm;exact ⟨a,cap,rfl,hc,ld_new h⟩
theorem Fresh.low {w:World} {base base':Nat} {a:Option Addr} {len cap:Nat} {ls:List Du} (h:Fresh w base a len cap ls) (hb:base'≤base):Fresh w base' a len cap ls:=⟨h.came,fun hn x hx=>Nat.le_trans hb (h.new hn x hx)⟩
theorem Fresh.below {w w':World} {base:Nat} {a:Option Addr} {len cap:Nat} {ls:List Du} (h:Fresh w base a len cap ls) (hb:Below w.heap.size w w'):Fresh w' base a len cap ls:=⟨h.came.below hb,h.new⟩
theorem came_nil (w:World):Came w none 0 0 []:=⟨tar.RowD.nil _ _,fun _=>rfl,Nat.le_refl _,by omega,fun x hx=>by cases hx⟩
theorem fresh_nil (w:World) (base:Nat):Fresh w base none 0 0 []:=⟨came_nil w,fun h=>absurd h (Nat.lt_irrefl _)⟩
end deb
namespace ora
open Go.RowKit
set_option maxRecDepth 100000
def Told (w : World) (P : Prop) (e : Ending) (w' : World) : Prop := ∃ r : Bool, e = .returned (.bool r) ∧ (r = true ↔ P) ∧ Below w.heap.size w w'
theorem Told.yes {w w' : World} {P : Prop} (h : P) (hb : Below w.heap.size w w') : Told w P (.returned (.bool true)) w' := ⟨true, rfl, by simp [h], hb⟩
theorem Told.no {w w' : World} {P : Prop} (h : ¬ P) (hb : Below w.heap.size w w') : Told w P (.returned (.bool false)) w' := ⟨false, rfl, by simp [h], hb⟩
structure Bo (w wr : World) (a : Option Addr) (n cap : Nat) (l : List Pr) : Prop where
 box : Blk wr w.heap.size #[.slice a n cap] 39
 row : RowP wr a n l
 bel : Below w.heap.size w wr
theorem Bo.next {w wr w' : World} {a : Option Addr} {n cap : Nat} {l : List Pr} (h : Bo w wr a n cap l) (hb : Below wr.heap.size wr w') : Bo w w' a n cap l := ⟨h.box.next hb, h.row.below hb, bel_step h.bel hb⟩
theorem Bo.alloc {w wr : World} {a : Option Addr} {n cap : Nat} {l : List Pr} (h : Bo w wr a n cap l) (o : Obj) : Bo w (wr.alloc o) a n cap l := h.next ((Below.refl _ _).alloc (Nat.le_refl _) _)
theorem Bo.new {w : World} {a : Option Addr} {n cap : Nat} {l : List Pr} (h : RowP w a n l) : Bo w (w.alloc (.cells #[.slice a n cap] 39)) a n cap l :=
 ⟨Blk.new w _ _, h.below ((Below.refl _ _).alloc (Nat.le_refl _) _), (Below.refl _ _).alloc (Nat.le_refl _) _⟩
theorem take_nextP (l : List Pr) (k : Nat) (h : k < l.length) : l.take k ++ [⟨(l.getD k pr0).m, (l.getD k pr0).r, (l.getD k pr0).b, (l.getD k pr0).t⟩] = l.take (k + 1) := by
 rw [List.take_succ_eq_append_getElem h]
 congr 2
 simp [List.getD, List.getElem?_eq_getElem h]
structure Bi (w wr : World) (a : Option Addr) (n cap : Nat) (l : List Pr) : Prop where
 bo : Bo w wr a n cap l
 out : Blk wr (w.heap.size + 1) #[.slice none 0 0] 39
theorem Bi.next {w wr w' : World} {a : Option Addr} {n cap : Nat} {l : List Pr} (h : Bi w wr a n cap l) (hb : Below wr.heap.size wr w') : Bi w w' a n cap l := ⟨h.bo.next hb, h.out.next hb⟩
theorem Bi.alloc {w wr : World} {a : Option Addr} {n cap : Nat} {l : List Pr} (h : Bi w wr a n cap l) (o : Obj) : Bi w (wr.alloc o) a n cap l := h.next ((Below.refl _ _).alloc (Nat.le_refl _) _)
theorem Pw.put2 {w : World} {base G : Nat} {v : Value} {l : List Pr} {cs : Array Value} {t : TypeId} (h : Pw w base v l) (hB : Blk w G cs t) (ht : t ≠ 279) (i : Nat) (u : Value) : Pw (w.setCell ⟨G, i, none⟩ u) base v l := by
 refine ⟨h.1, ?_⟩
 rcases h.2 with hn | ⟨g, cap, cur, hv, hg, hc, rest⟩
 ·exact .inl hn
 ·refine .inr ⟨g, cap, cur, hv, hg, Blk.other hc i u (fun e => ?_), rest⟩
  subst e
  have := hB.symm.trans hc
  simp only [Option.some.injEq, Obj.cells.injEq] at this
  exact ht this.2.1
structure Came (w : World) (a : Option Addr) (n cap : Nat) (l : List Pr) : Prop where
 row : RowP w a n l
 nil : a = none → cap = 0
 le : n ≤ cap
 small : n * 32 ≤ 140737488351232
theorem Came.below {w w' : World} {a : Option Addr} {n cap : Nat} {l : List Pr} (h : Came w a n cap l) (hb : Below w.heap.size w w') : Came w' a n cap l := ⟨h.row.below hb, h.nil, h.le, h.small⟩
end ora
section
open Go.RowKit
theorem wp_runOp {P:Program} {o:Oper} {a:Act} {w w':World} {v:Value} {K:Act→World→Prop} {Q:Exit→Act→World→Prop} (d:Nat) (hd:o.dst=some d) (hrun:(execOp a.eval o).run P w = .ok (.value v) w') (h:K (a.put (some d) v) w'):o.wp P a w K Q:=by
 rw [← hd] at h;unfold Oper.wp;rw [hrun,Oper.upon_value];exact h
theorem wp_callOp {P:Program} {o:Oper} {a:Act} {w:World} {f:FuncId} {args:Array Value} {R:Ending→World→Prop} {K:Act→World→Prop} {Q:Exit→Act→World→Prop} (d:Nat) (hd:o.dst=some d) (hrun:(execOp a.eval o).run P w = .ok (.enter f args) w) (hc:Calls P f args w R)
  (h:∀ e w',R e w'→∃ v,e = .returned v∧K (a.put (some d) v) w'):o.wp P a w K Q:=by
 rw [← hd] at h;unfold Oper.wp;rw [hrun,Oper.upon_enter];refine hc.mono fun e w' hr=>?_;obtain ⟨v,rfl,hk⟩:=h e w' hr;exact hk
end
namespace disk
open Go.RowKit
structure Sli where
 a:Option Addr
 n:Nat
 c:Nat
def Sli.v (s:Sli):Value:= .slice s.a s.n s.c
def sl0:Sli:=⟨none,0,0⟩
def cellsR (l:List Sli):List Value:=l.map Sli.v
theorem oneR (l:List Sli):∀ u∈cellsR l,u.oneCell'=true:=fun u hu=>by
 obtain ⟨s,_,rfl⟩:=List.mem_map.1 hu;rfl
def Lr (T:TypeId) (w:World) (base:Nat) (v:Value) (l:List Sli):Prop:=w.ownsRow base T 1 v l.length (cellsR l)
theorem Lr.zero (T:TypeId) (w:World) (base:Nat):Lr T w base (zS) []:=World.ownsRow_nil _ _ _ _
theorem Lr.next {T:TypeId} {w w':World} {base:Nat} {v:Value} {l:List Sli} (h:Lr T w base v l) (hb:Below w.heap.size w w'):Lr T w' base v l:=by
 refine ⟨h.1,?_⟩;rcases h.2 with hn | ⟨g,cap,cur,hv,hg,hc,rest⟩
 ·exact .inl hn
 ·exact .inr ⟨g,cap,cur,hv,hg,Blk.next hc hb,rest⟩
theorem Lr.row {T:TypeId} {w:World} {base:Nat} {v:Value} {l:List Sli} (h:Lr T w base v l) (h0:0<l.length):∃ g cap,v = .slice (some ⟨g,0,none⟩) l.length cap∧base≤g∧g<w.heap.size∧l.length≤cap∧∀ i,i<l.length→w.cell? ⟨g,i,none⟩=some (l.getD i sl0).v:=by
 rcases h.2 with ⟨hv,hn⟩ | ⟨g,cap,cur,hv,hg,hc,h1,_⟩
 ·omega
 ·subst hv;refine ⟨g,cap,rfl,hg,Blk.lt hc,h1,fun i hi=>?_⟩;have e1:=World.ownsRow.cellAt h i (by omega);rw [e1];simp [cellsR,List.getD,hi]
theorem Lr.len {T:TypeId} {w:World} {base:Nat} {v:Value} {l:List Sli} (h:Lr T w base v l):∃ a cap,v = .slice a l.length cap:=by
 rcases h.2 with ⟨hv,hn⟩ | ⟨g,cap,cur,hv,_⟩
 ·exact ⟨none,0,by rw [hn];exact hv⟩
 ·exact ⟨_,cap,hv⟩
structure SliT (P:Program) (T S:TypeId):Prop where
 info:(P.info? T).map (fun i=>(i.zero,i.size,i.bytes))=some (some (sl0.v),1,24)
 under:P.underlying S=some (.slice T)
def Recs (w:World) (own:Option Nat) (l:List Sli) (zs:List (List Int)):Prop:=l.length=zs.length∧∀ i,i<l.length→(∃ b off,(l.getD i sl0).a=some ⟨b,off,none⟩∧b<w.heap.size∧some b≠own)∧cell.RowU w (l.getD i sl0).a (l.getD i sl0).n (zs.getD i [])
theorem Recs.nil (w:World) (own:Option Nat):Recs w own [] []:=⟨rfl,fun i hi=>by cases hi⟩
theorem Recs.below {w w':World} {own:Option Nat} {l:List Sli} {zs:List (List Int)} (h:Recs w own l zs) (hb:Below w.heap.size w w'):Recs w' own l zs:=⟨h.1,fun i hi=>by
 obtain ⟨⟨b,off,h1,h2,h3⟩,h4⟩:=h.2 i hi
 exact ⟨⟨b,off,h1,Nat.lt_of_lt_of_le h2 hb.size,h3⟩,h4.below hb⟩⟩
theorem Recs.snoc {w:World} {own:Option Nat} {l:List Sli} {zs:List (List Int)} (h:Recs w own l zs) {s:Sli} {z:List Int} (hs:(∃ b off,s.a=some ⟨b,off,none⟩∧b<w.heap.size∧some b≠own)∧cell.RowU w s.a s.n z):Recs w own (l++[s]) (zs++[z]):=by
 refine ⟨by rw [List.length_append,List.length_append,h.1];rfl,fun i hi=>?_⟩;by_cases h1:i<l.length
 ·have e1:(l++[s]).getD i sl0=l.getD i sl0:=by simp [List.getD,List.getElem?_append_left h1]
  have e2:(zs++[z]).getD i []=zs.getD i []:=by simp [List.getD,List.getElem?_append_left (show i<zs.length from h.1 ▸ h1)]
  rw [e1,e2];exact h.2 i h1
 ·have hi':i=l.length:=by simp at hi;omega
  have e1:(l++[s]).getD i sl0=s:=by rw [hi'];simp [List.getD]
  have e2:(zs++[z]).getD i []=z:=by rw [hi',h.1];simp [List.getD]
  rw [e1,e2];exact hs
theorem Recs.grown {w w':World} {own own':Option Nat} {l:List Sli} {zs:List (List Int)} (h:Recs w own l zs) (hg:w.grownBy w' own) (ho:own'=own∨own'=some w.heap.size):Recs w' own' l zs:=⟨h.1,fun i hi=>by
 obtain ⟨⟨b,off,h1,h2,h3⟩,h4⟩:=h.2 i hi;have hb:=hg.block b h2 h3;refine ⟨⟨b,off,h1,Nat.lt_of_lt_of_le h2 hg.size,?_⟩,h4.1,?_⟩
 ·rcases ho with rfl | rfl
  ·exact h3
  ·intro e;have:=Option.some.inj e;omega
 ·rcases h4.2 with h0 | ⟨b',off',e,hc⟩
  ·exact .inl h0
  ·rw [h1] at e;have e1:=Option.some.inj e;have e2:b=b':=congrArg Addr.block e1;subst e2;refine .inr ⟨b,off',by rw [h1,e1],fun i hi=>?_⟩;rw [← hc i hi]
   simp [World.cell?,hb]⟩
end disk
namespace tar
theorem getD_snoc (Z:List Du) (r:Du) (i:Nat):(Z++[r]).getD i du0=if i<Z.length then Z.getD i du0 else if i=Z.length then r else du0:=by
 by_cases h:i<Z.length
 ·rw [if_pos h];simp [List.getD,List.getElem?_append_left h]
 ·rw [if_neg h];by_cases h2:i=Z.length
  ·subst h2;simp [List.getD]
  ·rw [if_neg h2];have:(Z++[r])[i]?=none:=List.getElem?_eq_none (by simp;omega);simp [List.getD,this]
structure Grow (Z:List Du) (k:Nat) (up:Int):Prop where
 len:Z.length=k
 fit:∀ i,i<k→(1≤(Z.getD i du0).a∧(Z.getD i du0).a≤up)∧1≤(Z.getD i du0).b∧(Z.getD i du0).b≤100000
 rise:∀ i,1≤i→i<k→(Z.getD (i - 1) du0).a<(Z.getD i du0).a
 low:0≤up
 top:up≤(k:Int)*1000000
theorem Grow.zero:Grow [] 0 0:=⟨rfl,fun i hi=>absurd hi (Nat.not_lt_zero _),fun i _ hi=>absurd hi (Nat.not_lt_zero _),by decide,by decide⟩
theorem Grow.step {Z:List Du} {k:Nat} {up d p:Int} (h:Grow Z k up) (d1:1≤d) (d2:d≤1000000) (p1:1≤p) (p2:p≤100000):Grow (Z++[⟨up+d,p⟩]) (k+1) (up+d):=by
 have h0:=h.low;refine ⟨by rw [List.length_append,h.len];rfl,fun i hi=>?_,fun i h1 hi=>?_,by omega,?_⟩
 ·rw [getD_snoc,h.len];by_cases e:i<k
  ·rw [if_pos e];have:=h.fit i e;exact ⟨⟨this.1.1,by omega⟩,this.2⟩
  ·rw [if_neg e,if_pos (by omega)];exact ⟨⟨by show 1≤up+d;omega,Int.le_refl _⟩,p1,p2⟩
 ·rw [getD_snoc,getD_snoc,h.len];by_cases e:i<k
  ·rw [if_pos (by omega),if_pos e];exact h.rise i h1 e
  ·rw [if_pos (by omega),if_neg e,if_pos (by omega)];have:=(h.fit (i - 1) (by omega)).1.2;show _<up+d;omega
 ·have:=h.top;omega
theorem Grow.right {Z:List Du} {k:Nat} {up p:Int} (h:Grow Z k up) (hk:k≤7) (p1:1≤p) (p2:p≤100000):Right (Z++[⟨10000000,p⟩]):=by
 have h0:=h.low;have h1:=h.top;have hl:(Z++[(⟨10000000,p⟩:Du)]).length=k+1:=by rw [List.length_append,h.len];rfl
 refine ⟨⟨by rw [hl];omega,by rw [hl];omega⟩,fun i hi=>?_,fun i h1 hi=>?_,?_⟩
 ·rw [hl] at hi;rw [getD_snoc,h.len];by_cases e:i<k
  ·rw [if_pos e];have:=h.fit i e;exact ⟨⟨this.1.1,by omega⟩,this.2⟩
  ·rw [if_neg e,if_pos (by omega)];exact ⟨⟨(by decide:(1:Int)≤10000000),Int.le_refl _⟩,p1,p2⟩
 ·rw [hl] at hi;rw [getD_snoc,getD_snoc,h.len];by_cases e:i<k
  ·rw [if_pos (by omega),if_pos e];exact h.rise i h1 e
  ·rw [if_pos (by omega),if_neg e,if_pos (by omega)];have:=(h.fit (i - 1) (by omega)).1.2;show _<(10000000:Int);omega
 ·unfold Ends;rw [hl,show k+1 - 1=k by omega,getD_snoc,h.len,if_neg (by omega),if_pos rfl]
end tar
namespace disk
open Go.RowKit cell
def Reads (w:World) (a:Option Addr) (n:Nat) (zs:List (List Int)):Prop:=
 zs.length=n∧(n=0∨∃ b off,a=some ⟨b,off,none⟩∧b<w.heap.size∧∀ i,i<n→∃ s:Sli,w.cell? ⟨b,off+i,none⟩=some s.v∧RowU w s.a s.n (zs.getD i [])∧s.n≤100000)
def ReadsF (w:World) (base:Nat) (a:Option Addr) (n:Nat) (zs:List (List Int)):Prop:=
 zs.length=n∧(n=0∨∃ b off,a=some ⟨b,off,none⟩∧base≤b∧b<w.heap.size∧∀ i,i<n→∃ s:Sli,w.cell? ⟨b,off+i,none⟩=some s.v∧RowU w s.a s.n (zs.getD i [])∧(s.n≤100000∧s.n≤s.c∧(s.a=none→s.c=0))∧∀ x,s.a=some x→base≤x.block)
theorem ReadsF.reads {w:World} {base:Nat} {a:Option Addr} {n:Nat} {zs:List (List Int)} (h:ReadsF w base a n zs):Reads w a n zs:=by
 refine ⟨h.1,?_⟩;rcases h.2 with h0 | ⟨b,off,rfl,_,lb,hc⟩
 ·exact .inl h0
 ·exact .inr ⟨b,off,rfl,lb,fun i hi=>by obtain ⟨s,h1,h2,h3,_⟩:=hc i hi;exact ⟨s,h1,h2,h3.1⟩⟩
end disk
namespace bki
open Go.RowKit
def Row (w:World) (a:Option Addr) (len:Nat) (zs:List Int):Prop:=
 zs.length=len∧(len=0∨∃ b off,a=some ⟨b,off,none⟩∧∀ i,i<len→w.cell? ⟨b,off+i,none⟩=some (zI (zs.getD i 0)))
def okAll (lo hi:Int) (l:List Int):Bool:=l.all fun n=>decide (lo≤n) && decide (n≤hi)
theorem okAll_step (lo hi:Int) (zs:List Int) (k:Nat) (hk:k<zs.length) (h:okAll lo hi (zs.take k)=true) (h1:lo≤zs.getD k 0) (h2:zs.getD k 0≤hi):okAll lo hi (zs.take (k+1))=true:=by
 unfold okAll at *;rw [List.take_add_one,List.all_append,h];simp only [List.getD,List.getElem?_eq_getElem hk,Option.getD] at h1 h2 ⊢;simp [h1,h2]
theorem okAll_no (lo hi:Int) (zs:List Int) (k:Nat) (hk:k<zs.length) (h:zs.getD k 0<lo∨hi<zs.getD k 0):okAll lo hi zs=false:=by
 unfold okAll;rw [List.all_eq_false];refine ⟨zs[k],List.getElem_mem hk,?_⟩;simp only [List.getD,List.getElem?_eq_getElem hk,Option.getD] at h;simp;omega
theorem ret_bool {a b:Bool} (h:a=b):Ending.returned (.bool a) = .returned (.bool b):=by rw [h]
theorem within_any (lo hi:Int) (a:Option Addr) (len cap:Nat) (zs:List Int) (w:World) (hr:Row w a len zs) (hl:len≤maxLen) :
  Calls Tryz.prog 109 #[zI lo,zI hi,.slice a len cap] w fun e w'=>e = .returned (.bool (okAll lo hi zs))∧w'=w:=by
 unfold maxLen at hl;obtain ⟨hz,hr⟩:=hr;go_enter Tryz.func109,Tryz.ntmps109;go_wp2;go_loop [11] (fun i=>∃ k:Nat,k≤len∧i=zI k∧okAll lo hi (zs.take k)=true) (fun i=>len - (intOf i).toNat)
 case atStart=>exact ⟨0,Nat.zero_le _,rfl,rfl⟩
 case round=>
  obtain ⟨k,hk,rfl,hok⟩:=hrel;have HK:Hid (okAll lo hi (zs.take k)=true):=hok;clear hok;by_cases hlt:k<len
  ·rcases hr with h0 | ⟨b,off,rfl,hc⟩
   ·omega
   have hcell:=hc k hlt;clear hc;generalize hzk:zs.getD k 0=z at hcell;have HZ:Hid (zs.getD k 0=z):=hzk;clear hzk;by_cases h1:z<lo
   ·go_wp2;go_ret;exact ⟨ret_bool (okAll_no lo hi zs k (by omega) (.inl (by rw [HZ.o];exact h1))).symm,rfl⟩
   ·by_cases h2:hi<z
    ·go_wp2;go_ret;exact ⟨ret_bool (okAll_no lo hi zs k (by omega) (.inr (by rw [HZ.o];exact h2))).symm,rfl⟩
    ·go_wp2;go_round
     case rel=>exact ⟨k+1,by omega,by go_num,okAll_step lo hi zs k (by omega) HK.o (by rw [HZ.o];omega) (by rw [HZ.o];omega)⟩
     case measure=>simp [intOf];omega
  ·go_wp2;go_ret;refine ⟨ret_bool ?_,rfl⟩;have:=HK.o;rw [List.take_of_length_le (by omega)] at this;exact this.symm
theorem row_one (w:World) (z:Int) (t:TypeId):Row (w.alloc (.cells #[zI z] t)) (some ⟨w.heap.size,0,none⟩) 1 [z]:=by
 refine ⟨rfl,.inr ⟨_,_,rfl,fun i hi=>?_⟩⟩;obtain rfl:i=0:=by omega
 simp
theorem bel1 (w:World) (o:Obj):Below w.heap.size w (w.alloc o):=(Below.refl _ _).alloc (Nat.le_refl _) _
theorem bel2 (w:World) (o o':Obj):Below w.heap.size w ((w.alloc o).alloc o'):=(bel1 w o).alloc (by simp) _
theorem within_one (lo hi z:Int) (w:World) (b:Nat) (hb:b=w.heap.size) :
  Calls Tryz.prog 109 #[zI lo,zI hi,.slice (some ⟨b,0,none⟩) 1 1] (w.alloc (.cells #[zI z] 3)) fun e w'=>e = .returned (.bool (decide (lo≤z∧z≤hi)))∧w'=w.alloc (.cells #[zI z] 3):=by
 have h:=within_any lo hi _ 1 1 [z] _ (row_one w z 3) (by decide);have e:okAll lo hi [z]=decide (lo≤z∧z≤hi):=by simp [okAll]
 rw [e] at h;rw [hb];exact h
theorem row_four (w:World) (a b c d:Int) (t:TypeId):Row (w.alloc (.cells #[zI a,zI b,zI c,zI d] t)) (some ⟨w.heap.size,0,none⟩) 4 [a,b,c,d]:=by
 refine ⟨rfl,.inr ⟨_,_,rfl,fun i hi=>?_⟩⟩
 match i,hi with
 | 0,_=>simp
 | 1,_=>simp
 | 2,_=>simp
 | 3,_=>simp
end bki
end Go.Proofs.YtnpblpbohcegoaaGreatDoor
namespace Go.Proofs
open Go.Shelf
def Tryz.lays105_ren : Go.Shelf.Ren := ⟨fun | 105 => 54 | 212 => 89 | 99 => 90 | 165 => 91 | 166 => 92 | 170 => 93 | 169 => 94 | 263 => 135 | 264 => 136 | 206 => 137 | 240 => 138 | 241 => 139 | 276 => 171 | 277 => 172 | n => n, fun | 9 => 9 | 3 => 3 | 4 => 4 | 20 => 20 | 0 => 0 | 46 => 178 | 109 => 179 | 5 => 5 | 72 => 184 | 76 => 185 | 51 => 99 | 146 => 233 | 53 => 223 | 148 => 235 | 70 => 182 | 37 => 177 | 75 => 148 | 127 => 237 | 164 => 263 | 80 => 139 | n => n, fun | n => n⟩
theorem Tryz.lays105 : Go.Proofs.Lays.n105 Tryz.prog Tryz.lays105_ren := {
 mixed := by kernel_rfl
 f99 := Tryz.func90.trans (congrArg some (by kernel_rfl))
 f105 := Tryz.func54.trans (congrArg some (by kernel_rfl))
 f165 := Tryz.func91.trans (congrArg some (by kernel_rfl))
 f166 := Tryz.func92.trans (congrArg some (by kernel_rfl))
 f169 := Tryz.func94.trans (congrArg some (by kernel_rfl))
 f170 := Tryz.func93.trans (congrArg some (by kernel_rfl))
 f206 := Tryz.func137.trans (congrArg some (by kernel_rfl))
 f212 := Tryz.func89.trans (congrArg some (by kernel_rfl))
 f240 := Tryz.func138.trans (congrArg some (by kernel_rfl))
 f241 := Tryz.func139.trans (congrArg some (by kernel_rfl))
 f263 := Tryz.func135.trans (congrArg some (by kernel_rfl))
 f264 := Tryz.func136.trans (congrArg some (by kernel_rfl))
 f276 := Tryz.func171.trans (congrArg some (by kernel_rfl))
 f277 := Tryz.func172.trans (congrArg some (by kernel_rfl))
 t0 := Tryz.underlying0
 a0 := Tryz.isAgg0
 z0 := Tryz.sizeOf0
 v0 := Tryz.zeroValue0
 t3 := Tryz.underlying3
 a3 := Tryz.isAgg3
 z3 := Tryz.sizeOf3
 v3 := Tryz.zeroValue3
 t4 := Tryz.underlying4
 a4 := Tryz.isAgg4
 z4 := Tryz.sizeOf4
 v4 := Tryz.zeroValue4
 t5 := Tryz.underlying5
 a5 := Tryz.isAgg5
 z5 := Tryz.sizeOf5
 v5 := Tryz.zeroValue5
 t9 := Tryz.underlying9
 a9 := Tryz.isAgg9
 z9 := Tryz.sizeOf9
 v9 := Tryz.zeroValue9
 t20 := Tryz.underlying20
 a20 := Tryz.isAgg20
 z20 := Tryz.sizeOf20
 v20 := Tryz.zeroValue20
 t37 := Tryz.underlying177
 a37 := Tryz.isAgg177
 z37 := Tryz.sizeOf177
 v37 := Tryz.zeroValue177
 t46 := Tryz.underlying178
 a46 := Tryz.isAgg178
 z46 := Tryz.sizeOf178
 v46 := Tryz.zeroValue178
 t51 := Tryz.underlying99
 a51 := Tryz.isAgg99
 z51 := Tryz.sizeOf99
 v51 := Tryz.zeroValue99
 t53 := Tryz.underlying223
 a53 := Tryz.isAgg223
 z53 := Tryz.sizeOf223
 v53 := Tryz.zeroValue223
 t70 := Tryz.underlying182
 a70 := Tryz.isAgg182
 z70 := Tryz.sizeOf182
 v70 := Tryz.zeroValue182
 t72 := Tryz.underlying184
 a72 := Tryz.isAgg184
 z72 := Tryz.sizeOf184
 v72 := Tryz.zeroValue184
 t75 := Tryz.underlying148
 a75 := Tryz.isAgg148
 z75 := Tryz.sizeOf148
 v75 := Tryz.zeroValue148
 t76 := Tryz.underlying185
 a76 := Tryz.isAgg185
 z76 := Tryz.sizeOf185
 v76 := Tryz.zeroValue185
 t109 := Tryz.underlying179
 a109 := Tryz.isAgg179
 z109 := Tryz.sizeOf179
 v109 := Tryz.zeroValue179
 t127 := Tryz.underlying237
 a127 := Tryz.isAgg237
 z127 := Tryz.sizeOf237
 v127 := Tryz.zeroValue237
 t146 := Tryz.underlying233
 a146 := Tryz.isAgg233
 z146 := Tryz.sizeOf233
 v146 := Tryz.zeroValue233
 t148 := Tryz.underlying235
 a148 := Tryz.isAgg235
 z148 := Tryz.sizeOf235
 v148 := Tryz.zeroValue235
 t164 := Tryz.underlying263
 a164 := Tryz.isAgg263
 z164 := Tryz.sizeOf263
 v164 := Tryz.zeroValue263 }
theorem Tryz.Builder_Extra_105 : Builder.Extra Tryz.prog Tryz.lays105_ren := {
 sizeBuilder := by kernel_rfl
 liesBuilder := by kernel_rfl
 t5 := Tryz.underlying5
 a5 := Tryz.isAgg5
 z5 := Tryz.sizeOf5
 v5 := Tryz.zeroValue5
 infoByte := by kernel_rfl
 cellsByte := by kernel_rfl
 sizeByte := by kernel_rfl
 neB5 := by decide }
open Go.RowKit Go.Lib in
theorem Tryz.strings_Repeat (s : ByteArray) (c : Nat) (w : World) (hc : c ≤ 9223372036854775807) (hlen : s.size * c ≤ 140737488355328) :
  Calls Tryz.prog 54 #[.string s, .int .i64 c] w fun e w' => e = .returned (.string ⟨(Lib.repeatL s.data.toList c).toArray⟩) ∧ Below w.heap.size w w' := Any.strings_Repeat Tryz.lays105 Tryz.Builder_Extra_105 s c w hc hlen
end Go.Proofs
namespace Go.Proofs.YtnpblpbohcegoaaGreatDoor
namespace vnd
open ora (Pr)
open cell (Wr RowW)
open Go.RowKit
theorem rowP_upd {w W:World} {g:Nat} {cs:Array Value} {T:TypeId} {p:Option Addr} {n:Nat} {l:List Pr} (h:ora.RowP w p n l) (hU:Upd w W g cs T) (hg:0<n→∀ y,p=some y→y.block≠g):ora.RowP W p n l:=by
 refine ⟨h.1,?_⟩;rcases h.2 with h0 | ⟨b,off,rfl,hc⟩
 ·exact .inl h0
 ·refine .inr ⟨b,off,rfl,fun i hi=>?_⟩;have hne:b≠g:=hg (by omega) _ rfl;obtain ⟨h0,h1,h2,h3⟩:=hc i hi;exact ⟨by rw [hU.cell _ hne rfl];exact h0,by rw [hU.cell _ hne rfl];exact h1,by rw [hU.cell _ hne rfl];exact h2,by rw [hU.cell _ hne rfl];exact h3⟩
theorem rowW_upd {w W:World} {g:Nat} {cs:Array Value} {T:TypeId} {p:Option Addr} {n:Nat} {l:List Wr} (h:RowW w p n l) (hU:Upd w W g cs T) (hg:0<n→∀ y,p=some y→y.block≠g):RowW W p n l:=by
 refine ⟨h.1,?_⟩;rcases h.2 with h0 | ⟨b,off,rfl,hc⟩
 ·exact .inl h0
 ·refine .inr ⟨b,off,rfl,fun i hi=>?_⟩;have hne:b≠g:=hg (by omega) _ rfl;rw [hU.cell _ hne rfl,hU.cell _ hne rfl];exact hc i hi
theorem rowP_lt {w:World} {p:Option Addr} {n:Nat} {l:List Pr} (h:ora.RowP w p n l):0<n→∀ y,p=some y→y.block<w.heap.size:=fun hn y hy=>by
 obtain ⟨b,off,h8,l8,_⟩:=h.at hn;rw [h8] at hy;cases hy;exact l8
end vnd
end Go.Proofs.YtnpblpbohcegoaaGreatDoor
