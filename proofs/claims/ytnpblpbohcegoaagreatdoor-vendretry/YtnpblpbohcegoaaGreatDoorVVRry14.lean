import Derived.Test.YtnpblpbohcegoaaGreatDoorVVRry11
set_option linter.unusedVariables false
set_option linter.unusedSimpArgs false
set_option maxHeartbeats 4000000
set_option maxRecDepth 100000
namespace Go.Proofs.YtnpblpbohcegoaaGreatDoor
namespace rcp
open Go.RowKit
def Rc.cs (r:Rc):Array Value:=#[zI r.me,zI r.id,zI r.te,zI r.de,zI r.fe,zI r.pr,zI r.ch,zI r.un,.string ⟨r.tk.toArray⟩]
def Rc.v (r:Rc):Value:= .agg r.cs
end rcp
namespace disk
open Go.RowKit cell
theorem rec_at {c:List Int} {p m x:Nat} (hm:(c.getD p 0).toNat=m) (hx:x<m):(recAt c p).getD x 0=c.getD (p+1+x) 0:=by
 unfold recAt;rw [hm];simp [List.getD,List.getElem?_drop,hx]
theorem rec_len {c:List Int} {p m:Nat} (hm:(c.getD p 0).toNat=m) (hf:p+m<c.length):(recAt c p).length=m:=by
 unfold recAt;rw [hm,List.length_take,List.length_drop];omega
theorem clone_any (x:Addr) (len cap:Nat) (zs:List Int) (w:World) (hr:RowU w (some x) len zs) (hl:len≤100000) :
  Calls Tryz.prog 64 #[.slice (some x) len cap] w fun e w'=>GaveU w zs e w':=by
 obtain ⟨i0,hi,hz0,hz1,hz2⟩:=info_parts info_u32;obtain ⟨hz,hr⟩:=hr;have hown:(w.alloc (.cells #[] 99)).ownsRow w.heap.size 99 1 (.slice (some ⟨w.heap.size,0,none⟩) 0 0) 0 []:=World.ownsRow_lit w #[] 0 (Nat.le_refl _) (by unfold maxLen;omega) rfl;have HO:Hid ((w.alloc (.cells #[] 99)).ownsRow w.heap.size 99 1 (.slice (some ⟨w.heap.size,0,none⟩) 0 0) 0 []):=hown;have HSZ:Hid (w.heap.size≤(w.alloc (.cells #[] 99)).heap.size):=alloc_le (Nat.le_refl _) _;clear hown;have heq:∀ W:World,(binOp BinOp.eql 25 (.slice (some x) len cap) (zS)).run Tryz.prog W = .ok (.bool false) W:=fun W=>by kernel_rfl
 go_enter Tryz.func64,Tryz.ntmps64
 go_wp2_with (first
  | (at_builtin;refine wpList_append_own _ rfl _ _ 25 rfl w.heap.size 99 i0 (.int .u32 0) 1 4 Tryz.underlying25 hi hz0 hz1 hz2 rfl (by decide) _ _ _ rfl HO.o x len cap (zs.map (.int .u32)) rfl ?c0 ?c1 ?c2 ?c3 ?c4 HSZ.o ?_)
  | go_in)
 case c0=>simp [hz]
 case c1=>
  intro j u hu;rcases hr with h | ⟨b,off,h,hc⟩
  ·rw [List.getElem?_eq_none (by simp;omega)] at hu;cases hu
  ·obtain rfl:=Option.some.inj h;by_cases hj:j<zs.length
   ·simp [List.getElem?_eq_getElem hj] at hu;subst hu;have:=hc j (by omega);rw [Addr.add_lit,World.cell?_alloc_lt w _ _ (World.block_lt_of_cell? w _ this)];simpa [List.getD,List.getElem?_eq_getElem hj] using this
   ·rw [List.getElem?_eq_none (by simp;omega)] at hu;cases hu
 case c2=>intro u hu;obtain ⟨z,_,rfl⟩:=List.mem_map.1 hu;rfl
 case c3=>unfold maxLen;omega
 case c4=>omega
 intro v' w' hown hg _;have HW:Hid (Ws w' w.heap.size v' zs):=by show w'.ownsRow _ _ _ _ _ _;rw [hz];simpa using hown
 have HG:Hid (Below w.heap.size w w'):=own_bel HO.o hg ((Below.refl _ _).alloc (Nat.le_refl _) _) (Nat.le_refl _) HSZ.o;clear hown hg;go_wp2;go_ret;exact GaveU.mk HW.o HG.o
theorem step_sli {P:Program} {T S:TypeId} (hP:SliT P T S) {w:World} {ops:Array Oper} {o:Oper} {a:Act} {K:Act→World→Prop} {Q:Exit→Act→World→Prop} {E:Prop} (hgd:o.guard=none) (s x:Operand)
  (ho:o.op = .call { callee:= .builtin .append,args:=#[s,x],argTypes:=#[S,S] })
  (base G:Nat) (v:Value) (l:List Sli) (r:Sli) (hs:a.eval s=v) (hx:a.eval x = .slice (some ⟨G,0,none⟩) 1 1) (hv:Lr T w base v l) (hu:w.cell? ⟨G,0,none⟩=some r.v) (hn:l.length≤1000000) (hbase:base≤w.heap.size)
  (h:∀ v' w',Lr T w' base v' (l++[r])→w.grownBy w' v.ownBlock→(v'.ownBlock=v.ownBlock∨v'.ownBlock=some w.heap.size)→K (a.put o.dst v') w'):if Region.wanted o (yielded ops a.tmps)=true then Oper.wp P o a w K Q else E:=by
 have hw:Region.wanted o (yielded ops a.tmps)=true:=by simp [Region.wanted,hgd]
 rw [if_pos hw];obtain ⟨i0,hi,hz0,hz1,hz2⟩:=info_parts hP.info
 obtain ⟨v',w',hr,h2,h3,_,h4⟩:=run_append_own_at (P:=P) w base S o.type T i0 (sl0.v) 1 24 hP.under hi hz0 hz1 hz2 rfl (by decide) v l.length (cellsR l) hv ⟨G,0,none⟩ 1 1 (cellsR [r]) rfl (by
  intro j u hj
  match j,hj with
  | 0,hj=>simp [cellsR] at hj;subst hj;simpa [Addr.add] using hu
  | j+1,hj=>simp [cellsR] at hj) (oneR [r]) (by unfold maxLen;omega) (by omega) hbase
 unfold Oper.wp execOp;simp only [ho,resolve,invoke,builtin,Sem.run_bind,Sem.run_pure,Result.andThen_ok,List.map_toArray,List.map_cons,List.map_nil,hs,hx,hr];refine h v' w' ?_ h3 h4;unfold Lr;rw [List.length_append];unfold cellsR at *;rw [List.map_append];exact h2
theorem wp_letOne {P:Program} {o:Oper} {a:Act} {w:World} {K:Act→World→Prop} {Q:Exit→Act→World→Prop} (ty:TypeId) (x y:Operand) (ho:o.op = .store ty x y)
  (g:Nat) (hx:a.eval x = .pointer (some ⟨g,0,none⟩)) (v:Value) (hy:a.eval y=v) (hv:v.cells=#[v]) (hi:(P.info? ty).map (·.size)=some 1) (h1:v.oneCell'=true)
  (u:Value) (t:TypeId) (hB:Blk w g #[u] t) (hd:o.dst=none)
  (h:∀ W,Upd w W g #[v] t→K a W):o.wp P a w K Q:=by
 have hs:=run_storeVar_let (P:=P) (w:=w) (g:=g) (off:=0) (ty:=ty) (t:=t) (v:=v) (cells:=#[v]) (cs:=#[u]) hv (by simpa using hi) (by simpa using h1) hB (by simp);have hu:=upd_cells g t [v] 0 w #[u] hB;unfold Oper.wp execOp;simp only [ho,hx,hy,Instr.storeAt,Instr.sureAddr,Sem.run_bind,Sem.run_pure,Result.andThen_ok,hs];have:=h _ hu;have e:a.put o.dst undef=a:=by rw [hd];rfl
 rw [← e] at this;exact this
structure Box (w:World) (L:Nat) (V:Value) (sl:List Sli) (zs:List (List Int)) (W:World):Prop where
 blk:Blk W L #[V] 104
 row:Lr 25 W (L+1) V sl
 recs:Recs W V.ownBlock sl zs
 new:∀ i,i<sl.length→((sl.getD i sl0).n≤100000∧(sl.getD i sl0).n≤(sl.getD i sl0).c∧((sl.getD i sl0).a=none→(sl.getD i sl0).c=0))∧∀ x,(sl.getD i sl0).a=some x→L+1≤x.block
 bel:Below L w W
theorem Box.next {w:World} {L:Nat} {V:Value} {sl:List Sli} {zs:List (List Int)} {W W':World} (h:Box w L V sl zs W) (hb:Below W.heap.size W W'):Box w L V sl zs W':=
 ⟨h.blk.next hb,h.row.next hb,h.recs.below hb,h.new,h.bel.trans (hb.mono (Nat.le_of_lt h.blk.lt))⟩
theorem Box.far {w:World} {L:Nat} {V:Value} {sl:List Sli} {zs:List (List Int)} {W:World} (h:Box w L V sl zs W):some L≠V.ownBlock:=own_far h.row (Nat.lt_succ_self _)
theorem Box.kept {w:World} {L:Nat} {V:Value} {sl:List Sli} {zs:List (List Int)} {W W':World} (h:Box w L V sl zs W) (hg:W.grownBy W' V.ownBlock):Blk W' L #[V] 104:=by
 have h1:W.heap[L]?=_:=h.blk;show W'.heap[L]?=_;rw [hg.block L h.blk.lt h.far];exact h1
theorem lr_upd {T t:TypeId} {w W:World} {L:Nat} {cs:Array Value} {v:Value} {l:List Sli} (h:Lr T w (L+1) v l) (hU:Upd w W L cs t):Lr T W (L+1) v l:=by
 refine ⟨h.1,?_⟩;rcases h.2 with hn | ⟨g,cap,cur,hv,hg,hc,rest⟩
 ·exact .inl hn
 ·exact .inr ⟨g,cap,cur,hv,hg,hU.keep hc (by omega),rest⟩
theorem snoc_at (sl:List Sli) (r:Sli) (i:Nat) (hi:i<(sl++[r]).length):(i<sl.length∧(sl++[r]).getD i sl0=sl.getD i sl0)∨(i=sl.length∧(sl++[r]).getD i sl0=r):=by
 by_cases h1:i<sl.length
 ·exact .inl ⟨h1,by simp [List.getD,List.getElem?_append_left h1]⟩
 ·have hi':i=sl.length:=by simp at hi;omega
  exact .inr ⟨hi',by rw [hi'];simp [List.getD]⟩
theorem box_step {w U W3 W4:World} {L:Nat} {V v:Value} {sl:List Sli} {r:Sli} {zs:List (List Int)} {R:List Int} (hB:Box w L V sl zs U) {g off:Nat} (ha:r.a=some ⟨g,off,none⟩) (hg:g<U.heap.size) (hne:some g≠V.ownBlock) (hL:L+1≤g) (hrow:RowU U r.a r.n R) (hn:r.n≤100000∧r.n≤r.c∧(r.a=none→r.c=0))
  (h3:Lr 25 W3 (L+1) v (sl++[r])) (hgr:U.grownBy W3 V.ownBlock) (ho:v.ownBlock=V.ownBlock∨v.ownBlock=some U.heap.size) (hU:Upd W3 W4 L #[v] 104):Box w L v (sl++[r]) (zs++[R]) W4:=by
 have hnew:∀ i,i<(sl++[r]).length→(((sl++[r]).getD i sl0).n≤100000∧((sl++[r]).getD i sl0).n≤((sl++[r]).getD i sl0).c∧(((sl++[r]).getD i sl0).a=none→((sl++[r]).getD i sl0).c=0))∧∀ x,((sl++[r]).getD i sl0).a=some x→L+1≤x.block:=fun i hi=>by
  rcases snoc_at sl r i hi with ⟨h1,e⟩ | ⟨_,e⟩
  ·rw [e];exact hB.new i h1
  ·rw [e];refine ⟨hn,fun x hx=>?_⟩;rw [ha] at hx;cases hx;exact hL
 have hrc:Recs W3 v.ownBlock (sl++[r]) (zs++[R]):=(hB.recs.snoc (s:=r) (z:=R) ⟨⟨g,off,ha,hg,hne⟩,hrow⟩).grown hgr ho;refine ⟨hU.blk,lr_upd h3 hU,⟨hrc.1,fun i hi=>?_⟩,hnew,?_⟩
 ·obtain ⟨⟨b,o,e1,e2,e3⟩,e4⟩:=hrc.2 i hi;have hLb:=(hnew i hi).2 _ e1;refine ⟨⟨b,o,e1,by rw [hU.size];exact e2,e3⟩,e4.1,?_⟩;rcases e4.2 with h0 | ⟨b',o',e5,hc⟩
  ·exact .inl h0
  ·rw [e1] at e5;cases e5;exact .inr ⟨b,o,e1,fun j hj=>(hU.cell ⟨b,o+j,none⟩ (by show b≠L;simp only at hLb;omega) rfl).trans (hc j hj)⟩
 ·refine hU.bel _ _ (Nat.le_refl _) ?_;exact own_bel hB.row hgr hB.bel (Nat.le_succ _) (Nat.le_of_lt hB.blk.lt)
theorem Box.reads {w:World} {L:Nat} {V:Value} {sl:List Sli} {zs:List (List Int)} {W:World} (h:Box w L V sl zs W):∃ a cap,V = .slice a zs.length cap∧ReadsF W L a zs.length zs:=by
 obtain ⟨a,cap,hv⟩:=h.row.len;have hl:=h.recs.1;refine ⟨a,cap,by rw [← hl];exact hv,rfl,?_⟩;by_cases h0:zs.length=0
 ·exact .inl h0
 ·obtain ⟨g,cap2,hv2,hge,lg,_,hc⟩:=h.row.row (by rw [hl];omega);rw [hv] at hv2;injection hv2 with ea _ _
  refine .inr ⟨g,0,ea,by omega,lg,fun i hi=>?_⟩;have hi':i<sl.length:=by rw [hl];exact hi
  refine ⟨sl.getD i sl0,by rw [Nat.zero_add];exact hc i hi',(h.recs.2 i hi').2,(h.new i hi').1,fun x hx=>?_⟩;have:=(h.new i hi').2 x hx;omega
end disk
namespace book
open Go.RowKit
theorem eqI (d:Nat) (a b:Int) (w:World):(Op.equalIn (d+1) 3 (zI a) (zI b)).run Tryz.prog w = .ok (a == b) w:=run_equalIn_int w d _ _ _ a b Tryz.underlying3
open cell
def DecGot (w:World) (l:List Int) (e:Ending) (w':World):Prop:=∃ v f,e = .returned (.tuple #[Ev.v v,zI f])∧DecIs l v f∧Below w.heap.size w w'
def KDec:Prop:=∀ (W:World) (a:Option Addr) (n cap:Nat) (l:List Int),RowU W a n l→(a=none→cap=0)→n≤cap→n*4≤140737488351232→(∀ x∈l,0≤x∧x<4294967296)→Calls Tryz.prog 36 #[.slice a n cap] W fun e w'=>DecGot W l e w'
end book
namespace acc
open tar (Du du0 Came RowD Ld PairT)
open Go.RowKit
structure Chg (w W:World) (g:Nat):Prop where
 os:W.os=w.os
 tape:W.tape=w.tape
 output:W.output=w.output
 size:w.heap.size≤W.heap.size
 oth:∀ k,k<w.heap.size→k≠g→W.heap[k]?=w.heap[k]?
theorem Chg.refl (w:World) (g:Nat):Chg w w g:=⟨rfl,rfl,rfl,Nat.le_refl _,fun _ _ _=>rfl⟩
theorem Chg.trans {w W V:World} {g:Nat} (h:Chg w W g) (h':Chg W V g):Chg w V g:=
 ⟨h'.os.trans h.os,h'.tape.trans h.tape,h'.output.trans h.output,Nat.le_trans h.size h'.size,fun k hk hne=>(h'.oth k (Nat.lt_of_lt_of_le hk h.size) hne).trans (h.oth k hk hne)⟩
theorem Chg.of {w W:World} {g:Nat} (hb:Below w.heap.size w W):Chg w W g:=⟨hb.os,hb.tape,hb.output,hb.size,fun k hk _=>hb.block k hk⟩
theorem Chg.upd {w W:World} {g:Nat} {cs:Array Value} {t:TypeId} (hu:Upd w W g cs t):Chg w W g:=by
 have h:=hu.bel 0 w (Nat.zero_le _) (Below.refl _ _);exact ⟨h.os,h.tape,h.output,h.size,fun k _ hne=>hu.oth k hne⟩
theorem Chg.keep {w W:World} {g G:Nat} {cs:Array Value} {t:TypeId} (h:Chg w W g) (hb:Blk w G cs t) (hne:G≠g):Blk W G cs t:=by
 have hl:=hb.lt;unfold Blk at *;rw [h.oth G hl hne];exact hb
theorem Chg.bel {w W:World} {g:Nat} (h:Chg w W g) (hl:g≤w.heap.size):Below g w W:=
 ⟨h.os,h.tape,h.output,h.size,fun k hk=>h.oth k (by omega) (by omega)⟩
def Far (p:Option Addr) (len g:Nat):Prop:=0<len→∀ y,p=some y→y.block≠g
theorem row_chg {w W:World} {g:Nat} {p:Option Addr} {len:Nat} {l:List Du} (h:RowD w p len l) (hc:Chg w W g) (hf:Far p len g):RowD W p len l:=by
 refine ⟨h.1,?_⟩;rcases Nat.eq_zero_or_pos len with h0 | h0
 ·exact .inl h0
 ·obtain ⟨b,off,rfl,hb,hcs⟩:=h.at h0;have hne:b≠g:=hf h0 _ rfl;refine .inr ⟨b,off,rfl,fun i hi=>?_⟩;have e:∀ o,W.cell? ⟨b,o,none⟩=w.cell? ⟨b,o,none⟩:=fun o=>by simp only [World.cell?,hc.oth b hb hne]
  rw [e,e];exact hcs i hi
theorem came_chg {w W:World} {g:Nat} {p:Option Addr} {len cap:Nat} {l:List Du} (h:Came w p len cap l) (hc:Chg w W g) (hf:Far p len g):Came W p len cap l:=⟨row_chg h.row hc hf,h.nil,h.room,h.bytes,h.wf⟩
theorem fresh_far {w:World} {g:Nat} {p:Option Addr} {len cap:Nat} {l:List Du} (h:deb.Fresh w (g+1) p len cap l):Far p len g:=fun hn y hy=>by have:=h.new hn y hy;omega
theorem fresh_chg {w W:World} {g:Nat} {p:Option Addr} {len cap:Nat} {l:List Du} (h:deb.Fresh w (g+1) p len cap l) (hc:Chg w W g):deb.Fresh W (g+1) p len cap l:=⟨came_chg h.came hc (fresh_far h),h.new⟩
def wcs (x:Ac) (b:Bi) (p:Option Addr) (len cap:Nat):Array Value:=#[zI x.me,zI x.rv,zI x.nx,zI x.mo,zI x.bo,zI x.fr,.slice p len cap,zI b.id,zI b.te,zI b.de,zI b.fe,zI b.pr,zI b.ch,zI b.un]
def WPost (w:World) (g:Nat) (R:Ac→Bi→Int→Prop) (e:Ending) (w':World):Prop:=∃ y b q n c f,e = .returned (zI f)∧R y b f∧Blk w' g (wcs y b q n c) 252∧deb.Fresh w' (g+1) q n c y.ds∧Below g w w'
def DPost (w:World) (g:Nat) (R:Ac→Bi→Int→Prop) (e:Ending) (w':World):Prop:=∃ y b q n c f,e = .returned (zI f)∧R y b f∧Blk w' g (wcs y b q n c) 252∧deb.Fresh w' (g+1) q n c y.ds∧Chg w w' g
theorem DPost.w {w w':World} {g:Nat} {R:Ac→Bi→Int→Prop} {e:Ending} (h:DPost w g R e w') (hl:g≤w.heap.size):WPost w g R e w':=by
 obtain ⟨y,b,q,n,c,f,h1,h2,h3,h4,h5⟩:=h;exact ⟨y,b,q,n,c,f,h1,h2,h3,h4,h5.bel hl⟩
def Or0 (Is:Ac→Bi→Int→Prop) (y:Ac) (b:Bi) (f:Int):Prop:=(f≠0∧Is ac0 bi0 f)∨(f=0∧Is y b 0)
theorem blk_new4 (w:World) (o p q r:Obj) (cs:Array Value) (t:TypeId):Blk (((((w.alloc o).alloc p).alloc q).alloc r).alloc (.cells cs t)) (w.heap.size+1+1+1+1) cs t:=by
 have h:=Blk.new ((((w.alloc o).alloc p).alloc q).alloc r) cs t
 rwa [show ((((w.alloc o).alloc p).alloc q).alloc r).heap.size=w.heap.size+1+1+1+1 by simp] at h
theorem blk_new5 (w:World) (o p q r s:Obj) (cs:Array Value) (t:TypeId):Blk ((((((w.alloc o).alloc p).alloc q).alloc r).alloc s).alloc (.cells cs t)) (w.heap.size+1+1+1+1+1) cs t:=by
 have h:=Blk.new (((((w.alloc o).alloc p).alloc q).alloc r).alloc s) cs t
 rwa [show (((((w.alloc o).alloc p).alloc q).alloc r).alloc s).heap.size=w.heap.size+1+1+1+1+1 by simp] at h
theorem wp_letOp1 {P:Program} {o:Oper} {a:Act} {w:World} {K:Act→World→Prop} {Q:Exit→Act→World→Prop} (ty:TypeId) (x y:Operand) (ho:o.op = .store ty x y)
  (g off:Nat) (hx:a.eval x = .pointer (some ⟨g,off,none⟩)) (v:Value) (hy:a.eval y=v) (hv:v.cells=#[v]) (hi:(P.info? ty).map (·.size)=some 1) (h1:v.oneCell'=true)
  (cs:Array Value) (t:TypeId) (hB:Blk w g cs t) (hin:off<cs.size) (hd:o.dst=none)
  (h:∀ W,Upd w W g (cs.setIfInBounds off v) t→K a W):o.wp P a w K Q:=by
 have hs:=run_storeVar_let (P:=P) (w:=w) (g:=g) (off:=off) (ty:=ty) (t:=t) (v:=v) (cells:=#[v]) (cs:=cs) hv (by simpa using hi) (by simpa using h1) hB (by simp;omega);have hu:=upd_cells g t [v] off w cs hB;unfold Oper.wp execOp;simp only [ho,hx,hy,Instr.storeAt,Instr.sureAddr,Sem.run_bind,Sem.run_pure,Result.andThen_ok,hs];have:=h _ hu;have e:a.put o.dst undef=a:=by rw [hd];rfl
 rw [← e] at this;exact this
theorem awithin (lo hi n:Int) (w:World):Calls Tryz.prog 69 #[zI lo,zI hi,zI n] w fun e w'=>e = .returned (.bool (decide (lo≤n∧n≤hi)))∧w'=w:=by
 by_cases h1:lo≤n
 ·by_cases h2:n≤hi
  ·have h3:decide (lo≤n∧n≤hi)=true:=by simp;omega
   rw [h3];clear h3;go_enter Tryz.func69,Tryz.ntmps69;go_wp2;go_ret;exact ⟨rfl,rfl⟩
  ·have h3:decide (lo≤n∧n≤hi)=false:=by simp;omega
   have h4:decide (n≤hi)=false:=by simp;omega
   rw [h3];clear h3 h2;go_enter Tryz.func69,Tryz.ntmps69;go_wp2;go_ret;exact ⟨rfl,rfl⟩
 ·have h3:decide (lo≤n∧n≤hi)=false:=by simp;omega
  have h4:decide (lo≤n)=false:=by simp;omega
  rw [h3];clear h3 h1;go_enter Tryz.func69,Tryz.ntmps69;go_wp2;go_ret;exact ⟨rfl,rfl⟩
def KcCheck:Prop:=∀ (W:World) (t:Tm) (pt:Option Addr) (lt ct:Nat),TCame W t pt lt ct→Calls Tryz.prog 37 #[t.v pt lt ct] W fun e w'=>tar.ErrPost W (TFault t) e w'
theorem kcheck:KcCheck:=by
 intro w t pt lt ct hc;have h:=hc.ts;unfold Tm.v;have HI0:Hid (∀ W,Calls Tryz.prog 69 #[zI 0,zI 100000,zI t.ff] W fun e w'=>e = .returned (.bool (decide (0≤t.ff∧t.ff≤100000)))∧w'=W):=fun W=>awithin 0 100000 t.ff W;have HI1:Hid (∀ W,Calls Tryz.prog 69 #[zI 0,zI 10000,zI t.fb] W fun e w'=>e = .returned (.bool (decide (0≤t.fb∧t.fb≤10000)))∧w'=W):=fun W=>awithin 0 10000 t.fb W;have HI2:Hid (∀ W,Calls Tryz.prog 69 #[zI 0,zI 10000,zI t.db] W fun e w'=>e = .returned (.bool (decide (0≤t.db∧t.db≤10000)))∧w'=W):=fun W=>awithin 0 10000 t.db W;have HI3:Hid (∀ W,Calls Tryz.prog 69 #[zI 0,zI 2097151,zI t.al] W fun e w'=>e = .returned (.bool (decide (0≤t.al∧t.al≤2097151)))∧w'=W):=fun W=>awithin 0 2097151 t.al W;obtain ⟨WW,HWW,HBK,HBA,-⟩:=sh1 w #[.slice pt lt ct,zI t.ff,zI t.fb,zI t.db,zI t.al] 24;have HTO:Hid (Calls Tryz.prog 68 #[.slice pt lt ct] WW fun e w'=>tar.ErrPost WW (tar.FaultIs t.ts) e w'):=tar.kcheck _ pt lt ct t.ts (h.below HBA.o);have c0:WW.cell? ⟨w.heap.size,0,none⟩=some (.slice pt lt ct):=HBK.o.cell 0;clear h hc;go_enter Tryz.func37,Tryz.ntmps37;go_upto_region 1 with fail
 rw [HWW.o];clear HWW;go_wp2_with fail;refine HTO.o.mono ?_;rintro e w1 ⟨f,rfl,hf,hb1⟩;have HB1:=shB HBA hb1;have HK1:=shN HBK hb1;have HF:Hid (tar.FaultIs t.ts f):=hf;clear hf hb1 HTO HBA HBK c0;obtain ⟨c0,c1,c2,c3,c4⟩:=scl5 HK1;by_cases h0:f=0
 ·have HR:Hid (tar.Right t.ts):=HF.o.ok.1 h0;subst h0;by_cases g0:0≤t.ff∧t.ff≤100000
  ·rw [decide_eq_true g0] at HI0;go_wp2_with fail;refine (HI0.o _).mono ?_;rintro e w2 ⟨rfl,hw2⟩;subst w2;by_cases g1:0≤t.fb∧t.fb≤10000
   ·rw [decide_eq_true g1] at HI1;go_wp2_with fail;refine (HI1.o _).mono ?_;rintro e w2 ⟨rfl,hw2⟩;subst w2;by_cases g2:0≤t.db∧t.db≤10000
    ·rw [decide_eq_true g2] at HI2;go_wp2_with fail;refine (HI2.o _).mono ?_;rintro e w2 ⟨rfl,hw2⟩;subst w2;by_cases g3:0≤t.al∧t.al≤2097151
     ·rw [decide_eq_true g3] at HI3;go_wp2_with fail;refine (HI3.o _).mono ?_;rintro e w2 ⟨rfl,hw2⟩;subst w2;have HV:Hid (TFault t 0):= .inr (.inr ⟨⟨HR.o,g0,g1,g2,g3⟩,rfl⟩);clear g0 g1 g2 g3;go_wp2_with fail;go_ret;exact ⟨0,rfl,HV.o,HB1.o⟩
     ·rw [decide_eq_false g3] at HI3;have HV:Hid (TFault t 2):= .inr (.inl ⟨HR.o,fun h=>g3 h.2.2.2,rfl⟩);clear g3;go_wp2_with fail;refine (HI3.o _).mono ?_;rintro e w2 ⟨rfl,hw2⟩;subst w2;go_wp2_with fail
      all_goals first
       | (rename_i q1 q2;exact absurd q1 (by simp [undef]))
       | (go_ret;exact ⟨2,rfl,HV.o,HB1.o⟩)
    ·rw [decide_eq_false g2] at HI2;have HV:Hid (TFault t 2):= .inr (.inl ⟨HR.o,fun h=>g2 h.2.2.1,rfl⟩);clear g2;go_wp2_with fail;refine (HI2.o _).mono ?_;rintro e w2 ⟨rfl,hw2⟩;subst w2;go_wp2_with fail
     all_goals first
      | (rename_i q1 q2;exact absurd q1 (by simp [undef]))
      | (go_ret;exact ⟨2,rfl,HV.o,HB1.o⟩)
   ·rw [decide_eq_false g1] at HI1;have HV:Hid (TFault t 2):= .inr (.inl ⟨HR.o,fun h=>g1 h.2.1,rfl⟩);clear g1;go_wp2_with fail;refine (HI1.o _).mono ?_;rintro e w2 ⟨rfl,hw2⟩;subst w2;go_wp2_with fail
    all_goals first
     | (rename_i q1 q2;exact absurd q1 (by simp [undef]))
     | (go_ret;exact ⟨2,rfl,HV.o,HB1.o⟩)
  ·rw [decide_eq_false g0] at HI0;have HV:Hid (TFault t 2):= .inr (.inl ⟨HR.o,fun h=>g0 h.1,rfl⟩);clear g0;go_wp2_with fail;refine (HI0.o _).mono ?_;rintro e w2 ⟨rfl,hw2⟩;subst w2;go_wp2_with fail
   all_goals first
    | (rename_i q1 q2;exact absurd q1 (by simp [undef]))
    | (go_ret;exact ⟨2,rfl,HV.o,HB1.o⟩)
 ·have d0:(f != 0)=true:=by simpa using h0
  have HV:Hid (TFault t f):= .inl ⟨fun h=>h0 (HF.o.ok.2 h),HF.o⟩;clear h0;go_wp2_with fail;go_ret;exact ⟨f,rfl,HV.o,HB1.o⟩
def NumPost (w:World) (g:Nat) (x:Ac) (b:Bi) (p:Option Addr) (len cap:Nat) (e:Ending) (w':World):Prop:=
 Chg w w' g∧((¬ x.nx≤1048575∧e = .returned (zI 20)∧Blk w' g (wcs x b p len cap) 252)∨(x.nx≤1048575∧e = .returned (zI 0)∧Blk w' g (wcs { x with nx:=x.nx+1 } { b with id:=x.nx } p len cap) 252))
theorem pnum (g:Nat) (x:Ac) (b:Bi) (p:Option Addr) (len cap:Nat) (w:World) (hw:Blk w g (wcs x b p len cap) 252) (hn:1≤x.nx∧x.nx≤1048576):Calls Tryz.prog 161 #[.pointer (some ⟨g,0,none⟩)] w fun e w'=>NumPost w g x b p len cap e w':=by
 obtain ⟨me,rv,nx,mo,bo,fr,ds⟩:=x;obtain ⟨id,te,de,fe,pr,ch,un⟩:=b;simp only [] at hn;have HI:Hid (Blk w g #[zI me,zI rv,zI nx,zI mo,zI bo,zI fr,.slice p len cap,zI id,zI te,zI de,zI fe,zI pr,zI ch,zI un] 252):=hw;have q2:w.cell? ⟨g,2,none⟩=some (zI nx):=HI.o.cell 2;clear hw;by_cases h1:nx≤1048575
 ·have d1:decide (1048575<nx)=false:=decide_eq_false (by omega);have hwr:IntKind.i64.wrap (nx+1)=nx+1:=by rw [IntKind.wrap_i64];omega
  have H1:Hid (nx≤1048575):=h1;go_enter Tryz.func161,Tryz.ntmps161;go_wp2_with (first | (refine wp_let1 rfl 3 _ _ rfl g 7 rfl .i64 nx rfl (by kernel_rfl) #[zI me,zI rv,zI nx,zI mo,zI bo,zI fr,.slice p len cap,zI id,zI te,zI de,zI fe,zI pr,zI ch,zI un] 252 HI.o (by simp) ?_) | fail)
  intro W1 hU1;have HI1:Hid (Blk W1 g #[zI me,zI rv,zI nx,zI mo,zI bo,zI fr,.slice p len cap,zI nx,zI te,zI de,zI fe,zI pr,zI ch,zI un] 252):=hU1.blk;have HC1:Hid (Chg w W1 g):= .upd hU1;have q2':W1.cell? ⟨g,2,none⟩=some (zI nx):=HI1.o.cell 2;clear hU1 q2 HI d1;go_wp2_with (first | (refine wp_let1 rfl 3 _ _ rfl g 2 rfl .i64 (nx+1) rfl (by kernel_rfl) #[zI me,zI rv,zI nx,zI mo,zI bo,zI fr,.slice p len cap,zI nx,zI te,zI de,zI fe,zI pr,zI ch,zI un] 252 HI1.o (by simp) ?_) | fail)
  intro W2 hU2;have HI2:Hid (Blk W2 g #[zI me,zI rv,zI (nx+1),zI mo,zI bo,zI fr,.slice p len cap,zI nx,zI te,zI de,zI fe,zI pr,zI ch,zI un] 252):=hU2.blk;have HC2:Hid (Chg w W2 g):=HC1.o.trans (.upd hU2);clear hU2 q2' HI1 HC1;go_wp2_with fail;go_ret;exact ⟨HC2.o,.inr ⟨H1.o,rfl,HI2.o⟩⟩
 ·have d1:decide (1048575<nx)=true:=decide_eq_true (by omega);have H1:Hid (¬ nx≤1048575):=h1;clear h1 hn;go_enter Tryz.func161,Tryz.ntmps161;go_wp2_with fail;go_ret;exact ⟨Chg.refl _ _,.inl ⟨Int.not_le.2 H1.o,rfl,HI.o⟩⟩
def KcRekey:Prop:=∀ (W:World) (x:Ac) (p:Option Addr) (len cap:Nat),ACame W x p len cap→Calls Tryz.prog 79 #[x.v p len cap] W fun e w'=>BPost W (RekeyIs x) e w'
end acc
namespace words
open Go.RowKit
theorem timesStep_any (B M:Nat) (n x m:Int) (w:World) (hc:w.cell? ⟨B,0,none⟩=some (.int .u64 n)) (hf:w.frozen? ⟨B,0,none⟩=false) (hm:w.cell? ⟨M,0,none⟩=some (.int .u32 m)) (h0:0≤n) (h1:n<4294967296) (x0:0≤x) (x1:x<4294967296) (m0:0≤m) (m1:m<4294967296) :
  Calls Tryz.prog 130 #[.int .u32 x,.pointer (some ⟨B,0,none⟩),.pointer (some ⟨M,0,none⟩)] w fun e w'=>e = .returned (.int .u32 ((n+x*m) % 4294967296))∧Acc w w' B (.int .u64 ((n+x*m) / 4294967296)):=by
 have hA:Acc w w B (.int .u64 n):=Acc.refl hc hf;have HA:Hid (Acc w w B (.int .u64 n)):=hA;obtain ⟨p1,p2⟩:=prod_bd x0 x1 m0 m1;clear hA;go_enter Tryz.func130,Tryz.ntmps130;go_wp2_with fail;refine (cutWord_any B (n+x*m) _ (by apply World.cell?_setCell_same;exact hc) (by rw [World.frozen?_setCell];exact hf)).mono ?_;rintro e w' ⟨rfl,rfl⟩;go_wp2_with fail;go_ret;exact ⟨rfl,(HA.o.set _).set _⟩
end words
namespace ora
open Go.RowKit
def Given (w:World) (l:List Pr) (e:Ending) (w':World):Prop:=
 Below w.heap.size w w'∧((May l∧∃ B,e = .returned (.tuple #[.map (some B),.bool true])∧Mp w' B l)∨(¬ May l∧e = .returned (.tuple #[.map none,.bool false])))
def Seen (l:List Pr) (k:Nat):Prop:=∀ i,i<k→(l.getD i pr0).may∧At l (l.getD i pr0).m (l.getD i pr0).r (l.getD i pr0).b i
structure Bg (w wr:World) (B:Nat) (a:Option Addr) (n cap:Nat) (l:List Pr) (k:Nat):Prop where
 bo:Bo w wr a n cap l
 mp:Mp wr B (l.take k)
 hB:w.heap.size≤B
theorem Bg.next {w wr w':World} {B:Nat} {a:Option Addr} {n cap:Nat} {l:List Pr} {k:Nat} (h:Bg w wr B a n cap l k) (hb:Below wr.heap.size wr w'):Bg w w' B a n cap l k:=⟨h.bo.next hb,h.mp.below hb,h.hB⟩
theorem Bg.alloc {w wr:World} {B:Nat} {a:Option Addr} {n cap:Nat} {l:List Pr} {k:Nat} (h:Bg w wr B a n cap l k) (o:Obj):Bg w (wr.alloc o) B a n cap l k:=h.next ((Below.refl _ _).alloc (Nat.le_refl _) _)
theorem Bg.drew {w wr:World} {B:Nat} {a:Option Addr} {n cap:Nat} {l:List Pr} {k:Nat} (h:Bg w wr B a n cap l k) (q:Nat):Bg w (wr.drewN q) B a n cap l k:=h.next (bel_drew (Below.refl _ _) q)
theorem rowP_oth {w W:World} {a:Option Addr} {n:Nat} {l:List Pr} {B:Nat} {l':List Pr} (h:RowP w a n l) (hM:Mp w B l') (ho:∀ G,G≠B→W.heap[G]?=w.heap[G]?):RowP W a n l:=by
 refine ⟨h.1,?_⟩;rcases h.2 with h0 | ⟨b,off,rfl,hc⟩
 ·exact .inl h0
 ·refine .inr ⟨b,off,rfl,fun i hi=>?_⟩;obtain ⟨h1,h2,h3,h4⟩:=hc i hi
  have hb:b≠B:=by
   rintro rfl;unfold Mp at hM;simp [World.cell?,hM] at h1
  have e:∀ o,W.cell? ⟨b,o,none⟩=w.cell? ⟨b,o,none⟩:=fun o=>by simp only [World.cell?,ho b hb]
  exact ⟨(e _).trans h1,(e _).trans h2,(e _).trans h3,(e _).trans h4⟩
theorem blk_oth {w W:World} {G B:Nat} {cs:Array Value} {t:TypeId} {l':List Pr} (h:Blk w G cs t) (hM:Mp w B l') (ho:∀ G,G≠B→W.heap[G]?=w.heap[G]?):Blk W G cs t:=by
 have hb:G≠B:=by
  rintro rfl;unfold Mp at hM;unfold Blk at h;rw [h] at hM;cases hM
 unfold Blk at *;rw [ho G hb];exact h
theorem Bg.put {w wr W:World} {B:Nat} {a:Option Addr} {n cap:Nat} {l:List Pr} {k:Nat} (h:Bg w wr B a n cap l k) (hk:k<l.length) (hM:Mp W B (l.take k++[⟨(l.getD k pr0).m,(l.getD k pr0).r,(l.getD k pr0).b,(l.getD k pr0).t⟩]))
  (ho:∀ G,G≠B→W.heap[G]?=wr.heap[G]?) (hb:∀ B0 w0,B0≤B→Below B0 w0 wr→Below B0 w0 W):Bg w W B a n cap l (k+1):=
 ⟨⟨blk_oth h.bo.box h.mp ho,rowP_oth h.bo.row h.mp ho,hb _ _ h.hB h.bo.bel⟩,by rw [take_nextP l k hk] at hM;exact hM,h.hB⟩
theorem seen_no {l:List Pr} {k:Nat} (hk:k<l.length) (hm:May l):look (l.take k) (l.getD k pr0).m (l.getD k pr0).r (l.getD k pr0).b=none:=(look_take (by omega)).2 (hm.each k hk).2.first
theorem seen_yes {l:List Pr} {k:Nat} (hk:k<l.length) (hs:Seen l k) (hl:look (l.take k) (l.getD k pr0).m (l.getD k pr0).r (l.getD k pr0).b=none) (hp:(Pr.mk (l.getD k pr0).m (l.getD k pr0).r (l.getD k pr0).b (l.getD k pr0).t).may):Seen l (k+1):=fun i hi=>by
 by_cases e:i=k
 ·subst e;exact ⟨hp,hk,⟨rfl,rfl,rfl⟩,(look_take (by omega)).1 hl⟩
 ·exact hs i (by omega)
theorem given_any (a:Option Addr) (n cap:Nat) (l:List Pr) (w:World) (hr:RowP w a n l) :
  Calls Tryz.prog 187 #[.agg #[.slice a n cap]] w fun e w'=>Given w l e w':=by
 have HB0:Hid (Bo w (w.alloc (.cells #[.slice a n cap] 39)) a n cap l):=Bo.new hr;have HL:Hid (l.length=n):=hr.1;clear hr;have c0:=HB0.o.box.cell 0;by_cases hn:n≤500
 ·have hgt':decide ((500:Int)<(n:Int))=false:=by simp;omega
  obtain ⟨B,hBe⟩:∃ B,B=w.heap.size+1:=⟨_,rfl⟩
  have hmk:∀ z:Int,(Instr.makeMap 275 (some (zI z))).run Tryz.prog (w.alloc (.cells #[.slice a n cap] 39)) = .ok (.map (some B)) ((w.alloc (.cells #[.slice a n cap] 39)).alloc (.map #[] 0)):=fun z=>by rw [run_mkMap,hBe];simp
  have HG0:Hid (Bg w ((w.alloc (.cells #[.slice a n cap] 39)).alloc (.map #[] 0)) B a n cap l 0):=⟨HB0.o.alloc _,by
   have:=Mp.new (w.alloc (.cells #[.slice a n cap] 39));rw [show (w.alloc (.cells #[.slice a n cap] 39)).heap.size=B by rw [hBe];simp] at this
   rw [List.take_zero];exact this,by omega⟩
  have d0:=HG0.o.bo.box.cell 0;clear hBe HB0;have HPM:Hid (∀ W m r b t,Calls Tryz.prog 188 #[.agg #[zI m,zI r,zI b,zI t]] W fun e w'=>Told W (Pr.mk m r b t).may e w'):=fun W m r b t=>within_any m r b t W;have HOF:Hid (∀ W m r b t,Calls Tryz.prog 189 #[.agg #[zI m,zI r,zI b,zI t]] W fun e w'=>e = .returned (.agg #[zI m,zI r,zI b])∧Below W.heap.size W w'):=fun W m r b t=>of_any m r b t W;go_enter Tryz.func187,Tryz.ntmps187;go_wp2_with fail;clear c0 d0 hmk hgt';generalize (w.alloc (.cells #[.slice a n cap] 39)).alloc (.map #[] 0)=W0 at *;go_loopw [20] (fun j wr=>∃ k:Nat,k≤n∧j=zI (k:Int)∧Hid (Seen l k)∧Bg w wr B a n cap l k) (fun j _=>n - (intOf j).toNat)
  case atStart=>exact ⟨0,Nat.zero_le _,rfl,fun i hi=>absurd hi (Nat.not_lt_zero _),HG0.o⟩
  case round=>
   obtain ⟨k,hk,rfl,HA,hbo⟩:=hrel;have HI:Hid (Bg w wr B a n cap l k):=hbo;clear hbo HG0;by_cases hlt:k<n
   ·obtain ⟨bl,off,rfl,_,hc⟩:=HI.o.bo.row.at (by omega);obtain ⟨f0,f1,f2,f3⟩:=hc k hlt;have hkl:k<l.length:=by rw [HL.o];exact hlt
    have HNO:Hid (look (l.take k) (l.getD k pr0).m (l.getD k pr0).r (l.getD k pr0).b≠none→¬ May l):=fun h hm=>h (seen_no hkl hm);have HN1:Hid (May l→(Pr.mk (l.getD k pr0).m (l.getD k pr0).r (l.getD k pr0).b (l.getD k pr0).t).may):=fun hm=>(hm.each k hkl).1;have HNX:Hid (look (l.take k) (l.getD k pr0).m (l.getD k pr0).r (l.getD k pr0).b=none→(Pr.mk (l.getD k pr0).m (l.getD k pr0).r (l.getD k pr0).b (l.getD k pr0).t).may→Seen l (k+1)):=fun h1 h2=>seen_yes hkl HA.o h1 h2;have HPUT:Hid (∀ v W,Bg w v B (some ⟨bl,off,none⟩) n cap l k→Mp W B (l.take k++[⟨(l.getD k pr0).m,(l.getD k pr0).r,(l.getD k pr0).b,(l.getD k pr0).t⟩])→(∀ G,G≠B→W.heap[G]?=v.heap[G]?)→(∀ B0 w0,B0≤B→Below B0 w0 v→Below B0 w0 W)→Bg w W B (some ⟨bl,off,none⟩) n cap l (k+1)):=fun v W h1 h2 h3 h4=>h1.put hkl h2 h3 h4;clear hc HA hkl;generalize (l.getD k pr0).m=pm at *;generalize (l.getD k pr0).r=prr at *;generalize (l.getD k pr0).b=pb at *;generalize (l.getD k pr0).t=pt at *;have hN:=Blk.new wr #[zI pm,zI prr,zI pb,zI pt] 279;have n0:=hN.cell 0;have n1:=hN.cell 1;have n2:=hN.cell 2;have n3:=hN.cell 3;have HNB:Hid (Blk (wr.alloc (.cells #[zI pm,zI prr,zI pb,zI pt] 279)) wr.heap.size #[zI pm,zI prr,zI pb,zI pt] 279):=hN;have HI2:Hid (Bg w (wr.alloc (.cells #[zI pm,zI prr,zI pb,zI pt] 279)) B (some ⟨bl,off,none⟩) n cap l k):=HI.o.alloc _;clear hN HI;go_wp2_with fail;refine (HOF.o _ _ _ _ _).mono ?_;rintro e w2 ⟨rfl,hb2⟩;have HI3:Hid (Bg w w2 B (some ⟨bl,off,none⟩) n cap l k):=HI2.o.next hb2;have HM:=shN HNB hb2;have m0:=HM.o.cell 0;have m1:=HM.o.cell 1;have m2:=HM.o.cell 2;have m3:=HM.o.cell 3;have hlk:=look_run HI3.o.mp pm prr pb;clear HNB hb2 n0 n1 n2 n3 HI2 f0 f1 f2 f3;generalize wr.heap.size=gn at *;cases hlo:look (l.take k) pm prr pb with
    | some x=>
     rw [hlo] at hlk;simp only [Option.getD_some,Option.isSome_some] at hlk;have HF:Hid (¬ May l):=HNO.o (by rw [hlo];exact fun h=>by cases h);clear hlo;go_wp2_with fail;go_ret2;exact ⟨HI3.o.bo.bel,.inr ⟨HF.o,rfl⟩⟩
    | none=>
     rw [hlo] at hlk;simp only [Option.getD_none,Option.isSome_none] at hlk;have HLO:Hid (look (l.take k) pm prr pb=none):=hlo;clear hlo;go_wp2_with fail;refine (HPM.o _ _ _ _ _).mono ?_;rintro e w3 ⟨rr,rfl,hrr,hb3⟩;have HI4:Hid (Bg w w3 B (some ⟨bl,off,none⟩) n cap l k):=HI3.o.next hb3;have HM3:=shN HM hb3;clear hlk m0 m1 m2 m3 HM HI3 hb3;cases rr with
     | false=>
      have HF:Hid (¬ May l):=fun hm=>by have:=hrr.2 (HN1.o hm);cases this
      clear hrr;go_wp2_with fail;go_ret2;exact ⟨HI4.o.bo.bel,.inr ⟨HF.o,rfl⟩⟩
     | true=>
      have HPY:Hid ((Pr.mk pm prr pb pt).may):=hrr.1 rfl;clear hrr;have K3:Hid (w3.drew.cell? ⟨gn,0,none⟩=some (zI pm)∧w3.drew.cell? ⟨gn,0+1,none⟩=some (zI prr)∧w3.drew.cell? ⟨gn,0+2,none⟩=some (zI pb)∧w3.drew.cell? ⟨gn,0+3,none⟩=some (zI pt)):=⟨HM3.o.cell 0,HM3.o.cell 1,HM3.o.cell 2,HM3.o.cell 3⟩
      have HI5:Hid (Bg w w3.drew B (some ⟨bl,off,none⟩) n cap l k):=HI4.o.drew 1;have HM5:Hid (Blk w3.drew gn #[zI pm,zI prr,zI pb,zI pt] 279):=HM3.o;go_wp2_with fail
      go_region_held_law (fun v=>v.cell? ⟨gn,0,none⟩=some (zI pm)∧v.cell? ⟨gn,0+1,none⟩=some (zI prr)∧v.cell? ⟨gn,0+2,none⟩=some (zI pb)∧v.cell? ⟨gn,0+3,none⟩=some (zI pt))
       (first | with_reducible exact K3.o | with_reducible exact K4.o | with_reducible exact K5.o)
       (first
        | (go_at_call 189;refine (HOF.o _ _ _ _ _).mono ?_;rintro e w4 ⟨rfl,hb4⟩
           have HI6:Hid (Bg w w4 B (some ⟨bl,off,none⟩) n cap l k):=HI5.o.next hb4;have HM6:=shN HM5 hb4;have K4:Hid (w4.cell? ⟨gn,0,none⟩=some (zI pm)∧w4.cell? ⟨gn,0+1,none⟩=some (zI prr)∧w4.cell? ⟨gn,0+2,none⟩=some (zI pb)∧w4.cell? ⟨gn,0+3,none⟩=some (zI pt)):=⟨HM6.o.cell 0,HM6.o.cell 1,HM6.o.cell 2,HM6.o.cell 3⟩
           obtain ⟨W5,hu5,hm5,ho5,hb5,hs5⟩:=upd_run HI6.o.mp pm prr pb pt HLO.o;have HI7:Hid (Bg w W5 B (some ⟨bl,off,none⟩) n cap l (k+1)):=HPUT.o _ _ HI6.o hm5 ho5 hb5;have hM7:=blk_oth HM6.o HI6.o.mp ho5;have K5:Hid (W5.cell? ⟨gn,0,none⟩=some (zI pm)∧W5.cell? ⟨gn,0+1,none⟩=some (zI prr)∧W5.cell? ⟨gn,0+2,none⟩=some (zI pb)∧W5.cell? ⟨gn,0+3,none⟩=some (zI pt)):=⟨hM7.cell 0,hM7.cell 1,hM7.cell 2,hM7.cell 3⟩
           clear hm5 ho5 hb5 hs5 hM7 hb4))
      all_goals go_wp2_with fail
      all_goals go_roundw
      case rel=>exact ⟨k+1,by omega,by go_num,HNX.o HLO.o HPY.o,HI7.o⟩
      case measure=>simp [intOf];omega
   ·obtain rfl:k=n:=by omega
    have hlt':decide ((k:Int)<(k:Int))=false:=by simp
    have HF:Hid (May l):=⟨by rw [HL.o];exact hn,fun i hi=>HA.o i (by rw [← HL.o];exact hi)⟩
    have HM:Hid (Mp wr B l):=by have:=HI.o.mp;rw [List.take_of_length_le (by rw [HL.o];exact Nat.le_refl _)] at this;exact this
    clear hlt HA;go_wp2_with fail;go_ret2;exact ⟨HI.o.bo.bel,.inl ⟨HF.o,B,rfl,HM.o⟩⟩
 ·have hgt':decide ((500:Int)<(n:Int))=true:=by simp;omega
  have HF:Hid (¬ May l):=fun h=>by have:=h.few;rw [HL.o] at this;omega
  clear hn HL;go_enter Tryz.func187,Tryz.ntmps187;go_wp2_with fail;go_ret2;exact ⟨HB0.o.bel,.inr ⟨HF.o,rfl⟩⟩
def GaveV (w:World) (l:List Pr) (e:Ending) (w':World):Prop:=∃ v,e = .returned v∧Pw w' w.heap.size v l∧Below w.heap.size w w'
theorem pclone_some (x:Addr) (len cap:Nat) (l:List Pr) (w:World) (hr:RowP w (some x) len l) (hl:len≤1000) :
  Calls Tryz.prog 190 #[.slice (some x) len cap] w fun e w'=>GaveV w l e w':=by
 obtain ⟨i0,hi,hz0,hz1,hz2⟩:=info_parts info_pr;obtain ⟨hz,hr⟩:=hr;have HO:Hid ((w.alloc (.cells #[] 279)).ownsRow w.heap.size 279 4 (.slice (some ⟨w.heap.size,0,none⟩) 0 0) 0 []):=World.ownsRow_lit w #[] 0 (Nat.le_refl _) (by unfold maxLen;omega) rfl;have HSZ:Hid (w.heap.size≤(w.alloc (.cells #[] 279)).heap.size):=palloc_le (Nat.le_refl _) _;have heq:∀ W:World,(binOp BinOp.eql 37 (.slice (some x) len cap) (zS)).run Tryz.prog W = .ok (.bool false) W:=fun W=>by kernel_rfl
 go_enter Tryz.func190,Tryz.ntmps190
 go_wp2_with (first
  | (at_builtin;refine wpList_append_own _ rfl _ _ 37 rfl w.heap.size 279 i0 (.agg #[zI 0,zI 0,zI 0,zI 0]) 4 32 Tryz.underlying37 hi hz0 hz1 hz2 rfl (by decide) _ _ _ rfl HO.o x len cap (cellsP l) rfl ?c0 ?c1 ?c2 ?c3 ?c4 HSZ.o ?_)
  | go_in)
 case c0=>rw [cellsP_len,hz]
 case c1=>
  intro j u hu;rcases hr with h | ⟨b,off,h,hc⟩
  ·have:l=[]:=List.length_eq_zero_iff.1 (by omega);subst this;simp [cellsP] at hu
  ·obtain rfl:=Option.some.inj h;have:=cellsP_get hz hc j u hu;rw [Addr.add_lit,World.cell?_alloc_lt w _ _ (World.block_lt_of_cell? w _ this)];exact this
 case c2=>exact oneP l
 case c3=>unfold maxLen;omega
 case c4=>omega
 intro v' w' hown hg _;have HW:Hid (Pw w' w.heap.size v' l):=by show w'.ownsRow _ _ _ _ _ _;rw [hz];simpa using hown
 have HG:Hid (Below w.heap.size w w'):=pown_bel HO.o hg ((Below.refl _ _).alloc (Nat.le_refl _) _) (Nat.le_refl _) HSZ.o;clear hown hg;go_wp2;go_ret;exact ⟨v',rfl,HW.o,HG.o⟩
theorem pclone_none (cap:Nat) (w:World) :
  Calls Tryz.prog 190 #[.slice none 0 cap] w fun e w'=>GaveV w [] e w':=by
 have heq:∀ W:World,(binOp BinOp.eql 37 (.slice none 0 cap) (zS)).run Tryz.prog W = .ok (.bool true) W:=fun W=>by kernel_rfl
 go_enter Tryz.func190,Tryz.ntmps190;go_wp2_with fail;go_ret;exact ⟨_,rfl,Pw.zero _ _,Below.refl _ _⟩
theorem pclone_any (a:Option Addr) (len cap:Nat) (l:List Pr) (w:World) (hr:RowP w a len l) (hl:len≤1000) :
  Calls Tryz.prog 190 #[.slice a len cap] w fun e w'=>GaveV w l e w':=by
 cases a with
 | some x=>exact pclone_some x len cap l w hr hl
 | none=>
  have h0:len=0:=by
   rcases hr.2 with h | ⟨_,_,h,_⟩
   ·exact h
   ·cases h
  subst h0;have:l=[]:=List.length_eq_zero_iff.1 hr.1;subst this;exact pclone_none cap w
end ora
end Go.Proofs.YtnpblpbohcegoaaGreatDoor
