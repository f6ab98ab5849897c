import Derived.Test.YtoepgdhiepedeaaGreatDoorVVSls28
import Derived.Test.YtoepgdhiepedeaaGreatDoorVVSls34
set_option linter.unusedVariables false
set_option linter.unusedSimpArgs false
set_option maxHeartbeats 4000000
set_option maxRecDepth 100000
namespace Go.Proofs.YtoepgdhiepedeaaGreatDoor
namespace disk
open Go.RowKit cell
theorem clone_any(x:Addr)(len cap:Nat)(zs:List Int)(w:World)(hr:RowU w (some x) len zs)(hl:len≤100000):
  Calls Tryz.prog 149 #[.slice (some x) len cap] w λe w'=>GaveU w zs e w':=by
 obtain⟨y,t,f,g,i⟩:=info_parts info_u32;obtain⟨n,hr⟩:=hr;have a:(w.alloc (.cells #[] 83)).ownsRow w.heap.size 83 1 (.slice (some ⟨w.heap.size,0,none⟩) 0 0) 0 []:=World.ownsRow_lit w #[] 0 zc (by unfold maxLen;omega) rfl;have k:=zh a;have d:Hid (w.heap.size≤(w.alloc (.cells #[] 83)).heap.size):=alloc_le zc _;clear a;have s:∀W:World,(binOp BinOp.eql 25 (.slice (some x) len cap) (zS)).run Tryz.prog W=.ok (.bool false) W:=λW=>by kernel_rfl
 go_enter Tryz.func149,Tryz.ntmps149
 go_wp2_with (first
  |(at_builtin;refine wpList_append_own _ rfl _ _ 25 rfl w.heap.size 83 y (.int .u32 0) 1 4 Tryz.underlying25 t f g i rfl (by decide) _ _ _ rfl k.o x len cap (zs.map (.int .u32)) rfl ?c0 ?c1 ?c2 ?c3 ?c4 d.o ?_)
  | go_in)
 case c0=>simp[n]
 case c1=>
  intro j u c;rcases hr with h|⟨b,A,h,r⟩
  ·rw[List.getElem?_eq_none (by simp;omega)] at c;cases c
  ·obtain rfl:=Option.some.inj h;by_cases m:j<zs.length
   ·simp[List.getElem?_eq_getElem m] at c;subst c;have:=r j (by omega);rw[Addr.add_lit,World.cell?_alloc_lt w _ _ (World.block_lt_of_cell? w _ this)];simpa [List.getD,List.getElem?_eq_getElem m] using this
   ·rw[List.getElem?_eq_none (by simp;omega)] at c;cases c
 case c2=>intro u c;obtain⟨z,_,rfl⟩:=List.mem_map.1 c;rfl
 case c3=>unfold maxLen;omega
 case c4=>omega
 intro B w' a l _;have q:Hid (Ws w' w.heap.size B zs):=by show w'.ownsRow _ _ _ _ _ _;rw[n];simpa using a
 have p:Hid (zB w w'):=own_bel k.o l (zb.alloc zc _) zc d.o;clear a l;go_wp2;go_ret;exact GaveU.mk q.o p.o
theorem step_sli{P:Program}{T S:TypeId}(hP:SliT P T S){w:World}{ops:Array Oper}{o:Oper}{a:Act}{K:Act→World→Prop}{Q:Exit→Act→World→Prop}{E:Prop}(hgd:o.guard=none)(s x:Operand)
  (ho:o.op=.call { callee:=.builtin .append,args:=#[s,x],argTypes:=#[S,S] })
  (base G:Nat) (v:Value) (l:List Sli) (r:Sli) (hs:a.eval s=v) (hx:a.eval x=.slice (some ⟨G,0,none⟩) 1 1) (hv:Lr T w base v l) (hu:w.cell? ⟨G,0,none⟩=some r.v) (hn:l.length≤1000000) (hbase:base≤w.heap.size)
  (h:∀v' w',Lr T w' base v' (l++[r])→w.grownBy w' v.ownBlock→(v'.ownBlock=v.ownBlock∨v'.ownBlock=some w.heap.size)→K (a.put o.dst v') w'):if Region.wanted o (yielded ops a.tmps)=true then Oper.wp P o a w K Q else E:=by
 have n:Region.wanted o (yielded ops a.tmps)=true:=by simp[Region.wanted,hgd]
 rw[if_pos n];obtain⟨p,k,c,d,e⟩:=info_parts hP.info
 obtain ⟨v',w',m,f,g,_,i⟩:=run_append_own_at (P:=P) w base S o.type T p (sl0.v) 1 24 hP.under k c d e rfl (by decide) v l.length (cellsR l) hv ⟨G,0,none⟩ 1 1 (cellsR [r]) rfl (by
  intro j u b
  match j,b with
  |0,b=>simp[cellsR] at b;subst b;simpa [Addr.add] using hu
  | j+1,b=>simp [cellsR] at b) (oneR [r]) (by unfold maxLen;omega) (by omega) hbase
 unfold Oper.wp execOp;simp only[ho,resolve,invoke,builtin,Sem.run_bind,Sem.run_pure,Result.andThen_ok,List.map_toArray,List.map_cons,List.map_nil,hs,hx,m];refine h v' w' ?_ g i;unfold Lr;rw[List.length_append];unfold cellsR at *;rw[List.map_append];exact f
variable{zs:List (List Int)}{sl:List Sli}{w:World}{L:Nat}{V:Value}
theorem wp_letOne{P:Program}{o:Oper}{a:Act}{K:Act→World→Prop}{Q:Exit→Act→World→Prop}(ty:TypeId)(x y:Operand)(ho:o.op=.store ty x y)
  (g:Nat) (hx:a.eval x=.pointer (some ⟨g,0,none⟩)) (v:Value) (hy:a.eval y=v) (hv:v.cells=#[v]) (hi:(P.info? ty).map (·.size)=some 1) (h1:v.oneCell'=true)
  (u:Value) (t:TypeId) (hB:Blk w g #[u] t) (hd:o.dst=none)
  (h:∀W,Upd w W g #[v] t→K a W):o.wp P a w K Q:=by
 have b:=run_storeVar_let (P:=P) (w:=w) (g:=g) (off:=0) (ty:=ty) (t:=t) (v:=v) (cells:=#[v]) (cs:=#[u]) hv (by simpa using hi) (by simpa using h1) hB (by simp);have c:=upd_cells g t [v] 0 w #[u] hB;unfold Oper.wp execOp;simp only[ho,hx,hy,Instr.storeAt,Instr.sureAddr,Sem.run_bind,Sem.run_pure,Result.andThen_ok,b];have:=h _ c;have e:a.put o.dst undef=a:=by rw[hd];rfl
 rw[← e] at this;exact this
structure Box (w:World) (L:Nat) (V:Value) (sl:List Sli) (zs:List (List Int)) (W:World):Prop where
 blk:Blk W L #[V] 140
 row:Lr 25 W (L+1) V sl
 recs:Recs W V.ownBlock sl zs
 new:∀i,i<sl.length→((sl.getD i sl0).n≤100000∧(sl.getD i sl0).n≤(sl.getD i sl0).c∧((sl.getD i sl0).a=none→(sl.getD i sl0).c=0))∧∀x,(sl.getD i sl0).a=some x→L+1≤x.block
 bel:Below L w W
theorem Box.next{W W':World}(h:Box w L V sl zs W)(hb:zB W W'):Box w L V sl zs W':=
 ⟨h.blk.next hb,h.row.next hb,h.recs.below hb,h.new,h.bel.trans (hb.mono (Nat.le_of_lt h.blk.lt))⟩
theorem Box.far{W:World}(h:Box w L V sl zs W):some L≠V.ownBlock:=own_far h.row (Nat.lt_succ_self _)
theorem Box.kept{W W':World}(h:Box w L V sl zs W)(hg:W.grownBy W' V.ownBlock):Blk W' L #[V] 140:=by
 have a:=h.blk;show W'.heap[L]?=_;rw[hg.block L h.blk.lt h.far];exact a
theorem lr_upd{T t:TypeId}{w W:World}{cs:Array Value}{v:Value}{l:List Sli}(h:Lr T w (L+1) v l)(hU:Upd w W L cs t):Lr T W (L+1) v l:=by
 refine⟨h.1,?_⟩;rcases h.2 with e|⟨g,a,b,f,d,c,rest⟩
 ·exact .inl e
 ·exact .inr ⟨g,a,b,f,d,hU.keep c (by omega),rest⟩
theorem snoc_at(sl:List Sli)(r:Sli)(i:Nat)(hi:i<(sl++[r]).length):(i<sl.length∧(sl++[r]).getD i sl0=sl.getD i sl0)∨(i=sl.length∧(sl++[r]).getD i sl0=r):=by
 by_cases b:i<sl.length
 ·exact .inl ⟨b,by simp[List.getD,List.getElem?_append_left b]⟩
 ·have a:i=sl.length:=by simp at hi;omega
  exact .inr ⟨a,by rw[a];simp[List.getD]⟩
theorem box_step{w U W3 W4:World}{V v:Value}{r:Sli}{R:List Int}(hB:Box w L V sl zs U){g off:Nat}(ha:r.a=some ⟨g,off,none⟩)(hg:g<U.heap.size)(hne:some g≠V.ownBlock)(hL:L+1≤g)(hrow:RowU U r.a r.n R)(hn:r.n≤100000∧r.n≤r.c∧(r.a=none→r.c=0))
  (h3:Lr 25 W3 (L+1) v (sl++[r])) (hgr:U.grownBy W3 V.ownBlock) (ho:v.ownBlock=V.ownBlock∨v.ownBlock=some U.heap.size) (hU:Upd W3 W4 L #[v] 140):Box w L v (sl++[r]) (zs++[R]) W4:=by
 have d:∀i,i<(sl++[r]).length→(((sl++[r]).getD i sl0).n≤100000∧((sl++[r]).getD i sl0).n≤((sl++[r]).getD i sl0).c∧(((sl++[r]).getD i sl0).a=none→((sl++[r]).getD i sl0).c=0))∧∀x,((sl++[r]).getD i sl0).a=some x→L+1≤x.block:=λi k=>by
  rcases snoc_at sl r i k with⟨A,e⟩|⟨_,e⟩
  ·rw[e];exact hB.new i A
  ·rw[e];refine⟨hn,λx q=>?_⟩;rw[ha] at q;cases q;exact hL
 have f:Recs W3 v.ownBlock (sl++[r]) (zs++[R]):=(hB.recs.snoc (s:=r) (z:=R) ⟨⟨g,off,ha,hg,hne⟩,hrow⟩).grown hgr ho;refine⟨hU.blk,lr_upd h3 hU,⟨f.1,λi k=>?_⟩,d,?_⟩
 ·obtain⟨⟨b,o,h,t,u⟩,m⟩:=f.2 i k;have l:=(d i k).2 _ h;refine⟨⟨b,o,h,by rw[hU.size];exact t,u⟩,m.1,?_⟩;rcases m.2 with y|⟨D,E,p,B⟩
  ·exact .inl y
  ·rw[h] at p;cases p;exact .inr ⟨b,o,h,λj C=>(hU.cell ⟨b,o+j,none⟩ (by show b≠L;simp only at l;omega) rfl).trans (B j C)⟩
 ·refine hU.bel _ _ zc ?_;exact own_bel hB.row hgr hB.bel (Nat.le_succ _) (Nat.le_of_lt hB.blk.lt)
theorem Box.reads{W:World}(h:Box w L V sl zs W):∃a cap,V=.slice a zs.length cap∧ReadsF W L a zs.length zs:=by
 obtain⟨a,cap,f⟩:=h.row.len;have d:=h.recs.1;refine⟨a,cap,by rw[← d];exact f,rfl,?_⟩;by_cases j:zs.length=0
 ·exact .inl j
 ·obtain⟨g,e,c,l,o,_,k⟩:=h.row.row (by rw[d];omega);rw[f] at c;injection c with ea _ _
  refine .inr ⟨g,0,ea,by omega,o,λi m=>?_⟩;have b:i<sl.length:=by rw[d];exact m
  refine⟨sl.getD i sl0,by rw[Nat.zero_add];exact k i b,(h.recs.2 i b).2,(h.new i b).1,λx n=>?_⟩;have:=(h.new i b).2 x n;omega
set_option maxRecDepth 100000
theorem lr_cells{T : TypeId}{w : World}{base : Nat}{v : Value}{l : List Sli}(h : Lr T w base v l): v.cells = #[v] := by
 obtain⟨a, b, rfl⟩ := h.len
 rfl
theorem lr_one{T : TypeId}{w : World}{base : Nat}{v : Value}{l : List Sli}(h : Lr T w base v l): v.oneCell' = true := by
 obtain⟨a, b, rfl⟩ := h.len
 rfl
set_option maxHeartbeats 4000000 in
theorem put_record(w : World)(L : Nat)(V : Value)(sl : List Sli)(zs : List (List Int))(R : List Int)(b off m : Nat)(W : World)(h : Box w L V sl zs W)(hr : RowU W (some ⟨b, off, none⟩) m R)(h1 : 1 ≤ m)(h2 : m ≤ 64)(hs : sl.length ≤ 1000000):
  Calls Tryz.prog 148 #[.slice (some ⟨b, off, none⟩) m m, .pointer (some ⟨L, 0, none⟩)] W λe w' => e=.returned (.tuple #[]) ∧ ∃V' sl', Box w L V' sl' (zs ++ [R]) w' := by
 have HC : Hid (zC 149 #[.slice (some ⟨b, off, none⟩) m m] W.drew λe w' => GaveU W.drew R e w') := clone_any _ m m R _ hr (by omega)
 have HBU0 : Hid (Box w L V sl zs W.drew) := h.next zb.drew
 have HB0 := zh HBU0.out
 have HRL := zh hr.1
 have HM1 := zh h1
 have HM6 : Hid (m ≤ 100000) := Nat.le_trans h2 (by decide)
 have HS6 := zh hs
 clear hr h h1 h2 hs
 go_enter Tryz.func148, Tryz.ntmps148
 refine wp_region_held_drew (S := λv => True) (by kernel_rfl) trivial (λhHeld => ?_)
 generalize W.drew = U0 at *
 refine zt' 1 (.slice (some ⟨b, off, none⟩) m m) ?_
 refine wpAnyH_ready (rs := [0, 2]) (by kernel_rfl) (by simp) (AllReadyH.cons rfl (λK hK => ?_) (AllReadyH.cons rfl (λK hK => ?_) AllReadyH.nil))
 ·rw[if_pos (by rfl)]
  have cU0 := HBU0.out.blk.cell 0
  refine wp_runOp (v := V) (w' := U0) 3 rfl (by clear hK; go_simp) ?_
  refine hK.out _ _ trivial (λhHeld => ?_)
  clear hK cU0
  simp only[Act.put, zqa, zqb, zqc]
  refine zo 2 λK hK => ?_
  rw[if_pos (by rfl)]
  refine wp_callOp 5 rfl (by clear hK; go_simp) (HC.out) ?_
  rintro e U1 ⟨v5, rfl, hws, hb⟩
  obtain⟨a5, cap5, rfl, hrow, hnl, hcp⟩ := Ws.row hws
  rw[HRL.out] at hrow hcp ⊢
  obtain⟨g, o5, rfl, hg5, hc5⟩ := hrow.at HM1.out
  have HCP := zh hcp
  have HG : Hid (U0.heap.size ≤ g) := (World.ownsRow.lt hws g rfl).1
  have HRU1 : Hid (RowU U1 (some ⟨g, o5, none⟩) m R ∧ g<U1.heap.size) := ⟨hrow, hg5⟩
  have HBU1 := zh (HBU0.out.next hb)
  refine⟨_, rfl, hK.out _ _ trivial (λhHeld => ?_)⟩
  clear hK hws hb hnl hcp hc5 hg5 hrow
  simp only[Act.put, zqa, zqb, zqc]
  have HNE : Hid (some g≠V.ownBlock) := λe => by have := (World.ownsRow.lt HB0.out.row g e.symm).2; have := HG.out; omega
  have HGL : Hid (L + 1 ≤ g) := by have := HB0.out.blk.lt; have := HG.out; show _ ≤ _; omega
  refine zo 3 λK hK => ?_
  rw[if_pos (by rfl)]
  have hb : zB U1 (U1.alloc (.cells #[.slice (some ⟨g, o5, none⟩) m cap5] 25)) := zb.alloc zc _
  have HBU2 := zh (HBU1.out.next hb)
  have HRU2 : Hid (RowU (U1.alloc (.cells #[.slice (some ⟨g, o5, none⟩) m cap5] 25)) (some ⟨g, o5, none⟩) m R ∧ g<(U1.alloc (.cells #[.slice (some ⟨g, o5, none⟩) m cap5] 25)).heap.size) := ⟨HRU1.out.1.below hb, Nat.lt_of_lt_of_le HRU1.out.2 hb.size⟩
  have HX : Hid ((U1.alloc (.cells #[.slice (some ⟨g, o5, none⟩) m cap5] 25)).cell? ⟨U1.heap.size, 0, none⟩ = some (.slice (some ⟨g, o5, none⟩) m cap5)) := (Blk.new _ _ _).cell 0
  clear hb
  refine wp_runOp (v :=.slice (some ⟨U1.heap.size, 0, none⟩) 1 1) (w' := (U1.alloc (.cells #[.slice (some ⟨g, o5, none⟩) m cap5] 25))) 6 rfl (by clear hK; go_simp) ?_
  refine hK.out _ _ trivial (λhHeld => ?_)
  clear hK
  simp only[Act.put, zqa, zqb, zqc]
  generalize U1.heap.size = G at *
  generalize (U1.alloc (.cells #[.slice (some ⟨g, o5, none⟩) m cap5] 25)) = U2 at *
  refine zo 4 λK hK => ?_
  refine step_sli sliT rfl _ _ rfl (L + 1) G V sl ⟨some ⟨g, o5, none⟩, m, cap5⟩ rfl rfl HBU2.out.row HX.out HS6.out (HBU2.out.blk.lt) ?_
  intro v7 W3 h3 hg3 ho3
  refine hK.out _ _ trivial (λhHeld => ?_)
  clear hK
  simp only[Act.put, zqa, zqb, zqc]
  refine zo 5 λK hK => ?_
  rw[if_pos (by rfl)]
  refine wp_letOne 140 _ _ rfl L rfl v7 rfl (lr_cells h3) (by kernel_rfl) (lr_one h3) V 140 (HBU2.out.kept hg3) rfl ?_
  intro W4 hU
  have HF : Hid (Box w L v7 (sl ++ [⟨some ⟨g, o5, none⟩, m, cap5⟩]) (zs ++ [R]) W4) := box_step HBU2.out rfl HRU2.out.2 HNE.out HGL.out HRU2.out.1 ⟨HM6.out, HCP.out, λh => by cases h⟩ h3 hg3 ho3 hU
  refine hK.out _ _ trivial (λhHeld => ?_)
  clear hK hU h3 hg3 ho3
  refine wpAnyH_done (by kernel_rfl) ?_ _
  clear hHeld
  go_wp2_with fail
  go_end0
  exact⟨rfl, _, _, HF.out⟩
 ·rw[if_pos (by rfl)]
  refine wp_callOp 5 rfl (by clear hK; go_simp) (HC.out) ?_
  rintro e U1 ⟨v5, rfl, hws, hb⟩
  obtain⟨a5, cap5, rfl, hrow, hnl, hcp⟩ := Ws.row hws
  rw[HRL.out] at hrow hcp ⊢
  obtain⟨g, o5, rfl, hg5, hc5⟩ := hrow.at HM1.out
  have HCP := zh hcp
  have HG : Hid (U0.heap.size ≤ g) := (World.ownsRow.lt hws g rfl).1
  have HRU1 : Hid (RowU U1 (some ⟨g, o5, none⟩) m R ∧ g<U1.heap.size) := ⟨hrow, hg5⟩
  have HBU1 := zh (HBU0.out.next hb)
  refine⟨_, rfl, hK.out _ _ trivial (λhHeld => ?_)⟩
  clear hK hws hb hnl hcp hc5 hg5 hrow
  simp only[Act.put, zqa, zqb, zqc]
  have HNE : Hid (some g≠V.ownBlock) := λe => by have := (World.ownsRow.lt HB0.out.row g e.symm).2; have := HG.out; omega
  have HGL : Hid (L + 1 ≤ g) := by have := HB0.out.blk.lt; have := HG.out; show _ ≤ _; omega
  refine wpAnyH_ready (rs := [0, 3]) (by kernel_rfl) (by simp) (AllReadyH.cons rfl (λK hK => ?_) (AllReadyH.cons rfl (λK hK => ?_) AllReadyH.nil))
  ·rw[if_pos (by rfl)]
   have cU1 := HBU1.out.blk.cell 0
   refine wp_runOp (v := V) (w' := U1) 3 rfl (by clear hK; go_simp) ?_
   refine hK.out _ _ trivial (λhHeld => ?_)
   clear hK cU1
   simp only[Act.put, zqa, zqb, zqc]
   refine zo 3 λK hK => ?_
   rw[if_pos (by rfl)]
   have hb : zB U1 (U1.alloc (.cells #[.slice (some ⟨g, o5, none⟩) m cap5] 25)) := zb.alloc zc _
   have HBU2 := zh (HBU1.out.next hb)
   have HRU2 : Hid (RowU (U1.alloc (.cells #[.slice (some ⟨g, o5, none⟩) m cap5] 25)) (some ⟨g, o5, none⟩) m R ∧ g<(U1.alloc (.cells #[.slice (some ⟨g, o5, none⟩) m cap5] 25)).heap.size) := ⟨HRU1.out.1.below hb, Nat.lt_of_lt_of_le HRU1.out.2 hb.size⟩
   have HX : Hid ((U1.alloc (.cells #[.slice (some ⟨g, o5, none⟩) m cap5] 25)).cell? ⟨U1.heap.size, 0, none⟩ = some (.slice (some ⟨g, o5, none⟩) m cap5)) := (Blk.new _ _ _).cell 0
   clear hb
   refine wp_runOp (v :=.slice (some ⟨U1.heap.size, 0, none⟩) 1 1) (w' := (U1.alloc (.cells #[.slice (some ⟨g, o5, none⟩) m cap5] 25))) 6 rfl (by clear hK; go_simp) ?_
   refine hK.out _ _ trivial (λhHeld => ?_)
   clear hK
   simp only[Act.put, zqa, zqb, zqc]
   generalize U1.heap.size = G at *
   generalize (U1.alloc (.cells #[.slice (some ⟨g, o5, none⟩) m cap5] 25)) = U2 at *
   refine zo 4 λK hK => ?_
   refine step_sli sliT rfl _ _ rfl (L + 1) G V sl ⟨some ⟨g, o5, none⟩, m, cap5⟩ rfl rfl HBU2.out.row HX.out HS6.out (HBU2.out.blk.lt) ?_
   intro v7 W3 h3 hg3 ho3
   refine hK.out _ _ trivial (λhHeld => ?_)
   clear hK
   simp only[Act.put, zqa, zqb, zqc]
   refine zo 5 λK hK => ?_
   rw[if_pos (by rfl)]
   refine wp_letOne 140 _ _ rfl L rfl v7 rfl (lr_cells h3) (by kernel_rfl) (lr_one h3) V 140 (HBU2.out.kept hg3) rfl ?_
   intro W4 hU
   have HF : Hid (Box w L v7 (sl ++ [⟨some ⟨g, o5, none⟩, m, cap5⟩]) (zs ++ [R]) W4) := box_step HBU2.out rfl HRU2.out.2 HNE.out HGL.out HRU2.out.1 ⟨HM6.out, HCP.out, λh => by cases h⟩ h3 hg3 ho3 hU
   refine hK.out _ _ trivial (λhHeld => ?_)
   clear hK hU h3 hg3 ho3
   refine wpAnyH_done (by kernel_rfl) ?_ _
   clear hHeld
   go_wp2_with fail
   go_end0
   exact⟨rfl, _, _, HF.out⟩
  ·rw[if_pos (by rfl)]
   have hb : zB U1 (U1.alloc (.cells #[.slice (some ⟨g, o5, none⟩) m cap5] 25)) := zb.alloc zc _
   have HBU2 := zh (HBU1.out.next hb)
   have HRU2 : Hid (RowU (U1.alloc (.cells #[.slice (some ⟨g, o5, none⟩) m cap5] 25)) (some ⟨g, o5, none⟩) m R ∧ g<(U1.alloc (.cells #[.slice (some ⟨g, o5, none⟩) m cap5] 25)).heap.size) := ⟨HRU1.out.1.below hb, Nat.lt_of_lt_of_le HRU1.out.2 hb.size⟩
   have HX : Hid ((U1.alloc (.cells #[.slice (some ⟨g, o5, none⟩) m cap5] 25)).cell? ⟨U1.heap.size, 0, none⟩ = some (.slice (some ⟨g, o5, none⟩) m cap5)) := (Blk.new _ _ _).cell 0
   clear hb
   refine wp_runOp (v :=.slice (some ⟨U1.heap.size, 0, none⟩) 1 1) (w' := (U1.alloc (.cells #[.slice (some ⟨g, o5, none⟩) m cap5] 25))) 6 rfl (by clear hK; go_simp) ?_
   refine hK.out _ _ trivial (λhHeld => ?_)
   clear hK
   simp only[Act.put, zqa, zqb, zqc]
   generalize U1.heap.size = G at *
   generalize (U1.alloc (.cells #[.slice (some ⟨g, o5, none⟩) m cap5] 25)) = U2 at *
   refine zo 0 λK hK => ?_
   rw[if_pos (by rfl)]
   have cU2 := HBU2.out.blk.cell 0
   refine wp_runOp (v := V) (w' := U2) 3 rfl (by clear hK; go_simp) ?_
   refine hK.out _ _ trivial (λhHeld => ?_)
   clear hK cU2
   simp only[Act.put, zqa, zqb, zqc]
   refine zo 4 λK hK => ?_
   refine step_sli sliT rfl _ _ rfl (L + 1) G V sl ⟨some ⟨g, o5, none⟩, m, cap5⟩ rfl rfl HBU2.out.row HX.out HS6.out (HBU2.out.blk.lt) ?_
   intro v7 W3 h3 hg3 ho3
   refine hK.out _ _ trivial (λhHeld => ?_)
   clear hK
   simp only[Act.put, zqa, zqb, zqc]
   refine zo 5 λK hK => ?_
   rw[if_pos (by rfl)]
   refine wp_letOne 140 _ _ rfl L rfl v7 rfl (lr_cells h3) (by kernel_rfl) (lr_one h3) V 140 (HBU2.out.kept hg3) rfl ?_
   intro W4 hU
   have HF : Hid (Box w L v7 (sl ++ [⟨some ⟨g, o5, none⟩, m, cap5⟩]) (zs ++ [R]) W4) := box_step HBU2.out rfl HRU2.out.2 HNE.out HGL.out HRU2.out.1 ⟨HM6.out, HCP.out, λh => by cases h⟩ h3 hg3 ho3 hU
   refine hK.out _ _ trivial (λhHeld => ?_)
   clear hK hU h3 hg3 ho3
   refine wpAnyH_done (by kernel_rfl) ?_ _
   clear hHeld
   go_wp2_with fail
   go_end0
   exact⟨rfl, _, _, HF.out⟩
end disk
namespace acc
open tar (Du du0 Came RowD Ld PairT)
open Go.RowKit
theorem psell1(B0 B1 B2 g:Nat)(x:Ac)(p:Option Addr)(len cap:Nat)(t:Tm)(pt:Option Addr)(lt ct:Nat)(te m:Int)(w:World)(hB0:Blk w B0 #[.slice pt lt ct,zI t.ff,zI t.fb,zI t.db,zI t.al] 24)(hB1:Blk w B1 #[zI te] 3)(hB2:Blk w B2 #[zI m] 3)(hw:Blk w g (wcs x bi0 p len cap) 132)(hd:deb.Fresh w (g+1) p len cap x.ds)(ha:AMay x)(ht:Came w pt lt ct t.ts)(hwf:wf4 t)(hfar:Far pt lt g):Calls Tryz.prog 33 #[.pointer (some ⟨g,0,none⟩),.pointer (some ⟨B0,0,none⟩),.pointer (some ⟨B1,0,none⟩),.pointer (some ⟨B2,0,none⟩)] w λe w'=>WPost w g (Or0 (SellIs x t te m)) e w':=by
 have a:Hid (zC 34 #[.pointer (some ⟨g,0,none⟩),.agg #[.slice pt lt ct,zI t.ff,zI t.fb,zI t.db,zI t.al],zI te,zI m] w λe w'=>WPost w g (Or0 (SellIs x t te m)) e w'):=(psell g x p len cap t pt lt ct te m w hw hd ha ht hwf hfar).mono λe w' h=>h.w (Nat.le_of_lt hw.lt);have i:=zh hB0;have j:=zh hB1;have r:=hB1.cell 0;have k:=zh hB2;have s:=hB2.cell 0;clear hw ha hd ht hwf hfar;go_enter Tryz.func33,Tryz.ntmps33;go_wp2_with refine zw ?_;refine a.o.mono ?_;rintro e u d;have l:=zh d;obtain⟨y,b,q,n,c,f,rfl,_⟩:=d;go_wp2_with fail;go_ret;exact l.o
theorem ksell:KcSell:=by
 intro w x p len a t i lt k f m ha ht ax hm;unfold Ac.v Ac.cs Tm.v;have P:Hid (Blk ((((((w.alloc (.cells #[zI x.me,zI x.rv,zI x.nx,zI x.mo,zI x.bo,zI x.fr,.slice p len a] 55)).alloc (.cells #[.slice i lt k,zI t.ff,zI t.fb,zI t.db,zI t.al] 24)).alloc (.cells #[zI f] 3)).alloc (.cells #[zI m] 3)).alloc (.cells #[zI 0,zI 0,zI 0,zI 0,zI 0,zI 0,zS] 55)).alloc (.cells #[zI 0,zI 0,zI 0,zI 0,zI 0,zI 0,zI 0] 33)) (w.heap.size) #[zI x.me,zI x.rv,zI x.nx,zI x.mo,zI x.bo,zI x.fr,.slice p len a] 55):=(((((Blk.new w _ _).alloc _).alloc _).alloc _).alloc _).alloc _;have E:Hid (Blk ((((((w.alloc (.cells #[zI x.me,zI x.rv,zI x.nx,zI x.mo,zI x.bo,zI x.fr,.slice p len a] 55)).alloc (.cells #[.slice i lt k,zI t.ff,zI t.fb,zI t.db,zI t.al] 24)).alloc (.cells #[zI f] 3)).alloc (.cells #[zI m] 3)).alloc (.cells #[zI 0,zI 0,zI 0,zI 0,zI 0,zI 0,zS] 55)).alloc (.cells #[zI 0,zI 0,zI 0,zI 0,zI 0,zI 0,zI 0] 33)) (w.heap.size+1) #[.slice i lt k,zI t.ff,zI t.fb,zI t.db,zI t.al] 24):=((((Blk.new1 w _ _ _).alloc _).alloc _).alloc _).alloc _;have B:Hid (Blk ((((((w.alloc (.cells #[zI x.me,zI x.rv,zI x.nx,zI x.mo,zI x.bo,zI x.fr,.slice p len a] 55)).alloc (.cells #[.slice i lt k,zI t.ff,zI t.fb,zI t.db,zI t.al] 24)).alloc (.cells #[zI f] 3)).alloc (.cells #[zI m] 3)).alloc (.cells #[zI 0,zI 0,zI 0,zI 0,zI 0,zI 0,zS] 55)).alloc (.cells #[zI 0,zI 0,zI 0,zI 0,zI 0,zI 0,zI 0] 33)) (w.heap.size+1+1) #[zI f] 3):=(((Blk.new2 w _ _ _ _).alloc _).alloc _).alloc _;have D:Hid (Blk ((((((w.alloc (.cells #[zI x.me,zI x.rv,zI x.nx,zI x.mo,zI x.bo,zI x.fr,.slice p len a] 55)).alloc (.cells #[.slice i lt k,zI t.ff,zI t.fb,zI t.db,zI t.al] 24)).alloc (.cells #[zI f] 3)).alloc (.cells #[zI m] 3)).alloc (.cells #[zI 0,zI 0,zI 0,zI 0,zI 0,zI 0,zS] 55)).alloc (.cells #[zI 0,zI 0,zI 0,zI 0,zI 0,zI 0,zI 0] 33)) (w.heap.size+1+1+1) #[zI m] 3):=((Blk.new3 w _ _ _ _ _).alloc _).alloc _
 have Q:Hid (Blk ((((((w.alloc (.cells #[zI x.me,zI x.rv,zI x.nx,zI x.mo,zI x.bo,zI x.fr,.slice p len a] 55)).alloc (.cells #[.slice i lt k,zI t.ff,zI t.fb,zI t.db,zI t.al] 24)).alloc (.cells #[zI f] 3)).alloc (.cells #[zI m] 3)).alloc (.cells #[zI 0,zI 0,zI 0,zI 0,zI 0,zI 0,zS] 55)).alloc (.cells #[zI 0,zI 0,zI 0,zI 0,zI 0,zI 0,zI 0] 33)) (w.heap.size+1+1+1+1) #[zI 0,zI 0,zI 0,zI 0,zI 0,zI 0,zS] 55):=(blk_new4 w _ _ _ _ _ _).alloc _;have C:Hid (Blk ((((((w.alloc (.cells #[zI x.me,zI x.rv,zI x.nx,zI x.mo,zI x.bo,zI x.fr,.slice p len a] 55)).alloc (.cells #[.slice i lt k,zI t.ff,zI t.fb,zI t.db,zI t.al] 24)).alloc (.cells #[zI f] 3)).alloc (.cells #[zI m] 3)).alloc (.cells #[zI 0,zI 0,zI 0,zI 0,zI 0,zI 0,zS] 55)).alloc (.cells #[zI 0,zI 0,zI 0,zI 0,zI 0,zI 0,zI 0] 33)) (w.heap.size+1+1+1+1+1) #[zI 0,zI 0,zI 0,zI 0,zI 0,zI 0,zI 0] 33):=blk_new5 w _ _ _ _ _ _ _;have n:Hid (zB w ((((((w.alloc (.cells #[zI x.me,zI x.rv,zI x.nx,zI x.mo,zI x.bo,zI x.fr,.slice p len a] 55)).alloc (.cells #[.slice i lt k,zI t.ff,zI t.fb,zI t.db,zI t.al] 24)).alloc (.cells #[zI f] 3)).alloc (.cells #[zI m] 3)).alloc (.cells #[zI 0,zI 0,zI 0,zI 0,zI 0,zI 0,zS] 55)).alloc (.cells #[zI 0,zI 0,zI 0,zI 0,zI 0,zI 0,zI 0] 33))):=((((((Below.refl w.heap.size w).alloc (by simp) _).alloc (by simp) _).alloc (by simp;omega) _).alloc (by simp;omega) _).alloc (by simp;omega) _).alloc (by simp;omega) _;have A:=zh (ha.ds.below n.o);have aw:=C.o.lt;generalize I:((((((w.alloc (.cells #[zI x.me,zI x.rv,zI x.nx,zI x.mo,zI x.bo,zI x.fr,.slice p len a] 55)).alloc (.cells #[.slice i lt k,zI t.ff,zI t.fb,zI t.db,zI t.al] 24)).alloc (.cells #[zI f] 3)).alloc (.cells #[zI m] 3)).alloc (.cells #[zI 0,zI 0,zI 0,zI 0,zI 0,zI 0,zS] 55)).alloc (.cells #[zI 0,zI 0,zI 0,zI 0,zI 0,zI 0,zI 0] 33))=j at *;have ac:=zh I;clear I;go_enter Tryz.func17,Tryz.ntmps17
 go_upto_region 1 with fail
 rw[ac.o];have af:Hid (∀W,zB j W→Blk W (w.heap.size+1) #[.slice i lt k,zI t.ff,zI t.fb,zI t.db,zI t.al] 24):=λW H=>E.o.next H;have ad:Hid (∀W,zB j W→Blk W (w.heap.size+1+1) #[zI f] 3):=λW H=>B.o.next H;have ae:Hid (∀W,zB j W→Blk W (w.heap.size+1+1+1) #[zI m] 3):=λW H=>D.o.next H;have G:=zh ht.ts;have a9:=zh n.o;have ag:=n.o.size
 have ab:Hid (zC 32 #[.agg #[zI x.me,zI x.rv,zI x.nx,zI x.mo,zI x.bo,zI x.fr,.slice p len a],.func (.func 33) #[] #[.pointer (some ⟨w.heap.size+1,0,none⟩),.pointer (some ⟨w.heap.size+1+1,0,none⟩),.pointer (some ⟨w.heap.size+1+1+1,0,none⟩)]] j λe w'=>BPost j (SellIs x t f m) e w'):=by
  refine pwork 33 #[.pointer (some ⟨w.heap.size+1,0,none⟩),.pointer (some ⟨w.heap.size+1+1,0,none⟩),.pointer (some ⟨w.heap.size+1+1+1,0,none⟩)] (SellIs x t f m) x p len a j A.o (λh=> .inl ⟨.inl ⟨h,rfl⟩,rfl,rfl⟩) (λ_ _=>by kernel_rfl) ?_;intro hm W g p' r M hg J ai
  have aa:deb.Fresh W (g+1) p' len r x.ds:=by
   obtain⟨a0,c0,hv,ah⟩:=deb.ld_fresh ai hm.1;injection hv with h1 h2 h3
   rw[h1,h2,h3];exact ah
  have K:Far i lt g:=λu y z=>by have:=came_lt G.o u y z;omega
  exact psell1 _ _ _ g x p' len r t i lt k f m W (af.o W M) (ad.o W M) (ae.o W M) J aa hm (G.o.below (a9.o.trans (M.mono ag))) ht.wf K
 clear ha ht;go_wp2_with refine zw ?_;refine ab.o.mono ?_;rintro e w1 ⟨b,l,O,N,L,fz,rfl,hi,hf,d⟩;obtain⟨S,X,T,V,ao⟩:=zn5 d P E B D Q;have U:=shN C d;have an:=zh (A.o.below d);have R:=shB n d;have am:=d.size;clear d;unfold Ac.v Ac.cs Bi.v;have s:=zh hf;have q:=zh (came_lt s.o.came);have HV:=zh hi;clear hf hi;go_wp2_with (first|refine zs ?_|refine zw ?_)
 intro W4 c;obtain⟨Z,a4,a1,a2,ap⟩:=zk5 c S X T V U;have a3:=zyb c;have F:Hid (deb.Fresh W4 j.heap.size O N L b.ds):=fresh_updN s.o c (λu y z=>by have f1:=s.o.new u y z;have f2:=q.o u y z;omega);have Y:=zk c R;have aj:=c.size;clear c;go_wp2_with (first|refine zs ?_|refine zw ?_)
 intro W5 c;obtain⟨aq,av,ar,au,a8⟩:=zk5 c Z a4 a1 a2 a3;have a7:=zyb c;have a6:Hid (deb.Fresh W5 j.heap.size O N L b.ds):=fresh_updN F.o c (λu y z=>by have f1:=F.o.new u y z;have f2:=q.o u y z;omega);have a5:=zk c Y;have ak:=c.size;clear c;go_wp2_with fail;exact zr (.tuple #[.agg #[zI b.me,zI b.rv,zI b.nx,zI b.mo,zI b.bo,zI b.fr,.slice O N L],.agg #[zI l.id,zI l.te,zI l.de,zI l.fe,zI l.pr,zI l.ch,zI l.un],zI fz]) (by simp[results,Tryz.results17,scl7 a8,scl7 a7,go_sem]) ⟨b,l,O,N,L,fz,rfl,HV.o,a6.o.low (by omega),a5.o⟩
theorem pgrant1(B0 B1 g:Nat)(x:Ac)(p:Option Addr)(len cap:Nat)(t:Tm)(pt:Option Addr)(lt ct:Nat)(m:Int)(w:World)(hB0:Blk w B0 #[.slice pt lt ct,zI t.ff,zI t.fb,zI t.db,zI t.al] 24)(hB1:Blk w B1 #[zI m] 3)(hw:Blk w g (wcs x bi0 p len cap) 132)(hd:deb.Fresh w (g+1) p len cap x.ds)(ha:AMay x)(ht:Came w pt lt ct t.ts)(hwf:wf4 t)(hfar:Far pt lt g):Calls Tryz.prog 61 #[.pointer (some ⟨g,0,none⟩),.pointer (some ⟨B0,0,none⟩),.pointer (some ⟨B1,0,none⟩)] w λe w'=>WPost w g (Or0 (GrantIs x t m)) e w':=by
 have a:Hid (zC 62 #[.pointer (some ⟨g,0,none⟩),.agg #[.slice pt lt ct,zI t.ff,zI t.fb,zI t.db,zI t.al],zI m] w λe w'=>WPost w g (Or0 (GrantIs x t m)) e w'):=(pgrant g x p len cap t pt lt ct m w hw hd ha ht hwf hfar).mono λe w' h=>h.w (Nat.le_of_lt hw.lt);have i:=zh hB0;have j:=zh hB1;have l:=hB1.cell 0;clear hw ha hd ht hwf hfar;go_enter Tryz.func61,Tryz.ntmps61;go_wp2_with refine zw ?_;refine a.o.mono ?_;rintro e r d;have k:=zh d;obtain⟨y,b,q,n,c,f,rfl,_⟩:=d;go_wp2_with fail;go_ret;exact k.o
theorem kgrant:KcGrant:=by
 intro w x p len n t H lt ct m ha ht hm;unfold Ac.v Ac.cs Tm.v;obtain⟨f,a4,I,z,u,K,J,d,aj⟩:=sh5 w #[zI x.me,zI x.rv,zI x.nx,zI x.mo,zI x.bo,zI x.fr,.slice p len n] 55 #[.slice H lt ct,zI t.ff,zI t.fb,zI t.db,zI t.al] 24 #[zI m] 3 #[zI 0,zI 0,zI 0,zI 0,zI 0,zI 0,zS] 55 #[zI 0,zI 0,zI 0,zI 0,zI 0,zI 0,zI 0] 33;have s:=zh (ha.ds.below d.o);go_enter Tryz.func30,Tryz.ntmps30;go_upto_region 1 with fail
 rw[a4.o];have a6:Hid (∀W,zB f W→Blk W (w.heap.size+1) #[.slice H lt ct,zI t.ff,zI t.fb,zI t.db,zI t.al] 24):=λW hW=>z.o.next hW;have a5:Hid (∀W,zB f W→Blk W (w.heap.size+1+1) #[zI m] 3):=λW hW=>u.o.next hW;have B:=zh ht.ts;have a1:=zh d.o;have a7:=d.o.size
 have a3:Hid (zC 32 #[.agg #[zI x.me,zI x.rv,zI x.nx,zI x.mo,zI x.bo,zI x.fr,.slice p len n],.func (.func 61) #[] #[.pointer (some ⟨w.heap.size+1,0,none⟩),.pointer (some ⟨w.heap.size+1+1,0,none⟩)]] f λe w'=>BPost f (GrantIs x t m) e w'):=by
  refine pwork 61 #[.pointer (some ⟨w.heap.size+1,0,none⟩),.pointer (some ⟨w.heap.size+1+1,0,none⟩)] (GrantIs x t m) x p len n f s.o (λh=> .inl ⟨.inl ⟨h,rfl⟩,rfl,rfl⟩) (λ_ _=>by kernel_rfl) ?_;intro hm W g p' j hB hg C a9
  have a2:deb.Fresh W (g+1) p' len j x.ds:=by
   obtain⟨a0,c0,hv,a8⟩:=deb.ld_fresh a9 hm.1;injection hv with h1 h2 h3
   rw[h1,h2,h3];exact a8
  have D:Far H lt g:=λq y r=>by have:=came_lt B.o q y r;omega
  exact pgrant1 _ _ g x p' len j t H lt ct m W (a6.o W hB) (a5.o W hB) C a2 hm (B.o.below (a1.o.trans (hB.mono a7))) ht.wf D
 clear ha ht;go_wp2_with refine zw ?_;refine a3.o.mono ?_;rintro e w1 ⟨b,l,G,F,E,fz,rfl,hi,hf,c⟩;obtain⟨M,P,O,ae,N⟩:=zn5 c I z u K J;have ad:=zh (s.o.below c);have L:=shB d c;have ac:=c.size;clear c;unfold Ac.v Ac.cs Bi.v;have k:=zh hf;have i:=zh (came_lt k.o.came);have HV:=zh hi;clear hf hi;go_wp2_with (first|refine zs ?_|refine zw ?_)
 intro W4 a;obtain⟨R,U,S,af⟩:=zk4 a M P O N;have T:=zyb a;have A:Hid (deb.Fresh W4 f.heap.size G F E b.ds):=fresh_updN k.o a (λq y r=>by have f1:=k.o.new q y r;have f2:=i.o q y r;omega);have Q:=zk a L;have aa:=a.size;clear a;go_wp2_with (first|refine zs ?_|refine zw ?_)
 intro W5 a;obtain⟨ag,ai,ah,Z⟩:=zk4 a R U S T;have Y:=zyb a;have X:Hid (deb.Fresh W5 f.heap.size G F E b.ds):=fresh_updN A.o a (λq y r=>by have f1:=A.o.new q y r;have f2:=i.o q y r;omega);have V:=zk a Q;have ab:=a.size;clear a;go_wp2_with fail;exact zr (.tuple #[.agg #[zI b.me,zI b.rv,zI b.nx,zI b.mo,zI b.bo,zI b.fr,.slice G F E],.agg #[zI l.id,zI l.te,zI l.de,zI l.fe,zI l.pr,zI l.ch,zI l.un],zI fz]) (by simp[results,Tryz.results30,scl7 Z,scl7 Y,go_sem]) ⟨b,l,G,F,E,fz,rfl,HV.o,X.o.low (by omega),V.o⟩
end acc
end Go.Proofs.YtoepgdhiepedeaaGreatDoor
namespace Go.Proofs
open Go.Shelf
def Tryz.lays105_ren : Go.Shelf.Ren := ⟨fun|105 => 80|212 => 126|99 => 127|165 => 128|166 => 129|170 => 130|169 => 131|263 => 170|264 => 171|206 => 172|240 => 173|241 => 174|276 => 188|277 => 189|n => n, fun|9 => 9|3 => 3|4 => 4|20 => 20|0 => 0|46 => 196|109 => 197|5 => 5|72 => 202|76 => 206|51 => 83|146 => 256|53 => 174|148 => 258|70 => 200|37 => 195|75 => 205|127 => 260|164 => 268|80 => 128|n => n, fun|n => n⟩
theorem Tryz.lays105 : Go.Proofs.Lays.n105 Tryz.prog Tryz.lays105_ren := {
 mixed := by kernel_rfl
 f99 := Tryz.func127.trans (congrArg some (by kernel_rfl))
 f105 := Tryz.func80.trans (congrArg some (by kernel_rfl))
 f165 := Tryz.func128.trans (congrArg some (by kernel_rfl))
 f166 := Tryz.func129.trans (congrArg some (by kernel_rfl))
 f169 := Tryz.func131.trans (congrArg some (by kernel_rfl))
 f170 := Tryz.func130.trans (congrArg some (by kernel_rfl))
 f206 := Tryz.func172.trans (congrArg some (by kernel_rfl))
 f212 := Tryz.func126.trans (congrArg some (by kernel_rfl))
 f240 := Tryz.func173.trans (congrArg some (by kernel_rfl))
 f241 := Tryz.func174.trans (congrArg some (by kernel_rfl))
 f263 := Tryz.func170.trans (congrArg some (by kernel_rfl))
 f264 := Tryz.func171.trans (congrArg some (by kernel_rfl))
 f276 := Tryz.func188.trans (congrArg some (by kernel_rfl))
 f277 := Tryz.func189.trans (congrArg some (by kernel_rfl))
 t0 := Tryz.underlying0
 a0 := Tryz.isAgg0
 z0 := Tryz.sizeOf0
 v0 := Tryz.zeroValue0
 t3 := Tryz.underlying3
 a3 := Tryz.isAgg3
 z3 := Tryz.sizeOf3
 v3 := Tryz.zeroValue3
 t4 := Tryz.underlying4
 a4 := Tryz.isAgg4
 z4 := Tryz.sizeOf4
 v4 := Tryz.zeroValue4
 t5 := Tryz.underlying5
 a5 := Tryz.isAgg5
 z5 := Tryz.sizeOf5
 v5 := Tryz.zeroValue5
 t9 := Tryz.underlying9
 a9 := Tryz.isAgg9
 z9 := Tryz.sizeOf9
 v9 := Tryz.zeroValue9
 t20 := Tryz.underlying20
 a20 := Tryz.isAgg20
 z20 := Tryz.sizeOf20
 v20 := Tryz.zeroValue20
 t37 := Tryz.underlying195
 a37 := Tryz.isAgg195
 z37 := Tryz.sizeOf195
 v37 := Tryz.zeroValue195
 t46 := Tryz.underlying196
 a46 := Tryz.isAgg196
 z46 := Tryz.sizeOf196
 v46 := Tryz.zeroValue196
 t51 := Tryz.underlying83
 a51 := Tryz.isAgg83
 z51 := Tryz.sizeOf83
 v51 := Tryz.zeroValue83
 t53 := Tryz.underlying174
 a53 := Tryz.isAgg174
 z53 := Tryz.sizeOf174
 v53 := Tryz.zeroValue174
 t70 := Tryz.underlying200
 a70 := Tryz.isAgg200
 z70 := Tryz.sizeOf200
 v70 := Tryz.zeroValue200
 t72 := Tryz.underlying202
 a72 := Tryz.isAgg202
 z72 := Tryz.sizeOf202
 v72 := Tryz.zeroValue202
 t75 := Tryz.underlying205
 a75 := Tryz.isAgg205
 z75 := Tryz.sizeOf205
 v75 := Tryz.zeroValue205
 t76 := Tryz.underlying206
 a76 := Tryz.isAgg206
 z76 := Tryz.sizeOf206
 v76 := Tryz.zeroValue206
 t109 := Tryz.underlying197
 a109 := Tryz.isAgg197
 z109 := Tryz.sizeOf197
 v109 := Tryz.zeroValue197
 t127 := Tryz.underlying260
 a127 := Tryz.isAgg260
 z127 := Tryz.sizeOf260
 v127 := Tryz.zeroValue260
 t146 := Tryz.underlying256
 a146 := Tryz.isAgg256
 z146 := Tryz.sizeOf256
 v146 := Tryz.zeroValue256
 t148 := Tryz.underlying258
 a148 := Tryz.isAgg258
 z148 := Tryz.sizeOf258
 v148 := Tryz.zeroValue258
 t164 := Tryz.underlying268
 a164 := Tryz.isAgg268
 z164 := Tryz.sizeOf268
 v164 := Tryz.zeroValue268 }
theorem Tryz.Builder_Extra_105 : Builder.Extra Tryz.prog Tryz.lays105_ren := {
 sizeBuilder := by kernel_rfl
 liesBuilder := by kernel_rfl
 t5 := Tryz.underlying5
 a5 := Tryz.isAgg5
 z5 := Tryz.sizeOf5
 v5 := Tryz.zeroValue5
 infoByte := by kernel_rfl
 cellsByte := by kernel_rfl
 sizeByte := by kernel_rfl
 neB5 := by decide }
open Go.RowKit Go.Lib in
theorem Tryz.strings_Repeat(s : ByteArray)(c : Nat)(w : World)(hc : c ≤ 9223372036854775807)(hlen : s.size * c ≤ 140737488355328):
  Calls Tryz.prog 80 #[.string s, .int .i64 c] w λe w' => e=.returned (.string ⟨(Lib.repeatL s.data.toList c).toArray⟩) ∧ Below w.heap.size w w' := Any.strings_Repeat Tryz.lays105 Tryz.Builder_Extra_105 s c w hc hlen
end Go.Proofs
namespace Go.Proofs.YtoepgdhiepedeaaGreatDoor
end Go.Proofs.YtoepgdhiepedeaaGreatDoor
