import Derived.Test.YtoepgdhiepedeaaGreatDoorVVRys26
set_option linter.unusedVariables false
set_option linter.unusedSimpArgs false
set_option maxHeartbeats 4000000
set_option maxRecDepth 100000
namespace Go.Proofs.YtoepgdhiepedeaaGreatDoor
namespace disk
open Go.RowKit cell
def AppPost(w:World)(c r:List Int)(e:Ending)(w':World):Prop:=
 ∃V ls f,e=.returned (.tuple #[V,zI f])∧Lw w' w.heap.size V ls∧AppIs c r ls f∧zB w w'
theorem put_next(p k:Nat)(r:List Int):putW p r k++[⟨(p:Int)+(k:Int)+1,r.getD k 0⟩]=putW p r (k+1):=by
 rw[putW,show ((p+k+1:Nat):Int)=(p:Int)+(k:Int)+1 by omega]
theorem app_yes{c:List Int}{p:Nat}{r:List Int}(h:p+r.length+1<c.length):putW p r r.length++[⟨(p:Int)+(r.length:Int)+1,0⟩]++[⟨(p:Int),(r.length:Int)⟩]=appW c p r:=by
 unfold appW zeroW;rw[if_pos h,List.append_assoc,show ((p+r.length+1:Nat):Int)=(p:Int)+(r.length:Int)+1 by omega]
theorem app_no{c:List Int}{p:Nat}{r:List Int}(h:¬ p+r.length+1<c.length):putW p r r.length++[⟨(p:Int),(r.length:Int)⟩]=appW c p r:=by
 unfold appW zeroW;rw[if_neg h,List.nil_append]
end disk
namespace cell
open Go.RowKit
theorem words_any(a:Option Addr)(len cap:Nat)(zs:List Int)(w:World)(hr:RowU w a len zs)(hn:a=none→cap=0)(hl:len*4≤140737488351232):
  Calls Tryz.prog 6 #[.slice a len cap] w λe w'=>GaveU w zs e w':=by
 obtain⟨C,A,i,l,m⟩:=info_parts info_u32;obtain⟨g,hr⟩:=hr;cases a with
 |none=>
  have f:=hn rfl;have y:len=0:=by rcases hr with h|⟨b,n,h,_⟩;exact h;cases h
  subst f y;obtain rfl:zs=[]:=List.eq_nil_of_length_eq_zero g;have p:∀w:World,(Builtin.append_ #[25,25] 25 #[zS,zS]).run Tryz.prog w=.ok (zS) w:=λw=>by kernel_rfl
  go_enter Tryz.func6,Tryz.ntmps6;go_wp2;go_ret;exact GaveU.mk (Ws.zero _ _) zb
 |some x=>
  go_enter Tryz.func6,Tryz.ntmps6
  go_wp2_with (first
   |(at_builtin;refine wpList_append_own _ rfl _ _ 25 rfl w.heap.size 83 C (.int .u32 0) 1 4 Tryz.underlying25 A i l m rfl (by decide) _ _ _ rfl (World.ownsRow_nil _ _ _ _) x len cap (zs.map (.int .u32)) rfl ?c0 ?c1 ?c2 ?c3 ?c4 ?c5 ?_)
   | go_in)
  case c0=>simp[g]
  case c5=>exact zc
  case c1=>
   intro j u d;rcases hr with h|⟨b,n,h,f⟩
   ·rw[List.getElem?_eq_none (by simp;omega)] at d;cases d
   ·obtain rfl:=Option.some.inj h;by_cases r:j<zs.length
    ·simp[List.getElem?_eq_getElem r] at d;subst d;have:=f j (by omega);simpa [Addr.add_lit,List.getD,List.getElem?_eq_getElem r] using this
    ·rw[List.getElem?_eq_none (by simp;omega)] at d;cases d
  case c2=>intro u d;obtain⟨z,_,rfl⟩:=List.mem_map.1 d;rfl
  case c3=>unfold maxLen;omega
  case c4=>omega
  intro D w' c q _;have t:Hid (Ws w' w.heap.size D zs):=by show w'.ownsRow _ _ _ _ _ _;rw[g];simpa using c
  have s:Hid (zB w w'):=zb.grown q zc (λk B=>by simp[Value.ownBlock] at B);clear c q;go_wp2;go_ret;exact GaveU.mk t.o s.o
end cell
namespace disk
open Go.RowKit cell
theorem clone_any(x:Addr)(len cap:Nat)(zs:List Int)(w:World)(hr:RowU w (some x) len zs)(hl:len≤100000):
  Calls Tryz.prog 149 #[.slice (some x) len cap] w λe w'=>GaveU w zs e w':=by
 obtain⟨y,t,f,g,i⟩:=info_parts info_u32;obtain⟨n,hr⟩:=hr;have a:(w.alloc (.cells #[] 83)).ownsRow w.heap.size 83 1 (.slice (some ⟨w.heap.size,0,none⟩) 0 0) 0 []:=World.ownsRow_lit w #[] 0 zc (by unfold maxLen;omega) rfl;have k:=zh a;have d:Hid (w.heap.size≤(w.alloc (.cells #[] 83)).heap.size):=alloc_le zc _;clear a;have s:∀W:World,(binOp BinOp.eql 25 (.slice (some x) len cap) (zS)).run Tryz.prog W=.ok (.bool false) W:=λW=>by kernel_rfl
 go_enter Tryz.func149,Tryz.ntmps149
 go_wp2_with (first
  |(at_builtin;refine wpList_append_own _ rfl _ _ 25 rfl w.heap.size 83 y (.int .u32 0) 1 4 Tryz.underlying25 t f g i rfl (by decide) _ _ _ rfl k.o x len cap (zs.map (.int .u32)) rfl ?c0 ?c1 ?c2 ?c3 ?c4 d.o ?_)
  | go_in)
 case c0=>simp[n]
 case c1=>
  intro j u c;rcases hr with h|⟨b,A,h,r⟩
  ·rw[List.getElem?_eq_none (by simp;omega)] at c;cases c
  ·obtain rfl:=Option.some.inj h;by_cases m:j<zs.length
   ·simp[List.getElem?_eq_getElem m] at c;subst c;have:=r j (by omega);rw[Addr.add_lit,World.cell?_alloc_lt w _ _ (World.block_lt_of_cell? w _ this)];simpa [List.getD,List.getElem?_eq_getElem m] using this
   ·rw[List.getElem?_eq_none (by simp;omega)] at c;cases c
 case c2=>intro u c;obtain⟨z,_,rfl⟩:=List.mem_map.1 c;rfl
 case c3=>unfold maxLen;omega
 case c4=>omega
 intro B w' a l _;have q:Hid (Ws w' w.heap.size B zs):=by show w'.ownsRow _ _ _ _ _ _;rw[n];simpa using a
 have p:Hid (zB w w'):=own_bel k.o l (zb.alloc zc _) zc d.o;clear a l;go_wp2;go_ret;exact GaveU.mk q.o p.o
theorem step_sli{P:Program}{T S:TypeId}(hP:SliT P T S){w:World}{ops:Array Oper}{o:Oper}{a:Act}{K:Act→World→Prop}{Q:Exit→Act→World→Prop}{E:Prop}(hgd:o.guard=none)(s x:Operand)
  (ho:o.op=.call { callee:=.builtin .append,args:=#[s,x],argTypes:=#[S,S] })
  (base G:Nat) (v:Value) (l:List Sli) (r:Sli) (hs:a.eval s=v) (hx:a.eval x=.slice (some ⟨G,0,none⟩) 1 1) (hv:Lr T w base v l) (hu:w.cell? ⟨G,0,none⟩=some r.v) (hn:l.length≤1000000) (hbase:base≤w.heap.size)
  (h:∀v' w',Lr T w' base v' (l++[r])→w.grownBy w' v.ownBlock→(v'.ownBlock=v.ownBlock∨v'.ownBlock=some w.heap.size)→K (a.put o.dst v') w'):if Region.wanted o (yielded ops a.tmps)=true then Oper.wp P o a w K Q else E:=by
 have n:Region.wanted o (yielded ops a.tmps)=true:=by simp[Region.wanted,hgd]
 rw[if_pos n];obtain⟨p,k,c,d,e⟩:=info_parts hP.info
 obtain ⟨v',w',m,f,g,_,i⟩:=run_append_own_at (P:=P) w base S o.type T p (sl0.v) 1 24 hP.under k c d e rfl (by decide) v l.length (cellsR l) hv ⟨G,0,none⟩ 1 1 (cellsR [r]) rfl (by
  intro j u b
  match j,b with
  |0,b=>simp[cellsR] at b;subst b;simpa [Addr.add] using hu
  | j+1,b=>simp [cellsR] at b) (oneR [r]) (by unfold maxLen;omega) (by omega) hbase
 unfold Oper.wp execOp;simp only[ho,resolve,invoke,builtin,Sem.run_bind,Sem.run_pure,Result.andThen_ok,List.map_toArray,List.map_cons,List.map_nil,hs,hx,m];refine h v' w' ?_ g i;unfold Lr;rw[List.length_append];unfold cellsR at *;rw[List.map_append];exact f
variable{zs:List (List Int)}{sl:List Sli}{w:World}{L:Nat}{V:Value}
theorem wp_letOne{P:Program}{o:Oper}{a:Act}{K:Act→World→Prop}{Q:Exit→Act→World→Prop}(ty:TypeId)(x y:Operand)(ho:o.op=.store ty x y)
  (g:Nat) (hx:a.eval x=.pointer (some ⟨g,0,none⟩)) (v:Value) (hy:a.eval y=v) (hv:v.cells=#[v]) (hi:(P.info? ty).map (·.size)=some 1) (h1:v.oneCell'=true)
  (u:Value) (t:TypeId) (hB:Blk w g #[u] t) (hd:o.dst=none)
  (h:∀W,Upd w W g #[v] t→K a W):o.wp P a w K Q:=by
 have b:=run_storeVar_let (P:=P) (w:=w) (g:=g) (off:=0) (ty:=ty) (t:=t) (v:=v) (cells:=#[v]) (cs:=#[u]) hv (by simpa using hi) (by simpa using h1) hB (by simp);have c:=upd_cells g t [v] 0 w #[u] hB;unfold Oper.wp execOp;simp only[ho,hx,hy,Instr.storeAt,Instr.sureAddr,Sem.run_bind,Sem.run_pure,Result.andThen_ok,b];have:=h _ c;have e:a.put o.dst undef=a:=by rw[hd];rfl
 rw[← e] at this;exact this
structure Box (w:World) (L:Nat) (V:Value) (sl:List Sli) (zs:List (List Int)) (W:World):Prop where
 blk:Blk W L #[V] 140
 row:Lr 25 W (L+1) V sl
 recs:Recs W V.ownBlock sl zs
 new:∀i,i<sl.length→((sl.getD i sl0).n≤100000∧(sl.getD i sl0).n≤(sl.getD i sl0).c∧((sl.getD i sl0).a=none→(sl.getD i sl0).c=0))∧∀x,(sl.getD i sl0).a=some x→L+1≤x.block
 bel:Below L w W
theorem Box.next{W W':World}(h:Box w L V sl zs W)(hb:zB W W'):Box w L V sl zs W':=
 ⟨h.blk.next hb,h.row.next hb,h.recs.below hb,h.new,h.bel.trans (hb.mono (Nat.le_of_lt h.blk.lt))⟩
theorem Box.far{W:World}(h:Box w L V sl zs W):some L≠V.ownBlock:=own_far h.row (Nat.lt_succ_self _)
theorem Box.kept{W W':World}(h:Box w L V sl zs W)(hg:W.grownBy W' V.ownBlock):Blk W' L #[V] 140:=by
 have a:=h.blk;show W'.heap[L]?=_;rw[hg.block L h.blk.lt h.far];exact a
theorem lr_upd{T t:TypeId}{w W:World}{cs:Array Value}{v:Value}{l:List Sli}(h:Lr T w (L+1) v l)(hU:Upd w W L cs t):Lr T W (L+1) v l:=by
 refine⟨h.1,?_⟩;rcases h.2 with e|⟨g,a,b,f,d,c,rest⟩
 ·exact .inl e
 ·exact .inr ⟨g,a,b,f,d,hU.keep c (by omega),rest⟩
theorem snoc_at(sl:List Sli)(r:Sli)(i:Nat)(hi:i<(sl++[r]).length):(i<sl.length∧(sl++[r]).getD i sl0=sl.getD i sl0)∨(i=sl.length∧(sl++[r]).getD i sl0=r):=by
 by_cases b:i<sl.length
 ·exact .inl ⟨b,by simp[List.getD,List.getElem?_append_left b]⟩
 ·have a:i=sl.length:=by simp at hi;omega
  exact .inr ⟨a,by rw[a];simp[List.getD]⟩
theorem box_step{w U W3 W4:World}{V v:Value}{r:Sli}{R:List Int}(hB:Box w L V sl zs U){g off:Nat}(ha:r.a=some ⟨g,off,none⟩)(hg:g<U.heap.size)(hne:some g≠V.ownBlock)(hL:L+1≤g)(hrow:RowU U r.a r.n R)(hn:r.n≤100000∧r.n≤r.c∧(r.a=none→r.c=0))
  (h3:Lr 25 W3 (L+1) v (sl++[r])) (hgr:U.grownBy W3 V.ownBlock) (ho:v.ownBlock=V.ownBlock∨v.ownBlock=some U.heap.size) (hU:Upd W3 W4 L #[v] 140):Box w L v (sl++[r]) (zs++[R]) W4:=by
 have d:∀i,i<(sl++[r]).length→(((sl++[r]).getD i sl0).n≤100000∧((sl++[r]).getD i sl0).n≤((sl++[r]).getD i sl0).c∧(((sl++[r]).getD i sl0).a=none→((sl++[r]).getD i sl0).c=0))∧∀x,((sl++[r]).getD i sl0).a=some x→L+1≤x.block:=λi k=>by
  rcases snoc_at sl r i k with⟨A,e⟩|⟨_,e⟩
  ·rw[e];exact hB.new i A
  ·rw[e];refine⟨hn,λx q=>?_⟩;rw[ha] at q;cases q;exact hL
 have f:Recs W3 v.ownBlock (sl++[r]) (zs++[R]):=(hB.recs.snoc (s:=r) (z:=R) ⟨⟨g,off,ha,hg,hne⟩,hrow⟩).grown hgr ho;refine⟨hU.blk,lr_upd h3 hU,⟨f.1,λi k=>?_⟩,d,?_⟩
 ·obtain⟨⟨b,o,h,t,u⟩,m⟩:=f.2 i k;have l:=(d i k).2 _ h;refine⟨⟨b,o,h,by rw[hU.size];exact t,u⟩,m.1,?_⟩;rcases m.2 with y|⟨D,E,p,B⟩
  ·exact .inl y
  ·rw[h] at p;cases p;exact .inr ⟨b,o,h,λj C=>(hU.cell ⟨b,o+j,none⟩ (by show b≠L;simp only at l;omega) rfl).trans (B j C)⟩
 ·refine hU.bel _ _ zc ?_;exact own_bel hB.row hgr hB.bel (Nat.le_succ _) (Nat.le_of_lt hB.blk.lt)
theorem Box.reads{W:World}(h:Box w L V sl zs W):∃a cap,V=.slice a zs.length cap∧ReadsF W L a zs.length zs:=by
 obtain⟨a,cap,f⟩:=h.row.len;have d:=h.recs.1;refine⟨a,cap,by rw[← d];exact f,rfl,?_⟩;by_cases j:zs.length=0
 ·exact .inl j
 ·obtain⟨g,e,c,l,o,_,k⟩:=h.row.row (by rw[d];omega);rw[f] at c;injection c with ea _ _
  refine .inr ⟨g,0,ea,by omega,o,λi m=>?_⟩;have b:i<sl.length:=by rw[d];exact m
  refine⟨sl.getD i sl0,by rw[Nat.zero_add];exact k i b,(h.recs.2 i b).2,(h.new i b).1,λx n=>?_⟩;have:=(h.new i b).2 x n;omega
set_option maxRecDepth 100000
theorem lr_cells{T : TypeId}{w : World}{base : Nat}{v : Value}{l : List Sli}(h : Lr T w base v l): v.cells = #[v] := by
 obtain⟨a, b, rfl⟩ := h.len
 rfl
theorem lr_one{T : TypeId}{w : World}{base : Nat}{v : Value}{l : List Sli}(h : Lr T w base v l): v.oneCell' = true := by
 obtain⟨a, b, rfl⟩ := h.len
 rfl
set_option maxHeartbeats 4000000 in
theorem put_record(w : World)(L : Nat)(V : Value)(sl : List Sli)(zs : List (List Int))(R : List Int)(b off m : Nat)(W : World)(h : Box w L V sl zs W)(hr : RowU W (some ⟨b, off, none⟩) m R)(h1 : 1 ≤ m)(h2 : m ≤ 64)(hs : sl.length ≤ 1000000):
  Calls Tryz.prog 148 #[.slice (some ⟨b, off, none⟩) m m, .pointer (some ⟨L, 0, none⟩)] W λe w' => e=.returned (.tuple #[]) ∧ ∃V' sl', Box w L V' sl' (zs ++ [R]) w' := by
 have HC : Hid (zC 149 #[.slice (some ⟨b, off, none⟩) m m] W.drew λe w' => GaveU W.drew R e w') := clone_any _ m m R _ hr (by omega)
 have HBU0 : Hid (Box w L V sl zs W.drew) := h.next zb.drew
 have HB0 := zh HBU0.out
 have HRL := zh hr.1
 have HM1 := zh h1
 have HM6 : Hid (m ≤ 100000) := Nat.le_trans h2 (by decide)
 have HS6 := zh hs
 clear hr h h1 h2 hs
 go_enter Tryz.func148, Tryz.ntmps148
 refine wp_region_held_drew (S := λv => True) (by kernel_rfl) trivial (λhHeld => ?_)
 generalize W.drew = U0 at *
 refine zt' 1 (.slice (some ⟨b, off, none⟩) m m) ?_
 refine wpAnyH_ready (rs := [0, 2]) (by kernel_rfl) (by simp) (AllReadyH.cons rfl (λK hK => ?_) (AllReadyH.cons rfl (λK hK => ?_) AllReadyH.nil))
 ·rw[if_pos (by rfl)]
  have cU0 := HBU0.out.blk.cell 0
  refine wp_runOp (v := V) (w' := U0) 3 rfl (by clear hK; go_simp) ?_
  refine hK.out _ _ trivial (λhHeld => ?_)
  clear hK cU0
  simp only[Act.put, zqa, zqb, zqc]
  refine zo 2 λK hK => ?_
  rw[if_pos (by rfl)]
  refine wp_callOp 5 rfl (by clear hK; go_simp) (HC.out) ?_
  rintro e U1 ⟨v5, rfl, hws, hb⟩
  obtain⟨a5, cap5, rfl, hrow, hnl, hcp⟩ := Ws.row hws
  rw[HRL.out] at hrow hcp ⊢
  obtain⟨g, o5, rfl, hg5, hc5⟩ := hrow.at HM1.out
  have HCP := zh hcp
  have HG : Hid (U0.heap.size ≤ g) := (World.ownsRow.lt hws g rfl).1
  have HRU1 : Hid (RowU U1 (some ⟨g, o5, none⟩) m R ∧ g<U1.heap.size) := ⟨hrow, hg5⟩
  have HBU1 := zh (HBU0.out.next hb)
  refine⟨_, rfl, hK.out _ _ trivial (λhHeld => ?_)⟩
  clear hK hws hb hnl hcp hc5 hg5 hrow
  simp only[Act.put, zqa, zqb, zqc]
  have HNE : Hid (some g≠V.ownBlock) := λe => by have := (World.ownsRow.lt HB0.out.row g e.symm).2; have := HG.out; omega
  have HGL : Hid (L + 1 ≤ g) := by have := HB0.out.blk.lt; have := HG.out; show _ ≤ _; omega
  refine zo 3 λK hK => ?_
  rw[if_pos (by rfl)]
  have hb : zB U1 (U1.alloc (.cells #[.slice (some ⟨g, o5, none⟩) m cap5] 25)) := zb.alloc zc _
  have HBU2 := zh (HBU1.out.next hb)
  have HRU2 : Hid (RowU (U1.alloc (.cells #[.slice (some ⟨g, o5, none⟩) m cap5] 25)) (some ⟨g, o5, none⟩) m R ∧ g<(U1.alloc (.cells #[.slice (some ⟨g, o5, none⟩) m cap5] 25)).heap.size) := ⟨HRU1.out.1.below hb, Nat.lt_of_lt_of_le HRU1.out.2 hb.size⟩
  have HX : Hid ((U1.alloc (.cells #[.slice (some ⟨g, o5, none⟩) m cap5] 25)).cell? ⟨U1.heap.size, 0, none⟩ = some (.slice (some ⟨g, o5, none⟩) m cap5)) := (Blk.new _ _ _).cell 0
  clear hb
  refine wp_runOp (v :=.slice (some ⟨U1.heap.size, 0, none⟩) 1 1) (w' := (U1.alloc (.cells #[.slice (some ⟨g, o5, none⟩) m cap5] 25))) 6 rfl (by clear hK; go_simp) ?_
  refine hK.out _ _ trivial (λhHeld => ?_)
  clear hK
  simp only[Act.put, zqa, zqb, zqc]
  generalize U1.heap.size = G at *
  generalize (U1.alloc (.cells #[.slice (some ⟨g, o5, none⟩) m cap5] 25)) = U2 at *
  refine zo 4 λK hK => ?_
  refine step_sli sliT rfl _ _ rfl (L + 1) G V sl ⟨some ⟨g, o5, none⟩, m, cap5⟩ rfl rfl HBU2.out.row HX.out HS6.out (HBU2.out.blk.lt) ?_
  intro v7 W3 h3 hg3 ho3
  refine hK.out _ _ trivial (λhHeld => ?_)
  clear hK
  simp only[Act.put, zqa, zqb, zqc]
  refine zo 5 λK hK => ?_
  rw[if_pos (by rfl)]
  refine wp_letOne 140 _ _ rfl L rfl v7 rfl (lr_cells h3) (by kernel_rfl) (lr_one h3) V 140 (HBU2.out.kept hg3) rfl ?_
  intro W4 hU
  have HF : Hid (Box w L v7 (sl ++ [⟨some ⟨g, o5, none⟩, m, cap5⟩]) (zs ++ [R]) W4) := box_step HBU2.out rfl HRU2.out.2 HNE.out HGL.out HRU2.out.1 ⟨HM6.out, HCP.out, λh => by cases h⟩ h3 hg3 ho3 hU
  refine hK.out _ _ trivial (λhHeld => ?_)
  clear hK hU h3 hg3 ho3
  refine wpAnyH_done (by kernel_rfl) ?_ _
  clear hHeld
  go_wp2_with fail
  go_end0
  exact⟨rfl, _, _, HF.out⟩
 ·rw[if_pos (by rfl)]
  refine wp_callOp 5 rfl (by clear hK; go_simp) (HC.out) ?_
  rintro e U1 ⟨v5, rfl, hws, hb⟩
  obtain⟨a5, cap5, rfl, hrow, hnl, hcp⟩ := Ws.row hws
  rw[HRL.out] at hrow hcp ⊢
  obtain⟨g, o5, rfl, hg5, hc5⟩ := hrow.at HM1.out
  have HCP := zh hcp
  have HG : Hid (U0.heap.size ≤ g) := (World.ownsRow.lt hws g rfl).1
  have HRU1 : Hid (RowU U1 (some ⟨g, o5, none⟩) m R ∧ g<U1.heap.size) := ⟨hrow, hg5⟩
  have HBU1 := zh (HBU0.out.next hb)
  refine⟨_, rfl, hK.out _ _ trivial (λhHeld => ?_)⟩
  clear hK hws hb hnl hcp hc5 hg5 hrow
  simp only[Act.put, zqa, zqb, zqc]
  have HNE : Hid (some g≠V.ownBlock) := λe => by have := (World.ownsRow.lt HB0.out.row g e.symm).2; have := HG.out; omega
  have HGL : Hid (L + 1 ≤ g) := by have := HB0.out.blk.lt; have := HG.out; show _ ≤ _; omega
  refine wpAnyH_ready (rs := [0, 3]) (by kernel_rfl) (by simp) (AllReadyH.cons rfl (λK hK => ?_) (AllReadyH.cons rfl (λK hK => ?_) AllReadyH.nil))
  ·rw[if_pos (by rfl)]
   have cU1 := HBU1.out.blk.cell 0
   refine wp_runOp (v := V) (w' := U1) 3 rfl (by clear hK; go_simp) ?_
   refine hK.out _ _ trivial (λhHeld => ?_)
   clear hK cU1
   simp only[Act.put, zqa, zqb, zqc]
   refine zo 3 λK hK => ?_
   rw[if_pos (by rfl)]
   have hb : zB U1 (U1.alloc (.cells #[.slice (some ⟨g, o5, none⟩) m cap5] 25)) := zb.alloc zc _
   have HBU2 := zh (HBU1.out.next hb)
   have HRU2 : Hid (RowU (U1.alloc (.cells #[.slice (some ⟨g, o5, none⟩) m cap5] 25)) (some ⟨g, o5, none⟩) m R ∧ g<(U1.alloc (.cells #[.slice (some ⟨g, o5, none⟩) m cap5] 25)).heap.size) := ⟨HRU1.out.1.below hb, Nat.lt_of_lt_of_le HRU1.out.2 hb.size⟩
   have HX : Hid ((U1.alloc (.cells #[.slice (some ⟨g, o5, none⟩) m cap5] 25)).cell? ⟨U1.heap.size, 0, none⟩ = some (.slice (some ⟨g, o5, none⟩) m cap5)) := (Blk.new _ _ _).cell 0
   clear hb
   refine wp_runOp (v :=.slice (some ⟨U1.heap.size, 0, none⟩) 1 1) (w' := (U1.alloc (.cells #[.slice (some ⟨g, o5, none⟩) m cap5] 25))) 6 rfl (by clear hK; go_simp) ?_
   refine hK.out _ _ trivial (λhHeld => ?_)
   clear hK
   simp only[Act.put, zqa, zqb, zqc]
   generalize U1.heap.size = G at *
   generalize (U1.alloc (.cells #[.slice (some ⟨g, o5, none⟩) m cap5] 25)) = U2 at *
   refine zo 4 λK hK => ?_
   refine step_sli sliT rfl _ _ rfl (L + 1) G V sl ⟨some ⟨g, o5, none⟩, m, cap5⟩ rfl rfl HBU2.out.row HX.out HS6.out (HBU2.out.blk.lt) ?_
   intro v7 W3 h3 hg3 ho3
   refine hK.out _ _ trivial (λhHeld => ?_)
   clear hK
   simp only[Act.put, zqa, zqb, zqc]
   refine zo 5 λK hK => ?_
   rw[if_pos (by rfl)]
   refine wp_letOne 140 _ _ rfl L rfl v7 rfl (lr_cells h3) (by kernel_rfl) (lr_one h3) V 140 (HBU2.out.kept hg3) rfl ?_
   intro W4 hU
   have HF : Hid (Box w L v7 (sl ++ [⟨some ⟨g, o5, none⟩, m, cap5⟩]) (zs ++ [R]) W4) := box_step HBU2.out rfl HRU2.out.2 HNE.out HGL.out HRU2.out.1 ⟨HM6.out, HCP.out, λh => by cases h⟩ h3 hg3 ho3 hU
   refine hK.out _ _ trivial (λhHeld => ?_)
   clear hK hU h3 hg3 ho3
   refine wpAnyH_done (by kernel_rfl) ?_ _
   clear hHeld
   go_wp2_with fail
   go_end0
   exact⟨rfl, _, _, HF.out⟩
  ·rw[if_pos (by rfl)]
   have hb : zB U1 (U1.alloc (.cells #[.slice (some ⟨g, o5, none⟩) m cap5] 25)) := zb.alloc zc _
   have HBU2 := zh (HBU1.out.next hb)
   have HRU2 : Hid (RowU (U1.alloc (.cells #[.slice (some ⟨g, o5, none⟩) m cap5] 25)) (some ⟨g, o5, none⟩) m R ∧ g<(U1.alloc (.cells #[.slice (some ⟨g, o5, none⟩) m cap5] 25)).heap.size) := ⟨HRU1.out.1.below hb, Nat.lt_of_lt_of_le HRU1.out.2 hb.size⟩
   have HX : Hid ((U1.alloc (.cells #[.slice (some ⟨g, o5, none⟩) m cap5] 25)).cell? ⟨U1.heap.size, 0, none⟩ = some (.slice (some ⟨g, o5, none⟩) m cap5)) := (Blk.new _ _ _).cell 0
   clear hb
   refine wp_runOp (v :=.slice (some ⟨U1.heap.size, 0, none⟩) 1 1) (w' := (U1.alloc (.cells #[.slice (some ⟨g, o5, none⟩) m cap5] 25))) 6 rfl (by clear hK; go_simp) ?_
   refine hK.out _ _ trivial (λhHeld => ?_)
   clear hK
   simp only[Act.put, zqa, zqb, zqc]
   generalize U1.heap.size = G at *
   generalize (U1.alloc (.cells #[.slice (some ⟨g, o5, none⟩) m cap5] 25)) = U2 at *
   refine zo 0 λK hK => ?_
   rw[if_pos (by rfl)]
   have cU2 := HBU2.out.blk.cell 0
   refine wp_runOp (v := V) (w' := U2) 3 rfl (by clear hK; go_simp) ?_
   refine hK.out _ _ trivial (λhHeld => ?_)
   clear hK cU2
   simp only[Act.put, zqa, zqb, zqc]
   refine zo 4 λK hK => ?_
   refine step_sli sliT rfl _ _ rfl (L + 1) G V sl ⟨some ⟨g, o5, none⟩, m, cap5⟩ rfl rfl HBU2.out.row HX.out HS6.out (HBU2.out.blk.lt) ?_
   intro v7 W3 h3 hg3 ho3
   refine hK.out _ _ trivial (λhHeld => ?_)
   clear hK
   simp only[Act.put, zqa, zqb, zqc]
   refine zo 5 λK hK => ?_
   rw[if_pos (by rfl)]
   refine wp_letOne 140 _ _ rfl L rfl v7 rfl (lr_cells h3) (by kernel_rfl) (lr_one h3) V 140 (HBU2.out.kept hg3) rfl ?_
   intro W4 hU
   have HF : Hid (Box w L v7 (sl ++ [⟨some ⟨g, o5, none⟩, m, cap5⟩]) (zs ++ [R]) W4) := box_step HBU2.out rfl HRU2.out.2 HNE.out HGL.out HRU2.out.1 ⟨HM6.out, HCP.out, λh => by cases h⟩ h3 hg3 ho3 hU
   refine hK.out _ _ trivial (λhHeld => ?_)
   clear hK hU h3 hg3 ho3
   refine wpAnyH_done (by kernel_rfl) ?_ _
   clear hHeld
   go_wp2_with fail
   go_end0
   exact⟨rfl, _, _, HF.out⟩
end disk
namespace book
open Go.RowKit
theorem bleft2(kd me mo id te de fe pr ch un tg ow bp:Int)(w:World)(q2:(kd==2)=true):Calls Tryz.prog 163 #[.agg #[zI kd,zI me,zI mo,zI id,zI te,zI de,zI fe,zI pr,zI ch,zI un,zI tg,zI ow,zI bp]] w λe w'=>e=.returned (.agg #[zI 0,zI 0,zI 0,zI 0,zI 0,zI 0,zI 0,zI 0,zI 0,zI 0,zI 0,zI ow,zI bp])∧zB w w':=by
 go_enter Tryz.func163,Tryz.ntmps163;go_wp2;exact zr (.agg #[zI 0,zI 0,zI 0,zI 0,zI 0,zI 0,zI 0,zI 0,zI 0,zI 0,zI 0,zI ow,zI bp]) (by simp[results,Tryz.results163,go_sem]) ⟨rfl,bki.bel2 _ _ _⟩
theorem bleft3(kd me mo id te de fe pr ch un tg ow bp:Int)(w:World)(q2:(kd==2)=false)(q3:(kd==3)=true):Calls Tryz.prog 163 #[.agg #[zI kd,zI me,zI mo,zI id,zI te,zI de,zI fe,zI pr,zI ch,zI un,zI tg,zI ow,zI bp]] w λe w'=>e=.returned (.agg #[zI 0,zI 0,zI 0,zI 0,zI te,zI de,zI fe,zI pr,zI ch,zI 0,zI 0,zI ow,zI bp])∧zB w w':=by
 go_enter Tryz.func163,Tryz.ntmps163;go_wp2;exact zr (.agg #[zI 0,zI 0,zI 0,zI 0,zI te,zI de,zI fe,zI pr,zI ch,zI 0,zI 0,zI ow,zI bp]) (by simp[results,Tryz.results163,go_sem]) ⟨rfl,bki.bel2 _ _ _⟩
theorem bleft4(kd me mo id te de fe pr ch un tg ow bp:Int)(w:World)(q2:(kd==2)=false)(q3:(kd==3)=false)(q4:(kd==4)=true):Calls Tryz.prog 163 #[.agg #[zI kd,zI me,zI mo,zI id,zI te,zI de,zI fe,zI pr,zI ch,zI un,zI tg,zI ow,zI bp]] w λe w'=>e=.returned (.agg #[zI 0,zI 0,zI mo,zI 0,zI te,zI de,zI fe,zI pr,zI ch,zI un,zI 0,zI ow,zI bp])∧zB w w':=by
 go_enter Tryz.func163,Tryz.ntmps163;go_wp2;exact zr (.agg #[zI 0,zI 0,zI mo,zI 0,zI te,zI de,zI fe,zI pr,zI ch,zI un,zI 0,zI ow,zI bp]) (by simp[results,Tryz.results163,go_sem]) ⟨rfl,bki.bel2 _ _ _⟩
theorem bleft5(kd me mo id te de fe pr ch un tg ow bp:Int)(w:World)(q2:(kd==2)=false)(q3:(kd==3)=false)(q4:(kd==4)=false)(q5:(kd==5)=true):Calls Tryz.prog 163 #[.agg #[zI kd,zI me,zI mo,zI id,zI te,zI de,zI fe,zI pr,zI ch,zI un,zI tg,zI ow,zI bp]] w λe w'=>e=.returned (.agg #[zI 0,zI 0,zI mo,zI id,zI te,zI de,zI fe,zI pr,zI ch,zI un,zI tg,zI 0,zI 0])∧zB w w':=by
 go_enter Tryz.func163,Tryz.ntmps163;go_wp2;exact zr (.agg #[zI 0,zI 0,zI mo,zI id,zI te,zI de,zI fe,zI pr,zI ch,zI un,zI tg,zI 0,zI 0]) (by simp[results,Tryz.results163,go_sem]) ⟨rfl,bki.bel2 _ _ _⟩
theorem bleft0(kd me mo id te de fe pr ch un tg ow bp:Int)(w:World)(q2:(kd==2)=false)(q3:(kd==3)=false)(q4:(kd==4)=false)(q5:(kd==5)=false):Calls Tryz.prog 163 #[.agg #[zI kd,zI me,zI mo,zI id,zI te,zI de,zI fe,zI pr,zI ch,zI un,zI tg,zI ow,zI bp]] w λe w'=>e=.returned (.agg #[zI 0,zI 0,zI mo,zI id,zI te,zI de,zI fe,zI pr,zI ch,zI un,zI tg,zI ow,zI bp])∧zB w w':=by
 go_enter Tryz.func163,Tryz.ntmps163;go_wp2;exact zr (.agg #[zI 0,zI 0,zI mo,zI id,zI te,zI de,zI fe,zI pr,zI ch,zI un,zI tg,zI ow,zI bp]) (by simp[results,Tryz.results163,go_sem]) ⟨rfl,bki.bel2 _ _ _⟩
theorem bleft(v:Ev)(w:World):Calls Tryz.prog 163 #[v.v] w λe w'=>e=.returned (leftE v).v∧zB w w':=by
 obtain⟨a,k,l,i,o,g,h,n,f,q,p,m,d⟩:=v;unfold leftE Ev.v;simp only;by_cases b:a=2
 ·rw[if_pos b];exact bleft2 a k l i o g h n f q p m d w (by simpa using b)
 rw[if_neg b];by_cases c:a=3
 ·rw[if_pos c];exact bleft3 a k l i o g h n f q p m d w (by simpa using b) (by simpa using c)
 rw[if_neg c];by_cases j:a=4
 ·rw[if_pos j];exact bleft4 a k l i o g h n f q p m d w (by simpa using b) (by simpa using c) (by simpa using j)
 rw[if_neg j];by_cases r:a=5
 ·rw[if_pos r];exact bleft5 a k l i o g h n f q p m d w (by simpa using b) (by simpa using c) (by simpa using j) (by simpa using r)
 rw[if_neg r];exact bleft0 a k l i o g h n f q p m d w (by simpa using b) (by simpa using c) (by simpa using j) (by simpa using r)
end book
namespace vnd
open disk (RepIs AppIs)
open book (Ev ev0 EMay evL evOf EncIs DecIs Cm cm0 So so0 BookIs Sees ECame FirstAt NoneAt)
open acc (Ac Tm Bi TCame ACame)
open cell (Wr RowU)
open Go.RowKit
theorem pref(x:Int)(w:World):Calls Tryz.prog 36 #[zI x] w λe w'=>e=.returned (.tuple #[zS,.agg #[zS],.agg #[zI 0,zI 0,zI 0,zI 0,zI 0,zI 0,zI 0,zI 0,.string ⟨#[]⟩],zI x])∧zB w w':=by
 obtain⟨q,j,m,c,b,p⟩:=sh2 w #[zS] 28 #[zI 0,zI 0,zI 0,zI 0,zI 0,zI 0,zI 0,zI 0,.string ⟨#[]⟩] 35;go_enter Tryz.func36,Tryz.ntmps36;go_upto_region 1 with fail
 rw[j.o];go_wp2_with (first|refine zs ?_|refine zw ?_)
 intro r a;have f:=zyb a;have n:=zk1 a c;have d:=zk a b;have k:=a.size;clear a;go_wp2_with (first|refine zs ?_|refine zw ?_)
 intro s a;have h:=zk1 a f;have g:=zk a d;have i:=zyb a;have l:=a.size;clear a;go_wp2_with fail;exact zr (.tuple #[zS,.agg #[zS],.agg #[zI 0,zI 0,zI 0,zI 0,zI 0,zI 0,zI 0,zI 0,.string ⟨#[]⟩],zI x]) (by simp[results,Tryz.results36,zy0 h,scl9 i,go_sem]) ⟨rfl,g.o⟩
end vnd
end Go.Proofs.YtoepgdhiepedeaaGreatDoor
