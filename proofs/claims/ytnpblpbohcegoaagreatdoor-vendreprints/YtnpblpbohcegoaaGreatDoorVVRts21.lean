import Derived.Test.YtnpblpbohcegoaaGreatDoorVVRts17
import Derived.Test.YtnpblpbohcegoaaGreatDoorVVRts20
set_option linter.unusedVariables false
set_option linter.unusedSimpArgs false
set_option maxHeartbeats 4000000
set_option maxRecDepth 100000
namespace Go.Proofs.YtnpblpbohcegoaaGreatDoor
namespace book
open Go.RowKit
theorem rfound (p:Option Addr) (n cap:Nat) (l:List Cu) (me:Int) (w:World) (h:RowC w p n l) (hn:n≤9223372036854775807):Calls Tryz.prog 30 #[.agg #[.slice p n cap],zI me] w fun e w'=>∃ x,e = .returned (zI x)∧FoundIs l me x∧Below w.heap.size w w':=by
 obtain ⟨W,HWW,HX,HB,-⟩:=sh1 w #[.slice p n cap] 46;have HR:Hid (RowC W p n l):=h.below HB.o;have HL:Hid (l.length=n):=h.1;clear h;go_enter Tryz.func30,Tryz.ntmps30;go_upto_region 1 with fail
 rw [HWW.o];clear HWW;have k0:W.cell? ⟨w.heap.size,0,none⟩=some (.slice p n cap):=HX.o.cell 0;go_wp2_with fail;go_loopw [5] (fun i wr=>∃ k:Nat,k≤n∧i=zI (k:Int)∧(∀ j,j<k→(l.getD j cu0).me≠me)∧wr=W) (fun i _=>n - (intOf i).toNat)
 case atStart=>exact ⟨0,Nat.zero_le _,rfl,fun j hj=>absurd hj (Nat.not_lt_zero _),rfl⟩
 case round=>
  obtain ⟨k,hk,rfl,hf,hwr⟩:=hrel;subst hwr;have HF:Hid (∀ j,j<k→(l.getD j cu0).me≠me):=hf;clear hf;by_cases hlt:k<n
  ·obtain ⟨b,off,rfl,lb,hc⟩:=HR.o.2.resolve_left (by omega);have c0:wr.cell? ⟨b,off+k*8,none⟩=some (zI (l.getD k cu0).me):=hc k 0 hlt (by decide);have HK:Hid ((l.getD k cu0).me=(l.getD k cu0).me):=rfl;have hdl:decide ((k:Int)<(n:Int))=true:=by simp;omega
   by_cases he:(l.getD k cu0).me=me
   ·have n1:((l.getD k cu0).me == me)=true:=by simpa using he
    have HI:Hid (FoundIs l me (k:Int)):= .inl ⟨k,by rw [HL.o];exact hlt,he,HF.o,rfl⟩;clear hc HF HK he;generalize (l.getD k cu0).me=z at *;go_wp2_with fail;go_ret;exact ⟨_,rfl,HI.o,HB.o⟩
   ·have n1:((l.getD k cu0).me == me)=false:=by simpa using he
    have HF2:Hid (∀ j,j<k+1→(l.getD j cu0).me≠me):=fun j hj=>by
     by_cases e:j=k
     ·subst e;exact he
     ·exact HF.o j (by omega)
    clear hc HF HK he;generalize (l.getD k cu0).me=z at *;go_wp2_with fail;go_roundw
    case rel=>exact ⟨k+1,by omega,by go_num,HF2.o,by first | rfl | trivial⟩
    case measure=>simp [intOf];omega
  ·obtain rfl:k=n:=by omega
   have hdl:decide ((k:Int)<(k:Int))=false:=by simp
   have HI:Hid (FoundIs l me (-1)):= .inr ⟨fun j hj=>HF.o j (by rw [HL.o] at hj;exact hj),rfl⟩;clear HF;go_wp2_with fail;go_ret;exact ⟨_,rfl,HI.o,HB.o⟩
end book
namespace cell
open Go.RowKit
def GaveU (w:World) (zs:List Int) (e:Ending) (w':World):Prop:=∃ v,e = .returned v∧Ws w' w.heap.size v zs∧Below w.heap.size w w'
theorem GaveU.mk {w w':World} {zs:List Int} {v:Value} (h1:Ws w' w.heap.size v zs) (h2:Below w.heap.size w w'):GaveU w zs (.returned v) w':=⟨v,rfl,h1,h2⟩
theorem words_any (a:Option Addr) (len cap:Nat) (zs:List Int) (w:World) (hr:RowU w a len zs) (hn:a=none→cap=0) (hl:len*4≤140737488351232) :
  Calls Tryz.prog 9 #[.slice a len cap] w fun e w'=>GaveU w zs e w':=by
 obtain ⟨i0,hi,hz0,hz1,hz2⟩:=info_parts info_u32;obtain ⟨hz,hr⟩:=hr;cases a with
 | none=>
  have hc:=hn rfl;have h0:len=0:=by rcases hr with h | ⟨b,off,h,_⟩;exact h;cases h
  subst hc h0;obtain rfl:zs=[]:=List.eq_nil_of_length_eq_zero hz;have happ:∀ w:World,(Builtin.append_ #[25,25] 25 #[zS,zS]).run Tryz.prog w = .ok (zS) w:=fun w=>by kernel_rfl
  go_enter Tryz.func9,Tryz.ntmps9;go_wp2;go_ret;exact GaveU.mk (Ws.zero _ _) (Below.refl _ _)
 | some x=>
  go_enter Tryz.func9,Tryz.ntmps9
  go_wp2_with (first
   | (at_builtin;refine wpList_append_own _ rfl _ _ 25 rfl w.heap.size 99 i0 (.int .u32 0) 1 4 Tryz.underlying25 hi hz0 hz1 hz2 rfl (by decide) _ _ _ rfl (World.ownsRow_nil _ _ _ _) x len cap (zs.map (.int .u32)) rfl ?c0 ?c1 ?c2 ?c3 ?c4 ?c5 ?_)
   | go_in)
  case c0=>simp [hz]
  case c5=>exact Nat.le_refl _
  case c1=>
   intro j u hu;rcases hr with h | ⟨b,off,h,hc⟩
   ·rw [List.getElem?_eq_none (by simp;omega)] at hu;cases hu
   ·obtain rfl:=Option.some.inj h;by_cases hj:j<zs.length
    ·simp [List.getElem?_eq_getElem hj] at hu;subst hu;have:=hc j (by omega);simpa [Addr.add_lit,List.getD,List.getElem?_eq_getElem hj] using this
    ·rw [List.getElem?_eq_none (by simp;omega)] at hu;cases hu
  case c2=>intro u hu;obtain ⟨z,_,rfl⟩:=List.mem_map.1 hu;rfl
  case c3=>unfold maxLen;omega
  case c4=>omega
  intro v' w' hown hg _;have HW:Hid (Ws w' w.heap.size v' zs):=by show w'.ownsRow _ _ _ _ _ _;rw [hz];simpa using hown
  have HG:Hid (Below w.heap.size w w'):=(Below.refl _ _).grown hg (Nat.le_refl _) (fun k hk=>by simp [Value.ownBlock] at hk);clear hown hg;go_wp2;go_ret;exact GaveU.mk HW.o HG.o
end cell
namespace disk
open Go.RowKit cell
theorem clone_any (x:Addr) (len cap:Nat) (zs:List Int) (w:World) (hr:RowU w (some x) len zs) (hl:len≤100000) :
  Calls Tryz.prog 64 #[.slice (some x) len cap] w fun e w'=>GaveU w zs e w':=by
 obtain ⟨i0,hi,hz0,hz1,hz2⟩:=info_parts info_u32;obtain ⟨hz,hr⟩:=hr;have hown:(w.alloc (.cells #[] 99)).ownsRow w.heap.size 99 1 (.slice (some ⟨w.heap.size,0,none⟩) 0 0) 0 []:=World.ownsRow_lit w #[] 0 (Nat.le_refl _) (by unfold maxLen;omega) rfl;have HO:Hid ((w.alloc (.cells #[] 99)).ownsRow w.heap.size 99 1 (.slice (some ⟨w.heap.size,0,none⟩) 0 0) 0 []):=hown;have HSZ:Hid (w.heap.size≤(w.alloc (.cells #[] 99)).heap.size):=alloc_le (Nat.le_refl _) _;clear hown;have heq:∀ W:World,(binOp BinOp.eql 25 (.slice (some x) len cap) (zS)).run Tryz.prog W = .ok (.bool false) W:=fun W=>by kernel_rfl
 go_enter Tryz.func64,Tryz.ntmps64
 go_wp2_with (first
  | (at_builtin;refine wpList_append_own _ rfl _ _ 25 rfl w.heap.size 99 i0 (.int .u32 0) 1 4 Tryz.underlying25 hi hz0 hz1 hz2 rfl (by decide) _ _ _ rfl HO.o x len cap (zs.map (.int .u32)) rfl ?c0 ?c1 ?c2 ?c3 ?c4 HSZ.o ?_)
  | go_in)
 case c0=>simp [hz]
 case c1=>
  intro j u hu;rcases hr with h | ⟨b,off,h,hc⟩
  ·rw [List.getElem?_eq_none (by simp;omega)] at hu;cases hu
  ·obtain rfl:=Option.some.inj h;by_cases hj:j<zs.length
   ·simp [List.getElem?_eq_getElem hj] at hu;subst hu;have:=hc j (by omega);rw [Addr.add_lit,World.cell?_alloc_lt w _ _ (World.block_lt_of_cell? w _ this)];simpa [List.getD,List.getElem?_eq_getElem hj] using this
   ·rw [List.getElem?_eq_none (by simp;omega)] at hu;cases hu
 case c2=>intro u hu;obtain ⟨z,_,rfl⟩:=List.mem_map.1 hu;rfl
 case c3=>unfold maxLen;omega
 case c4=>omega
 intro v' w' hown hg _;have HW:Hid (Ws w' w.heap.size v' zs):=by show w'.ownsRow _ _ _ _ _ _;rw [hz];simpa using hown
 have HG:Hid (Below w.heap.size w w'):=own_bel HO.o hg ((Below.refl _ _).alloc (Nat.le_refl _) _) (Nat.le_refl _) HSZ.o;clear hown hg;go_wp2;go_ret;exact GaveU.mk HW.o HG.o
theorem step_sli {P:Program} {T S:TypeId} (hP:SliT P T S) {w:World} {ops:Array Oper} {o:Oper} {a:Act} {K:Act→World→Prop} {Q:Exit→Act→World→Prop} {E:Prop} (hgd:o.guard=none) (s x:Operand)
  (ho:o.op = .call { callee:= .builtin .append,args:=#[s,x],argTypes:=#[S,S] })
  (base G:Nat) (v:Value) (l:List Sli) (r:Sli) (hs:a.eval s=v) (hx:a.eval x = .slice (some ⟨G,0,none⟩) 1 1) (hv:Lr T w base v l) (hu:w.cell? ⟨G,0,none⟩=some r.v) (hn:l.length≤1000000) (hbase:base≤w.heap.size)
  (h:∀ v' w',Lr T w' base v' (l++[r])→w.grownBy w' v.ownBlock→(v'.ownBlock=v.ownBlock∨v'.ownBlock=some w.heap.size)→K (a.put o.dst v') w'):if Region.wanted o (yielded ops a.tmps)=true then Oper.wp P o a w K Q else E:=by
 have hw:Region.wanted o (yielded ops a.tmps)=true:=by simp [Region.wanted,hgd]
 rw [if_pos hw];obtain ⟨i0,hi,hz0,hz1,hz2⟩:=info_parts hP.info
 obtain ⟨v',w',hr,h2,h3,_,h4⟩:=run_append_own_at (P:=P) w base S o.type T i0 (sl0.v) 1 24 hP.under hi hz0 hz1 hz2 rfl (by decide) v l.length (cellsR l) hv ⟨G,0,none⟩ 1 1 (cellsR [r]) rfl (by
  intro j u hj
  match j,hj with
  | 0,hj=>simp [cellsR] at hj;subst hj;simpa [Addr.add] using hu
  | j+1,hj=>simp [cellsR] at hj) (oneR [r]) (by unfold maxLen;omega) (by omega) hbase
 unfold Oper.wp execOp;simp only [ho,resolve,invoke,builtin,Sem.run_bind,Sem.run_pure,Result.andThen_ok,List.map_toArray,List.map_cons,List.map_nil,hs,hx,hr];refine h v' w' ?_ h3 h4;unfold Lr;rw [List.length_append];unfold cellsR at *;rw [List.map_append];exact h2
theorem wp_letOne {P:Program} {o:Oper} {a:Act} {w:World} {K:Act→World→Prop} {Q:Exit→Act→World→Prop} (ty:TypeId) (x y:Operand) (ho:o.op = .store ty x y)
  (g:Nat) (hx:a.eval x = .pointer (some ⟨g,0,none⟩)) (v:Value) (hy:a.eval y=v) (hv:v.cells=#[v]) (hi:(P.info? ty).map (·.size)=some 1) (h1:v.oneCell'=true)
  (u:Value) (t:TypeId) (hB:Blk w g #[u] t) (hd:o.dst=none)
  (h:∀ W,Upd w W g #[v] t→K a W):o.wp P a w K Q:=by
 have hs:=run_storeVar_let (P:=P) (w:=w) (g:=g) (off:=0) (ty:=ty) (t:=t) (v:=v) (cells:=#[v]) (cs:=#[u]) hv (by simpa using hi) (by simpa using h1) hB (by simp);have hu:=upd_cells g t [v] 0 w #[u] hB;unfold Oper.wp execOp;simp only [ho,hx,hy,Instr.storeAt,Instr.sureAddr,Sem.run_bind,Sem.run_pure,Result.andThen_ok,hs];have:=h _ hu;have e:a.put o.dst undef=a:=by rw [hd];rfl
 rw [← e] at this;exact this
structure Box (w:World) (L:Nat) (V:Value) (sl:List Sli) (zs:List (List Int)) (W:World):Prop where
 blk:Blk W L #[V] 104
 row:Lr 25 W (L+1) V sl
 recs:Recs W V.ownBlock sl zs
 new:∀ i,i<sl.length→((sl.getD i sl0).n≤100000∧(sl.getD i sl0).n≤(sl.getD i sl0).c∧((sl.getD i sl0).a=none→(sl.getD i sl0).c=0))∧∀ x,(sl.getD i sl0).a=some x→L+1≤x.block
 bel:Below L w W
theorem Box.next {w:World} {L:Nat} {V:Value} {sl:List Sli} {zs:List (List Int)} {W W':World} (h:Box w L V sl zs W) (hb:Below W.heap.size W W'):Box w L V sl zs W':=
 ⟨h.blk.next hb,h.row.next hb,h.recs.below hb,h.new,h.bel.trans (hb.mono (Nat.le_of_lt h.blk.lt))⟩
theorem Box.far {w:World} {L:Nat} {V:Value} {sl:List Sli} {zs:List (List Int)} {W:World} (h:Box w L V sl zs W):some L≠V.ownBlock:=own_far h.row (Nat.lt_succ_self _)
theorem Box.kept {w:World} {L:Nat} {V:Value} {sl:List Sli} {zs:List (List Int)} {W W':World} (h:Box w L V sl zs W) (hg:W.grownBy W' V.ownBlock):Blk W' L #[V] 104:=by
 have h1:W.heap[L]?=_:=h.blk;show W'.heap[L]?=_;rw [hg.block L h.blk.lt h.far];exact h1
theorem lr_upd {T t:TypeId} {w W:World} {L:Nat} {cs:Array Value} {v:Value} {l:List Sli} (h:Lr T w (L+1) v l) (hU:Upd w W L cs t):Lr T W (L+1) v l:=by
 refine ⟨h.1,?_⟩;rcases h.2 with hn | ⟨g,cap,cur,hv,hg,hc,rest⟩
 ·exact .inl hn
 ·exact .inr ⟨g,cap,cur,hv,hg,hU.keep hc (by omega),rest⟩
theorem snoc_at (sl:List Sli) (r:Sli) (i:Nat) (hi:i<(sl++[r]).length):(i<sl.length∧(sl++[r]).getD i sl0=sl.getD i sl0)∨(i=sl.length∧(sl++[r]).getD i sl0=r):=by
 by_cases h1:i<sl.length
 ·exact .inl ⟨h1,by simp [List.getD,List.getElem?_append_left h1]⟩
 ·have hi':i=sl.length:=by simp at hi;omega
  exact .inr ⟨hi',by rw [hi'];simp [List.getD]⟩
theorem box_step {w U W3 W4:World} {L:Nat} {V v:Value} {sl:List Sli} {r:Sli} {zs:List (List Int)} {R:List Int} (hB:Box w L V sl zs U) {g off:Nat} (ha:r.a=some ⟨g,off,none⟩) (hg:g<U.heap.size) (hne:some g≠V.ownBlock) (hL:L+1≤g) (hrow:RowU U r.a r.n R) (hn:r.n≤100000∧r.n≤r.c∧(r.a=none→r.c=0))
  (h3:Lr 25 W3 (L+1) v (sl++[r])) (hgr:U.grownBy W3 V.ownBlock) (ho:v.ownBlock=V.ownBlock∨v.ownBlock=some U.heap.size) (hU:Upd W3 W4 L #[v] 104):Box w L v (sl++[r]) (zs++[R]) W4:=by
 have hnew:∀ i,i<(sl++[r]).length→(((sl++[r]).getD i sl0).n≤100000∧((sl++[r]).getD i sl0).n≤((sl++[r]).getD i sl0).c∧(((sl++[r]).getD i sl0).a=none→((sl++[r]).getD i sl0).c=0))∧∀ x,((sl++[r]).getD i sl0).a=some x→L+1≤x.block:=fun i hi=>by
  rcases snoc_at sl r i hi with ⟨h1,e⟩ | ⟨_,e⟩
  ·rw [e];exact hB.new i h1
  ·rw [e];refine ⟨hn,fun x hx=>?_⟩;rw [ha] at hx;cases hx;exact hL
 have hrc:Recs W3 v.ownBlock (sl++[r]) (zs++[R]):=(hB.recs.snoc (s:=r) (z:=R) ⟨⟨g,off,ha,hg,hne⟩,hrow⟩).grown hgr ho;refine ⟨hU.blk,lr_upd h3 hU,⟨hrc.1,fun i hi=>?_⟩,hnew,?_⟩
 ·obtain ⟨⟨b,o,e1,e2,e3⟩,e4⟩:=hrc.2 i hi;have hLb:=(hnew i hi).2 _ e1;refine ⟨⟨b,o,e1,by rw [hU.size];exact e2,e3⟩,e4.1,?_⟩;rcases e4.2 with h0 | ⟨b',o',e5,hc⟩
  ·exact .inl h0
  ·rw [e1] at e5;cases e5;exact .inr ⟨b,o,e1,fun j hj=>(hU.cell ⟨b,o+j,none⟩ (by show b≠L;simp only at hLb;omega) rfl).trans (hc j hj)⟩
 ·refine hU.bel _ _ (Nat.le_refl _) ?_;exact own_bel hB.row hgr hB.bel (Nat.le_succ _) (Nat.le_of_lt hB.blk.lt)
theorem Box.reads {w:World} {L:Nat} {V:Value} {sl:List Sli} {zs:List (List Int)} {W:World} (h:Box w L V sl zs W):∃ a cap,V = .slice a zs.length cap∧ReadsF W L a zs.length zs:=by
 obtain ⟨a,cap,hv⟩:=h.row.len;have hl:=h.recs.1;refine ⟨a,cap,by rw [← hl];exact hv,rfl,?_⟩;by_cases h0:zs.length=0
 ·exact .inl h0
 ·obtain ⟨g,cap2,hv2,hge,lg,_,hc⟩:=h.row.row (by rw [hl];omega);rw [hv] at hv2;injection hv2 with ea _ _
  refine .inr ⟨g,0,ea,by omega,lg,fun i hi=>?_⟩;have hi':i<sl.length:=by rw [hl];exact hi
  refine ⟨sl.getD i sl0,by rw [Nat.zero_add];exact hc i hi',(h.recs.2 i hi').2,(h.new i hi').1,fun x hx=>?_⟩;have:=(h.new i hi').2 x hx;omega
end disk
namespace vnd
open book (Ev Cm BookIs)
open acc (Tm)
theorem book_no {t:Tm} {l:List Ev} {bk:List Cm} {a f:Int} (h:BookIs t l bk a f) (hf:f≠0):bk=[]:=by
 rcases h with ⟨_,_,p,_⟩ | ⟨_,_,p,_⟩ | ⟨_,_,k,st,_,_,⟨_,_,_,p⟩ | ⟨_,_,_,p,_⟩⟩
 ·exact p
 ·exact p
 ·exact absurd p hf
 ·exact p
end vnd
namespace book
open Go.RowKit
open acc (Ac Tm Bi APost BPost TFault TRight OpenIs OweIs SellIs GrantIs RekeyIs wf6 ACame TCame fresh_updN fresh_drew came_lt)
def CuPost (w:World) (a:Option Addr) (bk:List Cm) (me:Int) (e:Ending) (w':World):Prop:=w'=w∧((∃ k g,FirstAt bk me k∧a=some ⟨g,0,none⟩∧e = .returned (.pointer (some ⟨g,k*8,none⟩)))∨(NoneAt bk me∧e = .panicked (thrown 18)))
theorem bcust (gW B:Nat) (t:Tm) (pt:Option Addr) (lt ct:Nat) (a:Option Addr) (n cap:Nat) (bk:List Cm) (me:Int) (w:World) (hw:Blk w gW #[.slice a n cap,.slice pt lt ct,zI t.ff,zI t.fb,zI t.db,zI t.al,.map (some B)] 113) (hm:MpI w B (mes bk)) (hn:bk.length=n) (ha:0<n→∃ g,a=some ⟨g,0,none⟩) (hs:n≤1000):Calls Tryz.prog 71 #[.pointer (some ⟨gW,0,none⟩),zI me] w fun e w'=>CuPost w a bk me e w':=by
 have HNO:Hid (∀ W,Calls Tryz.prog 112 #[zI 18] W fun e w'=>e = .panicked (thrown 18)∧w'=W):=fun W=>insist_no 18 (by decide) W;have q0:w.cell? ⟨gW,0,none⟩=some (.slice a n cap):=hw.cell 0;have q6:w.cell? ⟨gW,6,none⟩=some (.map (some B)):=hw.cell 6;have hlk:=lookI_run hm me;clear hw hm;cases hf:firstI (mes bk) me with
 | none=>
  rw [hf] at hlk;simp only [Option.getD_none,Option.isSome_none] at hlk;have HN:Hid (NoneAt bk me):=first_none hf;clear hf;go_enter Tryz.func71,Tryz.ntmps71;go_wp2_with fail;refine (HNO.o _).mono ?_;rintro e W9 ⟨rfl,rfl⟩;exact ⟨rfl,rfl,.inr ⟨HN.o,rfl⟩⟩
 | some k=>
  rw [hf] at hlk;simp only [Option.getD_some,Option.isSome_some] at hlk;have hfa:=first_some hf;have hkn:k<n:=by have:=hfa.1;omega
  obtain ⟨g,rfl⟩:=ha (by omega);have HN:Hid (FirstAt bk me k):=hfa;clear hf hfa ha hn;go_enter Tryz.func71,Tryz.ntmps71;go_wp2_with fail;go_ret;exact ⟨rfl,.inl ⟨k,g,HN.o,rfl,by first | rfl | simp⟩⟩
def KOf:Prop:=∀ (W:World) (t:acc.Tm) (pt:Option Addr) (lt ct:Nat) (pl:Option Addr) (n cap:Nat) (l:List Ev),acc.TCame W t pt lt ct→ECame W pl n cap l→Calls Tryz.prog 17 #[t.v pt lt ct,.slice pl n cap] W fun e w'=>BookPost W t l e w'
end book
namespace token
open Go.RowKit
theorem bel_box (w:World) (o:Obj):Below w.heap.size w (w.alloc o):=(Below.refl _ _).alloc (Nat.le_refl _) o
theorem bodyOf_ok (k:Tok) (w:World) (hk:k.ok) :
  Calls Tryz.prog 102 #[k.v] w fun e w'=>e = .returned (.tuple #[zI (k.body:Int),zI 0])∧Below w.heap.size w w':=by
 have HF:Hid (∀ W,Calls Tryz.prog 57 #[.agg #[zI (k.c:Int),zI (k.i:Int),zI (k.a:Int),zI (k.t:Int)]] W fun e w'=>e = .returned (zI 0)∧Below W.heap.size W w'):=fun W=>by
  have:=fault_any k.c k.i k.a k.t W
  rwa [flaw_tok.2 hk] at this
 have HB:Hid (Below w.heap.size w (w.alloc (.cells #[zI (k.c:Int),zI (k.i:Int),zI (k.a:Int),zI (k.t:Int)] 96))):=(Below.refl _ _).alloc (Nat.le_refl _) _;have HX:Hid (Blk (w.alloc (.cells #[zI (k.c:Int),zI (k.i:Int),zI (k.a:Int),zI (k.t:Int)] 96)) w.heap.size #[zI (k.c:Int),zI (k.i:Int),zI (k.a:Int),zI (k.t:Int)] 96):=Blk.new _ _ _
 have EB:Hid ((k.body:Int)=(k.c:Int)*2199023255552+(k.i:Int)*2097152+(k.a:Int)):=by
  show (k.body:Int)=_;unfold Tok.body;omega
 have h1:=hk.c3;have h2:=hk.i2;have h3:=hk.a2;have z1:(0:Int)≤(k.c:Int):=by omega
 have z2:(0:Int)≤(k.i:Int):=by omega
 have z3:(0:Int)≤(k.a:Int):=by omega
 have y1:(k.c:Int)≤3:=by omega
 have y2:(k.i:Int)≤1048575:=by omega
 have y3:(k.a:Int)≤2097151:=by omega
 clear hk h1 h2 h3;unfold Tok.v;rw [EB.o];clear EB;generalize (k.c:Int)=c at *;generalize (k.i:Int)=i at *;generalize (k.a:Int)=a at *;generalize (k.t:Int)=t at *;go_enter Tryz.func102,Tryz.ntmps102;go_wp2_with fail;refine (HF.o _).mono ?_;rintro e w1 ⟨rfl,hb1⟩;have HB1:=shB HB hb1;have hX:=HX.o.next hb1;have x0:=hX.cell 0;have x1:=hX.cell 1;have x2:=hX.cell 2;clear hb1 HF HB HX hX;go_wp2_with fail;refine bodyPost_ret (v:= .tuple #[zI (c*2199023255552+i*2097152+a),zI 0]) (by simp [results,Tryz.results102,go_sem]) rfl ⟨rfl,HB1.o⟩
end token
namespace words
open Go.RowKit
theorem len100 {m:Nat} (h:m<4294967296 ^ 8):(dig m).length≤100:=by
 have:=dig_len 8 h;omega
theorem nf_lt {f:Nat→Nat}:∀ {n:Nat},(∀ i,i<n→f i<4294967296)→nf f n<4294967296 ^ n
 | 0,_=>by simp [nf]
 | n+1,h=>by
  have h1:=nf_lt (f:=f) (n:=n) fun i hi=>h i (by omega);have h2:=h n (by omega);rw [nf,Nat.pow_succ];have:4294967296 ^ n*(f n+1)≤4294967296 ^ n*4294967296:=Nat.mul_le_mul_left _ (by omega);rw [Nat.mul_add] at this;omega
theorem dig_nf (m:Nat):nf (fun i=>(dig m).getD i 0) (dig m).length=m:=by rw [← nv_nf,nv_dig]
theorem dig_word (m i:Nat):(dig m).getD i 0<4294967296:=by
 by_cases hi:i<(dig m).length
 ·exact dig_lt m _ (by simp [List.getD,List.getElem?_eq_getElem hi])
 ·simp [List.getD,List.getElem?_eq_none (show (dig m).length≤i by omega)]
theorem dig_low (m:Nat):m<4294967296 ^ (dig m).length:=by
 have:=nf_lt (f:=fun i=>(dig m).getD i 0) (n:=(dig m).length) fun i _=>dig_word m i
 rwa [dig_nf] at this
theorem dig_high:∀ (m k:Nat),(dig m).length=k+1→4294967296 ^ k≤m:=by
 intro m k
 induction k generalizing m with
 | zero=>
  intro h;have:m≠0:=by intro e;rw [e,dig_zero] at h;simp at h
  simp;omega
 | succ k ih=>
  intro h;have h0:m≠0:=by intro e;rw [e,dig_zero] at h;simp at h
  rw [dig_pos h0] at h;have:=ih (m / 4294967296) (by simpa using h);rw [Nat.pow_succ];have h2:=Nat.mul_le_mul_right 4294967296 this;omega
theorem len_less {m k:Nat} (h:(dig m).length<(dig k).length):m<k:=by
 have h1:=dig_low m;have h2:=dig_high k ((dig k).length - 1) (by omega);have h3:4294967296 ^ (dig m).length≤4294967296 ^ ((dig k).length - 1):=Nat.pow_le_pow_right (by decide) (by omega);omega
def hf (f:Nat→Nat) (i n:Nat):Nat:=nf (fun j=>f (i+j)) (n - i)
theorem hf_zero (f:Nat→Nat) (n:Nat):hf f 0 n=nf f n:=by
 unfold hf;exact nf_congr fun j _=>by rw [Nat.zero_add]
theorem hf_top (f:Nat→Nat) (n:Nat):hf f n n=0:=by unfold hf;rw [Nat.sub_self];rfl
theorem hf_step (f:Nat→Nat) {i n:Nat} (h:i<n):hf f i n=f i+4294967296*hf f (i+1) n:=by
 unfold hf;rw [show n - i=(n - (i+1))+1 by omega,nf_cons]
 congr 2
 exact nf_congr fun j _=>by rw [show i+(j+1)=i+1+j by omega]
theorem hf_congr {f g:Nat→Nat} {i n:Nat} (h:∀ j,i≤j→f j=g j):hf f i n=hf g i n:=by
 unfold hf;exact nf_congr fun j _=>h _ (by omega)
theorem small_step {Q A r d x:Nat} (h:Q*d+r=A):((r*4294967296+x) / d+4294967296*Q)*d+(r*4294967296+x) % d=x+4294967296*A:=by
 have e:=Nat.div_add_mod (r*4294967296+x) d;have e1:(r*4294967296+x) / d*d=d*((r*4294967296+x) / d):=Nat.mul_comm _ _;rw [Nat.add_mul,← h,Nat.mul_add,← Nat.mul_assoc 4294967296 Q d];omega
theorem small_fin {Q r d m:Nat} (h:Q*d+r=m) (hr:r<d):Q=m / d∧r=m % d:=by
 have h1:m / d=Q:=by
  rw [← h,Nat.mul_comm,Nat.mul_add_div (by omega),Nat.div_eq_of_lt hr,Nat.add_zero]
 have h2:m % d=r:=by
  rw [← h,Nat.mul_comm,Nat.mul_add_mod,Nat.mod_eq_of_lt hr]
 exact ⟨h1.symm,h2.symm⟩
def TrimAt (w:World) (a:Option Addr) (cap m:Nat) (e:Ending) (w':World):Prop:=w'=w∧∃ k,e = .returned (.slice a k cap)∧Ru w a k cap (dig m)
theorem trim_at (a:Option Addr) (n cap:Nat) (l:List Nat) (w:World) (h:Ru w a n cap l) (hn:n≤1000) :
  Calls Tryz.prog 180 #[.slice a n cap] w fun e w'=>TrimAt w a cap (nv l) e w':=by
 have HR:Hid (Ru w a n cap l):=h;clear h;go_enter Tryz.func180,Tryz.ntmps180;go_wp2_with fail;go_loop [3] (fun v=>∃ k:Nat,k≤n∧v=zI k∧∀ i,k≤i→i<n→l.getD i 0=0) (fun v=>(intOf v).toNat)
 case atStart=>exact ⟨n,Nat.le_refl _,rfl,fun i h1 h2=>by omega⟩
 case round=>
  obtain ⟨k,hk,rfl,hz⟩:=hrel;have HZ:Hid (∀ i,k≤i→i<n→l.getD i 0=0):=hz;clear hz
  have fin:(k=0∨l.getD (k - 1) 0≠0)→TrimAt w a cap (nv l) (.returned (.slice a k cap)) w:=fun hh=>by
   have e:=trim_dig l k HR.o.lt (by rw [HR.o.len];exact hk) (fun i h1 h2=>HZ.o i h1 (by rw [HR.o.len] at h2;exact h2)) hh;refine ⟨rfl,k,rfl,?_⟩;rw [← e];refine ⟨by rw [List.length_take,HR.o.len];omega,fun x hx=>HR.o.lt x (List.mem_of_mem_take hx),HR.o.nil,Nat.le_trans hk HR.o.room,?_,fun b off s e hn=>HR.o.typ b off s e (by omega)⟩;rcases HR.o.cell with h0 | ⟨b,off,rfl,hc⟩
   ·exact .inl (by omega)
   ·refine .inr ⟨b,off,rfl,fun i hi=>?_⟩;rw [hc i (by omega)]
    congr 3
    simp [List.getD,hi]
  have HF:Hid ((k=0∨l.getD (k - 1) 0≠0)→TrimAt w a cap (nv l) (.returned (.slice a k cap)) w):=fin;have hsl:=slice_top a n cap k w hk HR.o.room HR.o.nil;clear fin;by_cases hk0:k=0
  ·subst hk0;go_wp2_with fail;go_ret;exact HF.o (.inl (by trivial))
  ·obtain ⟨b,off,rfl,hc⟩:=HR.o.at (i:=k - 1) (by omega);have e1:(k:Int) - 1=((k - 1:Nat):Int):=by omega
   have kp:(0:Int)<(k:Int):=by omega
   by_cases hzero:l.getD (k - 1) 0=0
   ·rw [hzero] at hc
    have HN:Hid (∀ i,k - 1≤i→i<n→l.getD i 0=0):=fun i h1 h2=>by
     by_cases e:i=k - 1
     ·rw [e];exact hzero
     ·exact HZ.o i (by omega) h2
    clear HF hsl hzero;have hg:k - 1<n:=by omega
    generalize hgg:k - 1=g at *;go_wp2_with fail;go_round
    case rel=>exact ⟨g,by omega,by go_num,HN.o⟩
    case measure=>simp [intOf];omega
   ·have hb:((((l.getD (k - 1) 0:Nat):Int)) == 0)=false:=beq_eq_false_iff_ne.2 (by omega);have HH:Hid (l.getD (k - 1) 0≠0):=hzero;clear hzero;have hg:k - 1<n:=by omega
    generalize ((l.getD (k - 1) 0:Nat):Int)=y at hb hc;generalize hgg:k - 1=g at hc e1 hg;go_wp2_with fail;go_ret;exact HF.o (.inr HH.o)
def SmallGives (w:World) (m r:Nat) (e:Ending) (w':World):Prop:=∃ a n cap,e = .returned (.tuple #[.slice a n cap,.int .u32 (r:Int)])∧Ru w' a n cap (dig m)∧Below w.heap.size w w'∧∀ b off,a=some ⟨b,off,none⟩→w.heap.size≤b
theorem small_any (a:Option Addr) (n ca d:Nat) (la:List Nat) (w:World) (ha:Ru w a n ca la) (hn:n≤100) (d0:0<d) (d1:d<4294967296) :
  Calls Tryz.prog 151 #[.slice a n ca,.int .u32 (d:Int)] w fun e w'=>SmallGives w (nv la / d) (nv la % d) e w':=by
 obtain ⟨i0,hi,hz0,hz1,hz2⟩:=info_parts info_u32;have HA:Hid (Ru w a n ca la):=ha;clear ha;go_enter Tryz.func151,Tryz.ntmps151
 go_wp2_with (first
  | (at_make;refine wpList_make_full _ rfl _ _ 25 rfl w.heap.size 99 i0 (.int .u32 0) 1 Tryz.underlying25 hi hz0 hz1 _ _ _ _ n rfl rfl ?c0 ?c1 ?c2 ?c3 ?c4 ?_))
 try (case c0=>first | rfl | (congr 1;omega))
 try (case c1=>first | rfl | (congr 1;omega))
 case c2=>first | omega | (rw [hz2];omega)
 case c3=>unfold maxLen;omega
 try (case c4=>simp)
 intro w1 hown hgr;have HR1:Hid (RowU w1 w.heap.size n (fun _=>0)):=rowU_made hown;have HB1:Hid (Below w.heap.size w w1):=(Below.refl _ _).grown hgr (Nat.le_refl _) (fun k hk=>by cases hk);clear hown hgr hi hz0 hz1 hz2;go_wp2_with fail;go_loopw [7,8] (fun rv iv wr=>∃ (k r:Nat) (f:Nat→Nat),k≤n∧iv=zI ((k:Int) - 1)∧rv = .int .u64 (r:Int)∧r<d∧RowU wr w.heap.size n f∧(∀ j,j<n→f j<4294967296)∧Below w.heap.size w wr∧hf f k n*d+r=hf (fun j=>la.getD j 0) k n) (fun _ iv _=>(intOf iv+1).toNat)
 case atStart=>exact ⟨n,0,fun _=>0,Nat.le_refl _,rfl,rfl,d0,HR1.o,fun _ _=>(by decide:0<4294967296),HB1.o,by rw [hf_top,hf_top,Nat.zero_mul]⟩
 case round=>
  obtain ⟨k,r,f,hkn,rfl,rfl,hrd,hrow,hfb,hb,heq⟩:=hrel;by_cases hk0:k=0
  ·subst hk0;have HN:Hid (Ru wr (some ⟨w.heap.size,0,none⟩) n n ((List.range n).map f)):=hrow.ru hfb;have HB:Hid (Below w.heap.size w wr):=hb
   have hfin:nv ((List.range n).map f)=nv la / d∧r=nv la % d:=by
    rw [hf_zero,hf_zero,← nv_more la (by rw [HA.o.len];exact Nat.le_refl _),← nv_range] at heq;exact small_fin heq hrd
   have HE:Hid (nv ((List.range n).map f)=nv la / d):=hfin.1;have HM:Hid (r=nv la % d):=hfin.2;have rb:(r:Int)<4294967296:=by omega
   have rm:(r:Int) % 4294967296=r:=by omega
   clear hrow hfb hb heq hfin;go_wp2_with fail;refine (trim_at _ _ _ _ _ HN.o (by omega)).mono ?_;rintro e w3 ⟨rfl,n3,rfl,hr3⟩;rw [HE.o] at hr3;have HG:Hid (SmallGives w (nv la / d) (nv la % d) (.returned (.tuple #[.slice (some ⟨w.heap.size,0,none⟩) n3 n,.int .u32 (r:Int)])) w3):=⟨some ⟨w.heap.size,0,none⟩,n3,n,by rw [HM.o],hr3,HB.o,fun b off e=>by simp at e;omega⟩
   clear hr3;go_wp2_with fail;refine bodyPost_ret (v:= .tuple #[.slice (some ⟨w.heap.size,0,none⟩) n3 n,.int .u32 (r:Int)]) (by simp [results,Tryz.results151,go_sem]) rfl HG.o
  ·obtain ⟨g,rfl⟩:∃ g,k=g+1:=⟨k - 1,by omega⟩
   have eg:((g+1:Nat):Int) - 1=(g:Int):=by omega
   rw [eg];obtain ⟨ba,oa,rfl,hca⟩:=(HA.o.below hb).at (i:=g) (by omega);have hx:=HA.o.word g;obtain ⟨x,hxx⟩:∃ x,la.getD g 0=x:=⟨_,rfl⟩
   rw [hxx] at hca hx;have r0:=hrow.cell (i:=g) (by omega);have f0:=hrow.free g;obtain ⟨fi,hfi⟩:∃ fi:Int,((f g:Nat):Int)=fi:=⟨_,rfl⟩
   rw [hfi] at r0;clear hfi;have gn:(g:Int)<(n:Int):=by omega
   have hor:=or_words r x (by omega) (by omega) (by omega) (by omega);have e0:(r:Int)*4294967296+(x:Int)=((r*4294967296+x:Nat):Int):=by omega
   have hst:=small_step (Q:=hf f (g+1) n) (A:=hf (fun j=>la.getD j 0) (g+1) n) (r:=r) (d:=d) (x:=x) heq
   have hql:(r*4294967296+x) / d<4294967296:=by
    rw [Nat.div_lt_iff_lt_mul d0];have:(r+1)*4294967296≤d*4294967296:=Nat.mul_le_mul_right _ hrd;rw [Nat.mul_comm 4294967296 d];omega
   have HF:Hid (∀ j,j<n→updU f g ((r*4294967296+x) / d) j<4294967296):=fun j hj=>by
    unfold updU;split
    ·exact hql
    ·exact hfb j hj
   have HE:Hid (hf (updU f g ((r*4294967296+x) / d)) g n*d+(r*4294967296+x) % d=hf (fun j=>la.getD j 0) g n):=by
    have e3:hf (updU f g ((r*4294967296+x) / d)) (g+1) n=hf f (g+1) n:=hf_congr fun j hj=>by unfold updU;rw [if_neg (by omega)]
    have e4:updU f g ((r*4294967296+x) / d) g=(r*4294967296+x) / d:=by unfold updU;rw [if_pos rfl]
    have goal:hf (updU f g ((r*4294967296+x) / d)) g n*d+(r*4294967296+x) % d=hf (fun j=>la.getD j 0) g n:=by
     rw [hf_step _ (by omega:g<n),hf_step (fun j=>la.getD j 0) (by omega:g<n),e3,e4,hxx];exact hst
    exact goal
   have hrl:(r*4294967296+x) % d<d:=Nat.mod_lt _ d0;have hqb:r*4294967296+x<18446744073709551616:=by omega
   generalize hq:r*4294967296+x=q at *;rw [e0] at hor;have e1:((q:Nat):Int) / (d:Int)=((q / d:Nat):Int):=by simp
   have e2:((q:Nat):Int) % (d:Int)=((q % d:Nat):Int):=by simp
   have HN:Hid (RowU (wr.setCell ⟨w.heap.size,g,none⟩ (.int .u32 ((q / d:Nat):Int))) w.heap.size n (updU f g (q / d))):=hrow.set _ _;have HBN:Hid (Below w.heap.size w (wr.setCell ⟨w.heap.size,g,none⟩ (.int .u32 ((q / d:Nat):Int)))):=below_set hb _ _ _ (Nat.le_refl _);clear hst heq hfb hrow hb hxx hq;have di:0<(d:Int):=by omega
   have dl:(d:Int)<4294967296:=by omega
   have dz:((d:Int) == 0)=false:=beq_eq_false_iff_ne.2 (by omega);generalize q / d=u at *;have ql:(u:Int)<4294967296:=by omega
   have qm:(u:Int) % 4294967296=(u:Int):=by omega
   generalize q % d=v at *;go_wp2_with fail;go_roundw
   case rel=>exact ⟨g,v,_,by omega,by go_num,by first | rfl | rw [e2],hrl,HN.o,HF.o,HBN.o,HE.o⟩
   case measure=>first | (simp [intOf];done) | (simp [intOf];omega)
end words
end Go.Proofs.YtnpblpbohcegoaaGreatDoor
