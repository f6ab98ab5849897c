import Derived.Test.YtnpblpbohcegoaaGreatDoorVBTed15
import Derived.Test.YtnpblpbohcegoaaGreatDoorVBTed17
import Derived.Test.YtnpblpbohcegoaaGreatDoorVBTed18
set_option linter.unusedVariables false
set_option linter.unusedSimpArgs false
set_option maxHeartbeats 4000000
set_option maxRecDepth 100000
namespace Go.Proofs.YtnpblpbohcegoaaGreatDoor
namespace vnd
open book (Ev ev0 Cm cm0 So so0 Sees)
open acc (Ac Tm Bi)
open ora (Pr)
open cell (Wr RowU RowW)
open rcp (Rc rc0)
open Go.RowKit
def TokGot (w:World) (R:List Wr→List Pr→Rc→Int→Prop) (e:Ending) (w':World):Prop:=∃ p m cp ls p5 n5 c5 o' r f,e = .returned (.tuple #[.slice p m cp,.agg #[.slice p5 n5 c5],rcp.Rc.v r,zI f])∧R ls o' r f∧RowW w' p m ls∧(∀ x,p=some x→w.heap.size≤x.block)∧m≤cp∧m≤100000∧ora.RowP w' p5 n5 o'∧(p5=none→c5=0)∧n5≤c5∧(∀ y,p5=some y→w.heap.size≤y.block)∧Below w.heap.size w w'
structure Od where
 k:Int
 m:Int
 a:Int
 b:Int
 d:Int
def od0:Od:=⟨0,0,0,0,0⟩
def wf5 (x:Od):Prop:=(Lit.int .i64 x.k).wf=true∧(Lit.int .i64 x.m).wf=true∧(Lit.int .i64 x.a).wf=true∧(Lit.int .i64 x.b).wf=true∧(Lit.int .i64 x.d).wf=true
def ServedIs (t:Tm) (c:List Int) (o:List Pr) (x:Od) (ls:List Wr) (o':List Pr) (r:Rc) (f:Int):Prop:=
 (check.pick x.k 8=0∧ChaIs t c (check.pick x.m 3) (1+check.pick x.a 100000) (check.pick x.b 1000) ls f∧o'=o∧r=rc0) ∨
 (check.pick x.k 8=1∧TokIs 3 t c o (check.pick x.m 3) 0 (check.pick x.b 12) (check.pick x.d 65536) ls o' r f) ∨
 (check.pick x.k 8=2∧TokIs 4 t c o (check.pick x.m 3) 0 0 (check.pick x.d 65536) ls o' r f) ∨
 ((check.pick x.k 8≠0∧check.pick x.k 8≠1∧check.pick x.k 8≠2)∧TokIs 2 t c o (check.pick x.m 3) (1+check.pick x.a 1000000) (check.pick x.b 12) (check.pick x.d 65536) ls o' r f)
def ServePost (w:World) (ao:Option Addr) (no:Nat) (R:List Wr→List Pr→Rc→Int→Prop) (e:Ending) (w':World):Prop:=∃ p m cp ls p5 n5 c5 o' r f,e = .returned (.tuple #[.slice p m cp,.agg #[.slice p5 n5 c5],rcp.Rc.v r,zI f])∧R ls o' r f∧RowW w' p m ls∧(∀ x,p=some x→w.heap.size≤x.block)∧m≤cp∧m≤100000∧ora.RowP w' p5 n5 o'∧(p5=none→c5=0)∧n5≤c5∧(0<n5→∀ y,p5=some y→w.heap.size≤y.block∨(0<no∧ao=some y))∧Below w.heap.size w w'
theorem rowW_updK {w W:World} {g:Nat} {cs:Array Value} {T:TypeId} {p:Option Addr} {n:Nat} {l:List Wr} (h:RowW w p n l) (hU:Upd w W g cs T) (hg:0<n→∀ y,p=some y→y.block≠g):RowW W p n l:=by
 refine ⟨h.1,?_⟩;rcases h.2 with h0 | ⟨b,off,rfl,hc⟩
 ·exact .inl h0
 ·refine .inr ⟨b,off,rfl,fun i hi=>?_⟩;have hne:b≠g:=hg (by omega) _ rfl;rw [hU.cell _ hne rfl,hU.cell _ hne rfl];exact hc i hi
theorem rowW_ltK {w:World} {p:Option Addr} {n:Nat} {l:List Wr} (h:RowW w p n l):0<n→∀ y,p=some y→y.block<w.heap.size:=fun hn y hy=>by
 rcases h.2 with h0 | ⟨b,off,rfl,hc⟩
 ·omega
 ·cases hy;exact World.block_lt_of_cell? w _ (hc 0 hn).1
theorem rowP_ltK {w:World} {p:Option Addr} {n:Nat} {l:List Pr} (h:ora.RowP w p n l):0<n→∀ y,p=some y→y.block<w.heap.size:=fun hn y hy=>by
 obtain ⟨b,off,h8,l8,_⟩:=h.at hn;rw [h8] at hy;cases hy;exact l8
theorem rowP_updK {w W:World} {g:Nat} {cs:Array Value} {T:TypeId} {p:Option Addr} {n:Nat} {l:List Pr} (h:ora.RowP w p n l) (hU:Upd w W g cs T) (hg:0<n→∀ y,p=some y→y.block≠g):ora.RowP W p n l:=by
 refine ⟨h.1,?_⟩;rcases h.2 with h0 | ⟨b,off,rfl,hc⟩
 ·exact .inl h0
 ·refine .inr ⟨b,off,rfl,fun i hi=>?_⟩;have hne:b≠g:=hg (by omega) _ rfl;obtain ⟨h0,h1,h2,h3⟩:=hc i hi;exact ⟨by rw [hU.cell _ hne rfl];exact h0,by rw [hU.cell _ hne rfl];exact h1,by rw [hU.cell _ hne rfl];exact h2,by rw [hU.cell _ hne rfl];exact h3⟩
def KvCha:Prop:=∀ (W:World) (t:Tm) (pt:Option Addr) (lt ct:Nat) (a:Option Addr) (n cap:Nat) (c:List Int) (me:Int) (q:tar.Du),acc.TCame W t pt lt ct→Dk W a n cap c→(Lit.int .i64 me).wf=true→(Lit.int .i64 q.a).wf=true→(Lit.int .i64 q.b).wf=true→Calls Tryz.prog 42 #[t.v pt lt ct,.slice a n cap,zI me,.agg #[zI q.a,zI q.b]] W fun e w'=>WrGot W (ChaIs t c me q.a q.b) e w'
def KvGrant (w0:World):Prop:=∀ (W:World) (t:Tm) (pt:Option Addr) (lt ct:Nat) (a:Option Addr) (n cap:Nat) (c:List Int) (ao:Option Addr) (no ko:Nat) (o:List Pr) (me mo dr:Int),Below w0.heap.size w0 W→acc.TCame W t pt lt ct→Dk W a n cap c→ora.Came W ao no ko o→(Lit.int .i64 me).wf=true→(Lit.int .i64 mo).wf=true→(Lit.int .i64 dr).wf=true→Calls Tryz.prog 43 #[t.v pt lt ct,.slice a n cap,.agg #[.slice ao no ko],zI me,zI mo,zI dr] W fun e w'=>TokGot W (TokIs 3 t c o me 0 mo dr) e w'
theorem KvGrant.up {w0 w:World} (K:KvGrant w0) (hb:Below w0.heap.size w0 w):KvGrant w:=fun W t pt lt ct a n cap c ao no ko o me mo dr hW=>K W t pt lt ct a n cap c ao no ko o me mo dr (bel_step hb hW)
def KvRekey (w0:World):Prop:=∀ (W:World) (t:Tm) (pt:Option Addr) (lt ct:Nat) (a:Option Addr) (n cap:Nat) (c:List Int) (ao:Option Addr) (no ko:Nat) (o:List Pr) (me dr:Int),Below w0.heap.size w0 W→acc.TCame W t pt lt ct→Dk W a n cap c→ora.Came W ao no ko o→(Lit.int .i64 me).wf=true→(Lit.int .i64 dr).wf=true→Calls Tryz.prog 44 #[t.v pt lt ct,.slice a n cap,.agg #[.slice ao no ko],zI me,zI dr] W fun e w'=>TokGot W (TokIs 4 t c o me 0 0 dr) e w'
theorem KvRekey.up {w0 w:World} (K:KvRekey w0) (hb:Below w0.heap.size w0 w):KvRekey w:=fun W t pt lt ct a n cap c ao no ko o me dr hW=>K W t pt lt ct a n cap c ao no ko o me dr (bel_step hb hW)
def KvSell (w0:World):Prop:=∀ (W:World) (t:Tm) (pt:Option Addr) (lt ct:Nat) (a:Option Addr) (n cap:Nat) (c:List Int) (ao:Option Addr) (no ko:Nat) (o:List Pr) (me te mo dr:Int),Below w0.heap.size w0 W→acc.TCame W t pt lt ct→Dk W a n cap c→ora.Came W ao no ko o→(Lit.int .i64 me).wf=true→(Lit.int .i64 te).wf=true→(Lit.int .i64 mo).wf=true→(Lit.int .i64 dr).wf=true→Calls Tryz.prog 45 #[t.v pt lt ct,.slice a n cap,.agg #[.slice ao no ko],zI me,zI te,zI mo,zI dr] W fun e w'=>TokGot W (TokIs 2 t c o me te mo dr) e w'
theorem KvSell.up {w0 w:World} (K:KvSell w0) (hb:Below w0.heap.size w0 w):KvSell w:=fun W t pt lt ct a n cap c ao no ko o me te mo dr hW=>K W t pt lt ct a n cap c ao no ko o me te mo dr (bel_step hb hW)
end vnd
namespace cell
open Go.RowKit
theorem copy_run (a:Addr) (n cc g:Nat) (zs:List Int) (w:World) (hz:zs.length=n) (hr:Blk w g (arr (List.replicate n 0)) 99) (hc:∀ i,i<n→w.cell? (a.add i)=some (.int .u32 (zs.getD i 0))) :
  (Builtin.copy_ #[25,25] 3 #[.slice (some ⟨g,0,none⟩) n n,.slice (some a) n cc]).run Tryz.prog w = .ok (zI (n:Int)) (w.setRow g (arr zs)):=by
 have hrun:=run_copy_row (P:=Tryz.prog) w 25 25 3 99 g 0 n n a n cc (arr (List.replicate n 0)) 99 (zs.map (Value.int .u32)) Tryz.underlying25 (by kernel_rfl) hr (by
   rw [List.length_map,hz];exact (Nat.min_self n).symm) (by
   intro j u hu;by_cases hj:j<zs.length
   ·simp [List.getElem?_eq_getElem hj] at hu;subst hu;have:=hc j (by omega);simpa [List.getD,List.getElem?_eq_getElem hj] using this
   ·rw [List.getElem?_eq_none (by simp;omega)] at hu;cases hu) (by simp [arr,hz]) (by
   intro u hu;obtain ⟨z,_,rfl⟩:=List.mem_map.1 hu;rfl)
 rw [hrun]
 congr 2
 ·rw [List.length_map,hz]
 ·unfold arr;simp [hz]
theorem setRow_blk {w:World} {g:Nat} {c0 c1:Array Value} {t:TypeId} (h:Blk w g c0 t):Blk (w.setRow g c1) g c1 t:=setRow_heap w g _ _ t _ h
theorem written_any (a b:Option Addr) (n m c1 c2:Nat) (xs:List Int) (ls:List Wr) (w:World) (h1:RowU w a n xs) (h2:RowW w b m ls) (hn:1≤n) (hn2:n≤2048) (hm:m≤4096) (hall:allN n ls=true) :
  Calls Tryz.prog 49 #[.slice a n c1,.slice b m c2] w fun e w'=>∃ g,e = .returned (.slice (some ⟨g,0,none⟩) n n)∧RowU w' (some ⟨g,0,none⟩) n (wrt xs ls)∧Below w.heap.size w w':=by
 have hmk:∀ W:World,(Instr.makeSlice 25 (zI (n:Int)) (zI (n:Int))).run Tryz.prog W = .ok (.slice (some ⟨W.heap.size,0,none⟩) n n) (W.alloc (.cells (arr (List.replicate n 0)) 99)):=make_u32 n (by omega);obtain ⟨b1,o1,rfl,l1,hc1⟩:=h1.at (by omega);have hz:=h1.1
 have hcp:=copy_run ⟨b1,o1,none⟩ n c1 w.heap.size xs (w.alloc (.cells (arr (List.replicate n 0)) 99)) hz (Blk.new _ _ _) (fun i hi=>by
  rw [Addr.add_lit,World.cell?_alloc_lt w _ _ l1];exact hc1 i hi)
 have HG0:Hid (Blk ((w.alloc (.cells (arr (List.replicate n 0)) 99)).setRow w.heap.size (arr xs)) w.heap.size (arr xs) 99):=setRow_blk (Blk.new _ _ _);have HB0:Hid (Below w.heap.size w ((w.alloc (.cells (arr (List.replicate n 0)) 99)).setRow w.heap.size (arr xs))):=below_setRow ((Below.refl _ _).alloc (Nat.le_refl _) _) (Nat.le_refl _) _;have HR:Hid (RowW w b m ls):=h2;have HA:Hid (allN n ls=true):=hall;have HL:Hid (xs.length=n∧ls.length=m):=⟨hz,h2.1⟩
 clear h1 h2 hc1 hall hz l1;generalize arr (List.replicate n 0)=zz at *;go_enter Tryz.func49,Tryz.ntmps49;go_wp2_with fail;generalize (w.alloc (Obj.cells zz 99)).setRow w.heap.size (arr xs)=W0 at *;generalize hgg:w.heap.size=g at *;have HGG:Hid (w.heap.size=g):=hgg;clear hgg hcp hmk;go_loopw [16] (fun i wr=>∃ k:Nat,k≤m∧i=zI (k:Int)∧Blk wr g (arr (wrt xs (ls.take k))) 99∧Below g w wr) (fun i _=>m - (intOf i).toNat)
 case atStart=>exact ⟨0,Nat.zero_le _,rfl,HG0.o,HB0.o⟩
 case round=>
  obtain ⟨k,hk,rfl,hg,hb⟩:=hrel;have HK:Hid (Blk wr g (arr (wrt xs (ls.take k))) 99):=hg;have HB:Hid (Below g w wr):=hb;clear hg hb HG0 HB0;by_cases hlt:k<m
  ·obtain ⟨b2,o2,rfl,l2,hc2⟩:=HR.o.at (by omega);rw [HGG.o] at l2;have f1:wr.cell? ⟨b2,o2+k*2,none⟩=some (zI (ls.getD k wr0).p):=(HB.o.cell (p:=⟨b2,o2+k*2,none⟩) l2).trans (hc2 k hlt).1;have f2:wr.cell? ⟨b2,o2+k*2+1,none⟩=some (.int .u32 (ls.getD k wr0).d):=(HB.o.cell (p:=⟨b2,o2+k*2+1,none⟩) l2).trans (hc2 k hlt).2;have hin:=allN_at HA.o k (by have:=HL.o.2;omega);have HST:Hid (wrt xs (ls.take (k+1))=(wrt xs (ls.take k)).set (ls.getD k wr0).p.toNat (ls.getD k wr0).d):=wrt_step xs ls k (by have:=HL.o.2;omega);have HLZ:Hid ((wrt xs (ls.take k)).length=n):=by show _=_;rw [wrt_len];exact HL.o.1
   clear hc2 l2;generalize (ls.getD k wr0).p=pz at *;generalize (ls.getD k wr0).d=d at *;generalize wrt xs (ls.take k)=zs at *;obtain ⟨p,rfl⟩:∃ p:Nat,pz=p:=⟨pz.toNat,by omega⟩
   obtain ⟨_,hp⟩:=hin;have hp':p<n:=by omega
   clear hp;rw [Int.toNat_natCast] at HST;have hN:=Blk.new wr #[zI (p:Int),.int .u32 d] 122;have hK:=HK.o.alloc (.cells #[zI (p:Int),.int .u32 d] 122);have n0:=hN.cell 0;have n1:=hN.cell 1;have k0:=Blk.word hK p (by rw [HLZ.o];exact hp');have k1:=hK.free p
   have HNX:Hid (Blk ((wr.alloc (.cells #[zI (p:Int),.int .u32 d] 122)).setCell ⟨g,p,none⟩ (.int .u32 d)) g (arr (wrt xs (ls.take (k+1)))) 99):=by
    have h:=hK.set p (.int .u32 d);rw [arr_set] at h;rw [HST.o];exact h
   have HBX:Hid (Below g w ((wr.alloc (.cells #[zI (p:Int),.int .u32 d] 122)).setCell ⟨g,p,none⟩ (.int .u32 d))):=by
    have h0:g≤wr.heap.size:=by have:=HB.o.size;have h3:=HGG.o;omega
    exact bel_set (HB.o.alloc h0 _) g p _ (Nat.le_refl _)
   clear hN hK;go_wp2_with fail;go_roundw
   case rel=>exact ⟨k+1,by omega,by go_num,HNX.o,HBX.o⟩
   case measure=>simp [intOf];omega
  ·obtain rfl:k=m:=by omega
   have HX:Hid (RowU wr (some ⟨g,0,none⟩) n (wrt xs ls)):=Blk.rowU (by have:=HK.o;rw [List.take_of_length_le (by have:=HL.o.2;omega)] at this;exact this) (by rw [wrt_len];exact HL.o.1);go_wp2_with fail;go_ret;exact ⟨g,rfl,HX.o,by rw [HGG.o];exact HB.o⟩
end cell
namespace book
open Go.RowKit cell
def DecGot (w:World) (l:List Int) (e:Ending) (w':World):Prop:=∃ v f,e = .returned (.tuple #[Ev.v v,zI f])∧DecIs l v f∧Below w.heap.size w w'
def KDec:Prop:=∀ (W:World) (a:Option Addr) (n cap:Nat) (l:List Int),RowU W a n l→(a=none→cap=0)→n≤cap→n*4≤140737488351232→(∀ x∈l,0≤x∧x<4294967296)→Calls Tryz.prog 36 #[.slice a n cap] W fun e w'=>DecGot W l e w'
theorem cellsE_app (l m:List Ev):cellsE (l++m)=cellsE l++cellsE m:=by
 induction l with
 | nil=>rfl
 | cons e l ih=>rw [List.cons_append,cellsE,cellsE,ih,List.append_assoc]
def Le (w:World) (base:Nat) (v:Value) (l:List Ev):Prop:=w.ownsRow base 72 13 v l.length (cellsE l)
theorem Le.zero (w:World) (base:Nat):Le w base (zS) []:=World.ownsRow_nil _ _ _ _
theorem Le.alloc {w:World} {base:Nat} {v:Value} {l:List Ev} (h:Le w base v l) (o:Obj):Le (w.alloc o) base v l:=World.ownsRow.alloc h o
theorem Le.next {w w':World} {base:Nat} {v:Value} {l:List Ev} (h:Le w base v l) (hb:Below w.heap.size w w'):Le w' base v l:=by
 refine ⟨h.1,?_⟩;rcases h.2 with hn | ⟨g,cap,cur,hv,hg,hc,rest⟩
 ·exact .inl hn
 ·exact .inr ⟨g,cap,cur,hv,hg,Blk.next hc hb,rest⟩
theorem Le.came {w:World} {base:Nat} {v:Value} {l:List Ev} (h:Le w base v l) (hl:l.length≤100000) (hw:∀ x∈l,wf13 x):∃ a cap,v = .slice a l.length cap∧ECame w a l.length cap l:=by
 rcases h.2 with ⟨hv,hn⟩ | ⟨g,cap,cur,hv,_,hc,h1,_⟩
 ·exact ⟨none,0,by rw [hn];exact hv,⟨⟨rfl,.inl hn⟩,fun _=>rfl,by omega,by omega,hw⟩⟩
 ·subst hv;refine ⟨_,cap,rfl,⟨⟨rfl,.inr ⟨g,0,rfl,Blk.lt hc,fun i j hi hj=>?_⟩⟩,(fun h=>by cases h),h1,by omega,hw⟩⟩;have e1:=World.ownsRow.cellAt h (i*13+j) (by omega);rw [Nat.zero_add,e1];exact cellsE_at l i j hi hj
theorem wp_ev {w:World} {ops:Array Oper} {rest:List Oper} {o:Oper} {a:Act} {Q:Exit→Act→World→Prop} (hgd:o.guard=none) (s x:Operand)
  (ho:o.op = .call { callee:= .builtin .append,args:=#[s,x],argTypes:=#[58,58] })
  (base G:Nat) (v:Value) (l:List Ev) (r:Ev) (hs:a.eval s=v) (hx:a.eval x = .slice (some ⟨G,0,none⟩) 1 1) (hv:Le w base v l) (hu:Blk w G r.cl.toArray 72) (hn:l.length≤1000000) (hbase:base≤w.heap.size)
  (h:∀ v' w',Le w' base v' (l++[r])→w.grownBy w' v.ownBlock→wpList Tryz.prog ops Q rest (a.put o.dst v') w'):wpList Tryz.prog ops Q (o :: rest) a w:=by
 obtain ⟨i0,hi,hz0,hz1,hz2⟩:=info_parts evI;refine wpList_append_own w hgd s x 58 ho base 72 i0 (.agg ev0.cl.toArray) 13 104 Tryz.underlying58 hi hz0 hz1 hz2 rfl (by decide) v l.length (cellsE l) hs hv ⟨G,0,none⟩ 1 1 (cellsE [r]) hx (by rw [cellsE_len];rfl) ?_ (oneE [r]) (by unfold maxLen;omega) (by omega) hbase ?_
 ·intro j u hj;rw [Addr.add_lit,Nat.zero_add,hu.cell j];rw [cellsE,cellsE,List.append_nil] at hj;simpa using hj
 intro v' w' h1 h2 _;refine h v' w' ?_ h2;unfold Le;rw [List.length_append,cellsE_app];exact h1
def KOf:Prop:=∀ (W:World) (t:acc.Tm) (pt:Option Addr) (lt ct:Nat) (pl:Option Addr) (n cap:Nat) (l:List Ev),acc.TCame W t pt lt ct→ECame W pl n cap l→Calls Tryz.prog 17 #[t.v pt lt ct,.slice pl n cap] W fun e w'=>BookPost W t l e w'
end book
namespace disk
open Go.RowKit cell
def EPost (J:Nat→World→Prop) (c:List Int) (e:Ending) (w':World):Prop:=
 ∃ x f k,e = .returned (.tuple #[zI x,zI f])∧J k w'∧((¬ May c∧x=0∧f=1)∨(May c∧lenAt c (repD c).2<0∧x=0∧f=3)∨(May c∧lenAt c (repD c).2=0∧repD c=itD c k∧x=((repD c).2:Int)∧f=0))
theorem len_zero {c:List Int} {p:Nat} (h:c.getD p 0=0):lenAt c p=0:=by unfold lenAt;rw [if_pos (.inr h)]
theorem len_end {c:List Int} {p:Nat} (h:p=c.length):lenAt c p=0:=by unfold lenAt;rw [if_pos (.inl h)]
theorem len_bad {c:List Int} {p:Nat} (hp:p<c.length) (h0:c.getD p 0≠0) (h:64<c.getD p 0∨(c.length:Int)≤p+c.getD p 0):lenAt c p<0:=by
 unfold lenAt;rw [if_neg (by omega)];by_cases h1:64<c.getD p 0
 ·rw [if_pos h1];decide
 ·rw [if_neg h1,if_pos (by omega)];decide
theorem get_wd {c:List Int} (hw:∀ x∈c,0≤x∧x<4294967296) (p:Nat):0≤c.getD p 0∧c.getD p 0<4294967296:=by
 by_cases h:p<c.length
 ·have e:c.getD p 0=c[p]:=by simp [List.getD,h]
  rw [e];exact hw _ (List.getElem_mem h)
 ·have e:c.getD p 0=0:=by simp [List.getD,Nat.le_of_not_lt h]
  rw [e];decide
theorem rowU_part {W:World} {b o n:Nat} {c:List Int} (h:RowU W (some ⟨b,o,none⟩) n c) {p m:Nat} (hm:(c.getD p 0).toNat=m) (hp:p+m<n):RowU W (some ⟨b,o+(p+1),none⟩) m (recAt c p):=by
 refine ⟨rec_len hm (by rw [h.1];exact hp),.inr ⟨b,o+(p+1),rfl,fun i hi=>?_⟩⟩;obtain ⟨b',o',e,_,hc⟩:=h.at (by omega);cases e;rw [rec_at hm hi,show o+(p+1)+i=o+(p+1+i) by omega];exact hc (p+1+i) (by omega)
theorem each_any (F:Nat) (caps:Array Value) (J:Nat→World→Prop) (a:Option Addr) (n cap:Nat) (c:List Int) (w:World) (hJ:∀ k W,J k W→RowU W a n c) (h0:J 0 w) (hcap:n≤cap) (hw:∀ x∈c,0≤x∧x<4294967296) (hK:∀ args w,(callFunc F args).run Tryz.prog w = .ok (.enter F args) w)
  (hf:∀ (k p m b o:Nat) (W:World),J k W→(itD c k).2=p→itD c (k+1)=((itD c k).1++[recAt c p],p+m+1)→RowU W (some ⟨b,o,none⟩) m (recAt c p)→1≤m→m≤64→p≤2048→Calls Tryz.prog F (#[.slice (some ⟨b,o,none⟩) m m]++caps) W fun e w'=>e = .returned (.tuple #[])∧J (k+1) w') :
  Calls Tryz.prog 62 #[.slice a n cap,.func (.func F) #[] caps] w fun e w'=>EPost J c e w':=by
 have hcl:=(hJ 0 w h0).1;have H0:Hid (J 0 w):=h0;have HN:Hid (c.length=n):=hcl;by_cases hmay:1≤n∧n≤2048
 ·obtain ⟨b,o,rfl,_,_⟩:=(hJ 0 w h0).at (by omega);have HJ:Hid (∀ k W,J k W→RowU W (some ⟨b,o,none⟩) n c):=hJ
  have HCL:Hid (∀ k W,J k W→∀ j,j<n→W.cell? ⟨b,o+j,none⟩=some (.int .u32 (c.getD j 0))):=fun k W h j hj=>by
   obtain ⟨b',o',e,_,hc⟩:=(hJ k W h).at (by omega);cases e;exact hc j hj
  have HW:Hid (∀ p,0≤c.getD p 0∧c.getD p 0<4294967296):=get_wd hw;have HF:Hid (∀ (k p m b o:Nat) (W:World),J k W→(itD c k).2=p→itD c (k+1)=((itD c k).1++[recAt c p],p+m+1)→RowU W (some ⟨b,o,none⟩) m (recAt c p)→1≤m→m≤64→p≤2048→Calls Tryz.prog F (#[.slice (some ⟨b,o,none⟩) m m]++caps) W fun e w'=>e = .returned (.tuple #[])∧J (k+1) w'):=hf;have HMY:Hid (May c):=⟨by omega,by omega⟩
  obtain ⟨hn1,hn2⟩:=hmay;have d1:decide ((n:Int)<1)=false:=by simp;omega
  have d2:decide ((2048:Int)<(n:Int))=false:=by simp;omega
  clear hJ hf hw hcl h0;go_enter Tryz.func62,Tryz.ntmps62;go_wp2_with fail;go_loopw [6] (fun v6 wr=>∃ (k p:Nat),p≤n∧v6=zI (p:Int)∧(itD c k).2=p∧J k wr) (fun v6 _=>n+1 - (intOf v6).toNat)
  case atStart=>exact ⟨0,0,Nat.zero_le _,rfl,rfl,H0.o⟩
  case round=>
   obtain ⟨k,p,hp,rfl,hk,hj⟩:=hrel;have HJK:Hid (J k wr):=hj;have HK:Hid ((itD c k).2=p):=hk;clear hj hk H0;by_cases hpn:p<n
   ·have k2:=HCL.o k wr HJK.o p hpn;have hz:=HW.o p;have e1:decide ((p:Int)<(n:Int))=true:=by simp;omega
    by_cases hz0:c.getD p 0=0
    ·have HL0:Hid (lenAt c p=0):=len_zero hz0
     have HE:Hid (EPost J c (.returned (.tuple #[zI (p:Int),zI 0])) wr):=by
      have hd:¬ 0<lenAt c (itD c k).2:=by rw [HK.o,HL0.o];decide
      have hr:=rep_of hd;exact ⟨_,_,k,rfl,HJK.o,.inr (.inr ⟨HMY.o,by rw [hr,HK.o];exact HL0.o,hr,by rw [hr,HK.o],rfl⟩)⟩
     rw [hz0] at k2;clear hz hz0 HJ HCL HW HF HK HJK HL0;go_wp2_with fail;go_ret2;exact HE.o
    ·by_cases hbad:64<c.getD p 0∨(n:Int)≤p+c.getD p 0
     ·have HE:Hid (EPost J c (.returned (.tuple #[zI 0,zI 3])) wr):=by
       have hl:=len_bad (c:=c) (p:=p) (by rw [HN.o];exact hpn) hz0 (by rw [HN.o];exact hbad);have hd:¬ 0<lenAt c (itD c k).2:=by rw [HK.o];omega
       exact ⟨_,_,k,rfl,HJK.o,.inr (.inl ⟨HMY.o,by rw [rep_of hd,HK.o];exact hl,rfl,rfl⟩)⟩
      have e0:(c.getD p 0 != 0)=true:=by simpa using hz0
      clear HJ HCL HW HF HK HJK;generalize c.getD p 0=z at *;obtain ⟨hz1,hz2⟩:=hz;by_cases h64:64<z
      ·have e3:decide ((64:Int)<z)=true:=by simpa using h64
       clear hbad;go_wp2_with fail;go_ret2;exact HE.o
      ·have e3:decide ((64:Int)<z)=false:=by simpa using h64
       have e4:decide ((n:Int)<(p:Int)+1+z)=true:=by simp;omega
       clear hbad;go_wp2_with fail;go_ret2;exact HE.o
     ·obtain ⟨m,hm⟩:∃ m:Nat,c.getD p 0=(m:Int):=⟨(c.getD p 0).toNat,by omega⟩
      have hgm:(c.getD p 0).toNat=m:=by rw [hm];simp
      have hm1:1≤m:=by omega
      have hm2:m≤64:=by omega
      have hpm:p+m<n:=by omega
      have hla:lenAt c p=(m:Int):=by rw [len_of (by omega) (by omega) (by rw [HN.o];omega),hm]
      have HIT:Hid (itD c (k+1)=((itD c k).1++[recAt c p],p+m+1)):=by
       have h:=it_live (c:=c) (k:=k) (by rw [HK.o,hla];omega);rw [HK.o,hla,Int.toNat_natCast] at h;exact h
      have HCC:Hid (Calls Tryz.prog F (#[.slice (some ⟨b,o+(p+1),none⟩) m m]++caps) wr fun e w'=>e = .returned (.tuple #[])∧J (k+1) w'):=HF.o k p m b (o+(p+1)) wr HJK.o HK.o HIT.o (rowU_part (HJ.o k wr HJK.o) hgm hpm) hm1 hm2 (by omega);rw [hm] at k2;have e0:((m:Int) != 0)=true:=by simp;omega
      have e3:decide ((64:Int)<(m:Int))=false:=by simp;omega
      have e4:decide ((n:Int)<(p:Int)+1+(m:Int))=false:=by simp;omega
      have hc1:p+1<cap:=by omega
      clear hz hz0 hbad hm hgm hla HF HJ HW HCL;go_wp2_with fail;refine HCC.o.mono ?_;rintro e w1 ⟨rfl,hj1⟩;have HJ1:Hid (J (k+1) w1):=hj1;clear hj1;go_wp2_with fail;go_roundw
      case rel=>exact ⟨k+1,p+m+1,by omega,by go_num,by rw [HIT.o],HJ1.o⟩
      case measure=>simp [intOf];omega
   ·have e1:decide ((p:Int)<(n:Int))=false:=by simp;omega
    have HE:Hid (EPost J c (.returned (.tuple #[zI (p:Int),zI 0])) wr):=by
     have hl:lenAt c p=0:=len_end (by rw [HN.o];omega);have hd:¬ 0<lenAt c (itD c k).2:=by rw [HK.o,hl];decide
     have hr:=rep_of hd;exact ⟨_,_,k,rfl,HJK.o,.inr (.inr ⟨HMY.o,by rw [hr,HK.o];exact hl,hr,by rw [hr,HK.o],rfl⟩)⟩
    clear HJ HCL HW HF HK HJK;go_wp2_with fail;go_ret2;exact HE.o
 ·have HE:Hid (EPost J c (.returned (.tuple #[zI 0,zI 1])) w):=⟨0,1,0,rfl,H0.o,.inl ⟨fun h=>hmay ⟨by rw [← hcl];exact h.1,by rw [← hcl];exact h.2⟩,rfl,rfl⟩⟩
  clear hJ hf hw h0 H0 hcl HN;go_enter Tryz.func62,Tryz.ntmps62;by_cases h1:1≤n
  ·have d1:decide ((n:Int)<1)=false:=by simp;omega
   have d2:decide ((2048:Int)<(n:Int))=true:=by simp;omega
   go_wp2_with fail;go_ret2;exact HE.o
  ·have d1:decide ((n:Int)<1)=true:=by simp;omega
   go_wp2_with fail;go_ret2;exact HE.o
end disk
namespace book
open Go.RowKit
theorem eqBi_f0 (a0 a1 a2 a3 a4 a5 a6:Int) (w:World):(part 3 #[zI a0,zI a1,zI a2,zI a3,zI a4,zI a5,zI a6] 0).run Tryz.prog w = .ok (zI a0) w:=by kernel_rfl
theorem eqBi_f1 (a0 a1 a2 a3 a4 a5 a6:Int) (w:World):(part 3 #[zI a0,zI a1,zI a2,zI a3,zI a4,zI a5,zI a6] 1).run Tryz.prog w = .ok (zI a1) w:=by kernel_rfl
theorem eqBi_f2 (a0 a1 a2 a3 a4 a5 a6:Int) (w:World):(part 3 #[zI a0,zI a1,zI a2,zI a3,zI a4,zI a5,zI a6] 2).run Tryz.prog w = .ok (zI a2) w:=by kernel_rfl
theorem eqBi_f3 (a0 a1 a2 a3 a4 a5 a6:Int) (w:World):(part 3 #[zI a0,zI a1,zI a2,zI a3,zI a4,zI a5,zI a6] 3).run Tryz.prog w = .ok (zI a3) w:=by kernel_rfl
theorem eqBi_f4 (a0 a1 a2 a3 a4 a5 a6:Int) (w:World):(part 3 #[zI a0,zI a1,zI a2,zI a3,zI a4,zI a5,zI a6] 4).run Tryz.prog w = .ok (zI a4) w:=by kernel_rfl
theorem eqBi_f5 (a0 a1 a2 a3 a4 a5 a6:Int) (w:World):(part 3 #[zI a0,zI a1,zI a2,zI a3,zI a4,zI a5,zI a6] 5).run Tryz.prog w = .ok (zI a5) w:=by kernel_rfl
theorem eqBi_f6 (a0 a1 a2 a3 a4 a5 a6:Int) (w:World):(part 3 #[zI a0,zI a1,zI a2,zI a3,zI a4,zI a5,zI a6] 6).run Tryz.prog w = .ok (zI a6) w:=by kernel_rfl
theorem eqBi (d:Nat) (a0 a1 a2 a3 a4 a5 a6 b0 b1 b2 b3 b4 b5 b6:Int) (w:World):(Op.equalIn (d+2) 68 (.agg #[zI a0,zI a1,zI a2,zI a3,zI a4,zI a5,zI a6]) (.agg #[zI b0,zI b1,zI b2,zI b3,zI b4,zI b5,zI b6])).run Tryz.prog w = .ok (decide (a0=b0∧a1=b1∧a2=b2∧a3=b3∧a4=b4∧a5=b5∧a6=b6)) w:=by
 rw [run_equalIn_agg w (d+1) 68 _ _ (by kernel_rfl) (by kernel_rfl)];simp only [Program.fieldsOf,Tryz.underlying68,Op.eqFields,Sem.run_bind,Sem.run_ite,eqBi_f0,eqBi_f1,eqBi_f2,eqBi_f3,eqBi_f4,eqBi_f5,eqBi_f6,Result.andThen_ok,eqI];by_cases h0:a0=b0
 case neg=>simp [h0]
 subst h0;by_cases h1:a1=b1
 case neg=>simp [h1]
 subst h1;by_cases h2:a2=b2
 case neg=>simp [h2]
 subst h2;by_cases h3:a3=b3
 case neg=>simp [h3]
 subst h3;by_cases h4:a4=b4
 case neg=>simp [h4]
 subst h4;by_cases h5:a5=b5
 case neg=>simp [h5]
 subst h5;by_cases h6:a6=b6
 case neg=>simp [h6]
 subst h6;simp
theorem eqDe_f0 (a0 a1:Int) (w:World):(part 3 #[zI a0,zI a1] 0).run Tryz.prog w = .ok (zI a0) w:=by kernel_rfl
theorem eqDe_f1 (a0 a1:Int) (w:World):(part 3 #[zI a0,zI a1] 1).run Tryz.prog w = .ok (zI a1) w:=by kernel_rfl
theorem eqDe (d:Nat) (a0 a1 b0 b1:Int) (w:World):(Op.equalIn (d+2) 70 (.agg #[zI a0,zI a1]) (.agg #[zI b0,zI b1])).run Tryz.prog w = .ok (decide (a0=b0∧a1=b1)) w:=by
 rw [run_equalIn_agg w (d+1) 70 _ _ (by kernel_rfl) (by kernel_rfl)];simp only [Program.fieldsOf,Tryz.underlying70,Op.eqFields,Sem.run_bind,Sem.run_ite,eqDe_f0,eqDe_f1,Result.andThen_ok,eqI];by_cases h0:a0=b0
 case neg=>simp [h0]
 subst h0;by_cases h1:a1=b1
 case neg=>simp [h1]
 subst h1;simp
theorem eqEv_f0 (a0 a1 a2 a3 a4 a5 a6 a7 a8 a9 a10 a11 a12:Int) (w:World):(part 3 #[zI a0,zI a1,zI a2,zI a3,zI a4,zI a5,zI a6,zI a7,zI a8,zI a9,zI a10,zI a11,zI a12] 0).run Tryz.prog w = .ok (zI a0) w:=by kernel_rfl
theorem eqEv_f1 (a0 a1 a2 a3 a4 a5 a6 a7 a8 a9 a10 a11 a12:Int) (w:World):(part 3 #[zI a0,zI a1,zI a2,zI a3,zI a4,zI a5,zI a6,zI a7,zI a8,zI a9,zI a10,zI a11,zI a12] 1).run Tryz.prog w = .ok (zI a1) w:=by kernel_rfl
theorem eqEv_f2 (a0 a1 a2 a3 a4 a5 a6 a7 a8 a9 a10 a11 a12:Int) (w:World):(part 3 #[zI a0,zI a1,zI a2,zI a3,zI a4,zI a5,zI a6,zI a7,zI a8,zI a9,zI a10,zI a11,zI a12] 2).run Tryz.prog w = .ok (zI a2) w:=by kernel_rfl
theorem eqEv_f3 (a0 a1 a2 a3 a4 a5 a6 a7 a8 a9 a10 a11 a12:Int) (w:World):(part 68 #[zI a0,zI a1,zI a2,zI a3,zI a4,zI a5,zI a6,zI a7,zI a8,zI a9,zI a10,zI a11,zI a12] 3).run Tryz.prog w = .ok (.agg #[zI a3,zI a4,zI a5,zI a6,zI a7,zI a8,zI a9]) w:=by kernel_rfl
theorem eqEv_f10 (a0 a1 a2 a3 a4 a5 a6 a7 a8 a9 a10 a11 a12:Int) (w:World):(part 3 #[zI a0,zI a1,zI a2,zI a3,zI a4,zI a5,zI a6,zI a7,zI a8,zI a9,zI a10,zI a11,zI a12] 10).run Tryz.prog w = .ok (zI a10) w:=by kernel_rfl
theorem eqEv_f11 (a0 a1 a2 a3 a4 a5 a6 a7 a8 a9 a10 a11 a12:Int) (w:World):(part 70 #[zI a0,zI a1,zI a2,zI a3,zI a4,zI a5,zI a6,zI a7,zI a8,zI a9,zI a10,zI a11,zI a12] 11).run Tryz.prog w = .ok (.agg #[zI a11,zI a12]) w:=by kernel_rfl
theorem eqEv (d:Nat) (a0 a1 a2 a3 a4 a5 a6 a7 a8 a9 a10 a11 a12 b0 b1 b2 b3 b4 b5 b6 b7 b8 b9 b10 b11 b12:Int) (w:World):(Op.equalIn (d+3) 72 (.agg #[zI a0,zI a1,zI a2,zI a3,zI a4,zI a5,zI a6,zI a7,zI a8,zI a9,zI a10,zI a11,zI a12]) (.agg #[zI b0,zI b1,zI b2,zI b3,zI b4,zI b5,zI b6,zI b7,zI b8,zI b9,zI b10,zI b11,zI b12])).run Tryz.prog w = .ok (decide (a0=b0∧a1=b1∧a2=b2∧a3=b3∧a4=b4∧a5=b5∧a6=b6∧a7=b7∧a8=b8∧a9=b9∧a10=b10∧a11=b11∧a12=b12)) w:=by
 rw [run_equalIn_agg w (d+2) 72 _ _ (by kernel_rfl) (by kernel_rfl)];simp only [Program.fieldsOf,Tryz.underlying72,Op.eqFields,Sem.run_bind,Sem.run_ite,eqEv_f0,eqEv_f1,eqEv_f2,eqEv_f3,eqEv_f10,eqEv_f11,Result.andThen_ok,eqI,eqBi,eqDe];by_cases h0:a0=b0
 case neg=>simp [h0]
 subst h0;by_cases h1:a1=b1
 case neg=>simp [h1]
 subst h1;by_cases h2:a2=b2
 case neg=>simp [h2]
 subst h2;by_cases h3:a3=b3∧a4=b4∧a5=b5∧a6=b6∧a7=b7∧a8=b8∧a9=b9
 case neg=>
  have h3d:=decide_eq_false h3;have hx:¬ (a0=a0∧a1=a1∧a2=a2∧a3=b3∧a4=b4∧a5=b5∧a6=b6∧a7=b7∧a8=b8∧a9=b9∧a10=b10∧a11=b11∧a12=b12):=fun h=>h3 ⟨h.2.2.2.1,h.2.2.2.2.1,h.2.2.2.2.2.1,h.2.2.2.2.2.2.1,h.2.2.2.2.2.2.2.1,h.2.2.2.2.2.2.2.2.1,h.2.2.2.2.2.2.2.2.2.1⟩;simp only [h3d,decide_eq_false hx];simp;intro e3 e4 e5 e6 e7 e8 e9;exact absurd ⟨e3,e4,e5,e6,e7,e8,e9⟩ h3
 obtain ⟨rfl,rfl,rfl,rfl,rfl,rfl,rfl⟩:=h3;by_cases h10:a10=b10
 case neg=>simp [h10]
 subst h10;by_cases h11:a11=b11
 case neg=>simp [h11]
 subst h11;by_cases h12:a12=b12
 case neg=>simp [h12]
 subst h12;simp
end book
namespace acc
open tar (Du du0 Came RowD Ld PairT)
open Go.RowKit
def NumPost (w:World) (g:Nat) (x:Ac) (b:Bi) (p:Option Addr) (len cap:Nat) (e:Ending) (w':World):Prop:=
 Chg w w' g∧((¬ x.nx≤1048575∧e = .returned (zI 20)∧Blk w' g (wcs x b p len cap) 252)∨(x.nx≤1048575∧e = .returned (zI 0)∧Blk w' g (wcs { x with nx:=x.nx+1 } { b with id:=x.nx } p len cap) 252))
theorem pnum (g:Nat) (x:Ac) (b:Bi) (p:Option Addr) (len cap:Nat) (w:World) (hw:Blk w g (wcs x b p len cap) 252) (hn:1≤x.nx∧x.nx≤1048576):Calls Tryz.prog 161 #[.pointer (some ⟨g,0,none⟩)] w fun e w'=>NumPost w g x b p len cap e w':=by
 obtain ⟨me,rv,nx,mo,bo,fr,ds⟩:=x;obtain ⟨id,te,de,fe,pr,ch,un⟩:=b;simp only [] at hn;have HI:Hid (Blk w g #[zI me,zI rv,zI nx,zI mo,zI bo,zI fr,.slice p len cap,zI id,zI te,zI de,zI fe,zI pr,zI ch,zI un] 252):=hw;have q2:w.cell? ⟨g,2,none⟩=some (zI nx):=HI.o.cell 2;clear hw;by_cases h1:nx≤1048575
 ·have d1:decide (1048575<nx)=false:=decide_eq_false (by omega);have hwr:IntKind.i64.wrap (nx+1)=nx+1:=by rw [IntKind.wrap_i64];omega
  have H1:Hid (nx≤1048575):=h1;go_enter Tryz.func161,Tryz.ntmps161;go_wp2_with (first | (refine wp_let1 rfl 3 _ _ rfl g 7 rfl .i64 nx rfl (by kernel_rfl) #[zI me,zI rv,zI nx,zI mo,zI bo,zI fr,.slice p len cap,zI id,zI te,zI de,zI fe,zI pr,zI ch,zI un] 252 HI.o (by simp) ?_) | fail)
  intro W1 hU1;have HI1:Hid (Blk W1 g #[zI me,zI rv,zI nx,zI mo,zI bo,zI fr,.slice p len cap,zI nx,zI te,zI de,zI fe,zI pr,zI ch,zI un] 252):=hU1.blk;have HC1:Hid (Chg w W1 g):= .upd hU1;have q2':W1.cell? ⟨g,2,none⟩=some (zI nx):=HI1.o.cell 2;clear hU1 q2 HI d1;go_wp2_with (first | (refine wp_let1 rfl 3 _ _ rfl g 2 rfl .i64 (nx+1) rfl (by kernel_rfl) #[zI me,zI rv,zI nx,zI mo,zI bo,zI fr,.slice p len cap,zI nx,zI te,zI de,zI fe,zI pr,zI ch,zI un] 252 HI1.o (by simp) ?_) | fail)
  intro W2 hU2;have HI2:Hid (Blk W2 g #[zI me,zI rv,zI (nx+1),zI mo,zI bo,zI fr,.slice p len cap,zI nx,zI te,zI de,zI fe,zI pr,zI ch,zI un] 252):=hU2.blk;have HC2:Hid (Chg w W2 g):=HC1.o.trans (.upd hU2);clear hU2 q2' HI1 HC1;go_wp2_with fail;go_ret;exact ⟨HC2.o,.inr ⟨H1.o,rfl,HI2.o⟩⟩
 ·have d1:decide (1048575<nx)=true:=decide_eq_true (by omega);have H1:Hid (¬ nx≤1048575):=h1;clear h1 hn;go_enter Tryz.func161,Tryz.ntmps161;go_wp2_with fail;go_ret;exact ⟨Chg.refl _ _,.inl ⟨Int.not_le.2 H1.o,rfl,HI.o⟩⟩
theorem open_may {m:Int} (h:0≤m∧m≤49):AMay ⟨m,0,1,0,0,-1,[]⟩:=by
 unfold AMay deb.Mays deb.DFits;simp;omega
theorem kopen:KcOpen:=by
 intro w m hm;have HPM:Hid (∀ W,Calls Tryz.prog 159 #[.agg #[zI m,zI 0,zI 1,zI 0,zI 0,zI (-1),zS]] W fun e w'=>MayPost W ⟨m,0,1,0,0,-1,[]⟩ e w'):=fun W=>pmay ⟨m,0,1,0,0,-1,[]⟩ none 0 0 W (deb.came_nil W);clear hm;obtain ⟨W0,HWW,H0r,H0n,H0B,-⟩:=sh2 w #[zI 0,zI 0,zI 0,zI 0,zI 0,zI 0,zS] 51 #[zI m,zI 0,zI 1,zI 0,zI 0,zI (-1),zS] 51;go_enter Tryz.func115,Tryz.ntmps115;go_upto_region 2 with fail
 rw [HWW.o];clear HWW
 go_wp2_with (first
  | (refine zqw rfl rfl rfl H0r zqu51 ?_)
  | (refine zqw rfl rfl rfl H0n zqu51 ?_)
  | fail)
 refine (HPM.o _).mono ?_;rintro e w1 ⟨r,rfl,hr,hb1⟩;have H1r:=shN H0r hb1;have H1n:=shN H0n hb1;have H1B:=shB H0B hb1;have hsw1:W0.heap.size≤w1.heap.size:=hb1.size;clear hb1 H0r H0n H0B;clear HPM;cases r with
 | false=>
  have HV:Hid (OpenIs m ac0 2):= .inr ⟨fun hh=>Bool.noConfusion (hr.2 (open_may hh)),rfl,rfl⟩;clear hr
  go_wp2_with (first
   | (refine zql rfl rfl rfl rfl zqu51 (by simp [Value.oneCell']) H1r rfl ?_)
   | (refine zqw rfl rfl rfl H1r zqu51 ?_)
   | (refine zqw rfl rfl rfl H1n zqu51 ?_)
   | fail)
  intro w1a hU;have H2r:Hid (Blk w1a (w.heap.size) #[zI 0,zI 0,zI 0,zI 0,zI 0,zI 0,zS] 51):=hU.blk;have H2n:=shK hU H1n (by omega);have H2B:=shV hU H1B (by omega);have hsw1a:w1a.heap.size=w1.heap.size:=hU.size;clear hU H1r H1n H1B;have Rr0:Hid (w1a.cell? ⟨w.heap.size,0,none⟩=some (zI 0)):=H2r.o.cell 0;have Rr1:Hid (w1a.cell? ⟨w.heap.size,1,none⟩=some (zI 0)):=H2r.o.cell 1;have Rr2:Hid (w1a.cell? ⟨w.heap.size,2,none⟩=some (zI 0)):=H2r.o.cell 2;have Rr3:Hid (w1a.cell? ⟨w.heap.size,3,none⟩=some (zI 0)):=H2r.o.cell 3;have Rr4:Hid (w1a.cell? ⟨w.heap.size,4,none⟩=some (zI 0)):=H2r.o.cell 4;have Rr5:Hid (w1a.cell? ⟨w.heap.size,5,none⟩=some (zI 0)):=H2r.o.cell 5;have Rr6:Hid (w1a.cell? ⟨w.heap.size,6,none⟩=some (zS)):=H2r.o.cell 6;go_wp2_with fail;exact bodyPost_ret (v:= .tuple #[.agg #[zI 0,zI 0,zI 0,zI 0,zI 0,zI 0,zS],zI 2]) (by simp [results,Tryz.results115,Rr0.o,Rr1.o,Rr2.o,Rr3.o,Rr4.o,Rr5.o,Rr6.o,go_sem]) rfl ⟨ac0,none,0,0,_,rfl,HV.o,deb.fresh_nil _ _,H2B.o⟩
 | true=>
  have HV:Hid (OpenIs m ⟨m,0,1,0,0,-1,[]⟩ 0):= .inl ⟨(hr.1 rfl).2.1,rfl,rfl⟩;clear hr
  go_wp2_with (first
   | (refine zql rfl rfl rfl rfl zqu51 (by simp [Value.oneCell']) H1r rfl ?_)
   | (refine zqw rfl rfl rfl H1r zqu51 ?_)
   | (refine zqw rfl rfl rfl H1n zqu51 ?_)
   | fail)
  intro w1a hU;have H2r:Hid (Blk w1a (w.heap.size) #[zI m,zI 0,zI 1,zI 0,zI 0,zI (-1),zS] 51):=hU.blk;have H2n:=shK hU H1n (by omega);have H2B:=shV hU H1B (by omega);have hsw1a:w1a.heap.size=w1.heap.size:=hU.size;clear hU H1r H1n H1B;obtain ⟨Rr0,Rr1,Rr2,Rr3,Rr4,Rr5,Rr6⟩:=shc7 H2r;go_wp2_with fail;exact bodyPost_ret (v:= .tuple #[.agg #[zI m,zI 0,zI 1,zI 0,zI 0,zI (-1),zS],zI 0]) (by simp [results,Tryz.results115,Rr0.o,Rr1.o,Rr2.o,Rr3.o,Rr4.o,Rr5.o,Rr6.o,go_sem]) rfl ⟨⟨m,0,1,0,0,-1,[]⟩,none,0,0,_,rfl,HV.o,deb.fresh_nil _ _,H2B.o⟩
theorem grown_blk {w w':World} {own:Option Nat} {G:Nat} {cs:Array Value} {t:TypeId} (h:Blk w G cs t) (hg:w.grownBy w' own) (hne:some G≠own):Blk w' G cs t:=by
 unfold Blk at *;rw [hg.block G (Blk.lt h) hne];exact h
end acc
namespace words
open Go.RowKit
theorem cutWord_any (B:Nat) (n:Int) (w:World) (hc:w.cell? ⟨B,0,none⟩=some (.int .u64 n)) (hf:w.frozen? ⟨B,0,none⟩=false) :
  Calls Tryz.prog 131 #[.pointer (some ⟨B,0,none⟩)] w fun e w'=>e = .returned (.int .u32 (n % 4294967296))∧w'=w.setCell ⟨B,0,none⟩ (.int .u64 (n / 4294967296)):=by
 go_enter Tryz.func131,Tryz.ntmps131;go_wp2;go_ret;exact ⟨rfl,rfl⟩
end words
namespace token
open words
open Go.RowKit
theorem body_ok (k:Tok) (w:World) (ht:TTab w) (hk:k.ok) :
  Calls Tryz.prog 162 #[k.v] w fun e w'=>e = .returned (.tuple #[zI (k.body:Int),zI 0])∧Below w.heap.size w w':=by
 have HF:Hid (∀ W,TTab W→Calls Tryz.prog 85 #[.agg #[zI (k.c:Int),zI (k.i:Int),zI (k.a:Int),zI (k.t:Int)]] W fun e w'=>e = .returned (zI 0)∧Below W.heap.size W w'):=fun W hW=>by
  have:=flaw_any k.c k.i k.a k.t W hW
  rwa [flaw_tok.2 hk] at this
 have HP:Hid (∀ W,TTab W→Calls Tryz.prog 87 #[.agg #[zI (k.c:Int),zI (k.i:Int),zI (k.a:Int),zI (k.t:Int)]] W fun e w'=>PackPost W k e w'):=fun W hW=>pack_any k W hk hW
 have HQ:Hid (∀ (x y z:Nat) W,WN x y z k.num→Calls Tryz.prog 186 #[.agg #[.int .u32 (x:Int),.int .u32 (y:Int),.int .u32 (z:Int)],zI 16,zI 43] W fun e w'=>e = .returned (.tuple #[.int .u64 (k.body:Int),zI 0])∧Below W.heap.size W w'):=fun x y z W hW=>by
  have:=bits_wn x y z 16 43 k.num W hW (by omega) (by omega) (by omega)
  rwa [show k.num / 2 ^ 16 % 2 ^ 43=k.body from body_num hk] at this
 have hwr:IntKind.i64.wrap (k.body:Int)=(k.body:Int):=wrap_i _ (by have:=body_bd hk;omega);have HT:Hid (TTab (w.alloc (.cells #[zI (k.c:Int),zI (k.i:Int),zI (k.a:Int),zI (k.t:Int)] 96))):=ht.below (bel_box _ _);have HB:Hid (Below w.heap.size w (w.alloc (.cells #[zI (k.c:Int),zI (k.i:Int),zI (k.a:Int),zI (k.t:Int)] 96))):=bel_box _ _;have HX:Hid (Blk (w.alloc (.cells #[zI (k.c:Int),zI (k.i:Int),zI (k.a:Int),zI (k.t:Int)] 96)) w.heap.size #[zI (k.c:Int),zI (k.i:Int),zI (k.a:Int),zI (k.t:Int)] 96):=Blk.new _ _ _;clear ht hk;unfold Tok.v;generalize (k.body:Int)=bd at *;go_enter Tryz.func162,Tryz.ntmps162;go_wp2_with fail;refine (HF.o _ HT.o).mono ?_;rintro e w1 ⟨rfl,hb1⟩;have HB1:=shB HB hb1;have HT1:Hid (TTab w1):=HT.o.below hb1;have hX:=HX.o.next hb1;have x0:=hX.cell 0;have x1:=hX.cell 1;have x2:=hX.cell 2;have x3:=hX.cell 3;clear hb1 HF HB HT HX hX;go_wp2_with fail;refine (HP.o _ HT1.o).mono ?_;rintro e w2 ⟨x,y,z,rfl,hwn,hb2⟩;have HB2:=shB HB1 hb2;have HN:Hid (WN x y z k.num):=hwn;clear hb2 hwn HB1 HT1 HP x0 x1 x2 x3;go_wp2_with fail;refine (HQ.o _ _ _ _ HN.o).mono ?_;rintro e w3 ⟨rfl,hb3⟩;have HB3:=shB HB2 hb3;clear hb3 HB2 HQ;go_wp2_with fail;refine bodyPost_ret (v:= .tuple #[zI bd,zI 0]) (by simp [results,Tryz.results162,go_sem]) rfl ⟨rfl,HB3.o⟩
end token
namespace disk
open Go.RowKit cell
theorem app_yes {c:List Int} {p:Nat} {r:List Int} (h:p+r.length+1<c.length):putW p r r.length++[⟨(p:Int)+(r.length:Int)+1,0⟩]++[⟨(p:Int),(r.length:Int)⟩]=appW c p r:=by
 unfold appW zeroW;rw [if_pos h,List.append_assoc,show ((p+r.length+1:Nat):Int)=(p:Int)+(r.length:Int)+1 by omega]
theorem app_no {c:List Int} {p:Nat} {r:List Int} (h:¬ p+r.length+1<c.length):putW p r r.length++[⟨(p:Int),(r.length:Int)⟩]=appW c p r:=by
 unfold appW zeroW;rw [if_neg h,List.nil_append]
theorem make_wr (m:Nat) (h:m≤100000) (w:World):(Instr.makeSlice 76 (zI 0) (zI ((m:Int)+2))).run Tryz.prog w = .ok (.slice (some ⟨w.heap.size,0,none⟩) 0 (m+2)) (w.alloc (.cells (madeCells (Value.agg #[zI 0,.int .u32 0]).cells ((m+2)*2)) 122)):=by
 obtain ⟨i0,hi,hz0,hz1,hz2⟩:=info_parts info_wr;have:=run_make (P:=Tryz.prog) w 76 122 i0 (.agg #[zI 0,.int .u32 0]) Tryz.underlying76 hi hz0 .i64 .i64 0 ((m:Int)+2) (by omega) (by omega) (by rw [hz2];omega) (by omega);rw [hz1,show ((m:Int)+2).toNat=m+2 by omega] at this;exact this
theorem put_next2 (p k:Nat) (r:List Int):putW p r k++[⟨(p:Int)+1+(k:Int),r.getD k 0⟩]=putW p r (k+1):=by
 rw [putW,show ((p+k+1:Nat):Int)=(p:Int)+1+(k:Int) by omega]
theorem app_yes2 {c:List Int} {p k:Nat} {r:List Int} (hk:r.length=k) (h:p+k+1<c.length):putW p r k++[⟨(p:Int)+1+(k:Int),0⟩]++[⟨(p:Int),(k:Int)⟩]=appW c p r:=by
 subst hk;rw [← app_yes h,show (p:Int)+1+(r.length:Int)=(p:Int)+(r.length:Int)+1 by omega]
theorem app_no2 {c:List Int} {p k:Nat} {r:List Int} (hk:r.length=k) (h:¬ p+k+1<c.length):putW p r k++[⟨(p:Int),(k:Int)⟩]=appW c p r:=by
 subst hk;exact app_no h
theorem laying_any (a:Option Addr) (m cap2:Nat) (r c:List Int) (p n:Nat) (w:World) (h:RowU w a m r) (h1:1≤m) (h2:m≤64) (hp:p≤2048) (hn:n≤2048) (hc:c.length=n) :
  Calls Tryz.prog 155 #[.slice a m cap2,zI (p:Int),zI (n:Int)] w fun e w'=>∃ V,e = .returned V∧Lw w' w.heap.size V (appW c p r)∧Below w.heap.size w w':=by
 obtain ⟨b,o,rfl,lb,hcl⟩:=h.at (by omega);have HCL:Hid (∀ W,Below w.heap.size w W→∀ j,j<m→W.cell? ⟨b,o+j,none⟩=some (.int .u32 (r.getD j 0))):=fun W hB j hj=>(hB.cell (p:=⟨b,o+j,none⟩) lb).trans (hcl j hj);have HN:Hid (c.length=n∧r.length=m):=⟨hc,h.1⟩
 have hmk:=make_wr m (by omega) w;have HL0:Hid (Lw (w.alloc (.cells (madeCells (Value.agg #[zI 0,.int .u32 0]).cells ((m+2)*2)) 122)) w.heap.size (.slice (some ⟨w.heap.size,0,none⟩) 0 (m+2)) []):=World.ownsRow_made w _ (m+2) (Nat.le_refl _) (by unfold maxLen;omega) (size_madeCells _ _);have HB0:Hid (Below w.heap.size w (w.alloc (.cells (madeCells (Value.agg #[zI 0,.int .u32 0]).cells ((m+2)*2)) 122))):=(Below.refl _ _).alloc (Nat.le_refl _) _;clear h hc hcl lb;generalize (w.alloc (.cells (madeCells (Value.agg #[zI 0,.int .u32 0]).cells ((m+2)*2)) 122))=W0 at *;go_enter Tryz.func155,Tryz.ntmps155;go_wp2_with fail;clear hmk;go_loopw [7,8,19] (fun v7 v8 v19 wr=>∃ (k:Nat) (V:Value),k≤m∧V=v7∧v8=zI ((p:Int)+1+(k:Int))∧v19=zI (k:Int)∧Lw wr w.heap.size V (putW p r k)∧Below w.heap.size w wr) (fun _ _ v19 _=>m - (intOf v19).toNat)
 case atStart=>exact ⟨0,_,Nat.zero_le _,rfl,by go_num,rfl,HL0.o,HB0.o⟩
 case round=>
  obtain ⟨k,V,hk,hV,rfl,rfl,hlw,hbl⟩:=hrel;subst hV;have HBL:Hid (Below w.heap.size w wr):=hbl;have hs6:(putW p r k).length≤1000000:=by rw [put_len];omega
  have HUA:Hid (∀ o,Lw (wr.alloc o) w.heap.size V (putW p r k)):=fun o=>hlw.alloc o;have HBA:Hid (∀ o,Below w.heap.size w (wr.alloc o)):=fun o=>hbl.alloc hbl.size o;have HSA:Hid (∀ o,w.heap.size≤(wr.alloc o).heap.size):=fun o=>(hbl.alloc hbl.size o).size;clear hlw hbl HL0 HB0;by_cases hkm:k<m
  ·have k2:=HCL.o wr HBL.o k hkm;have HPN:Hid (putW p r k++[⟨(p:Int)+1+(k:Int),r.getD k 0⟩]=putW p r (k+1)):=put_next2 p k r;generalize r.getD k 0=u at *;go_wp2_with (first | (refine wp_write rfl _ _ rfl w.heap.size wr.heap.size V (putW p r k) ⟨(p:Int)+1+(k:Int),u⟩ rfl rfl (HUA.o _) ⟨(Blk.new wr _ _).cell 0,(Blk.new wr _ _).cell 1⟩ hs6 (HSA.o _) ?_;intro v3 w3 h3 hg3;have hb3:=own_bel (HUA.o _) hg3 (HBA.o _) (Nat.le_refl _) (HSA.o _);have H3:Hid (Lw w3 w.heap.size v3 (putW p r k++[(⟨(p:Int)+1+(k:Int),u⟩:Wr)])):=h3;have HB3:Hid (Below w.heap.size w w3):=hb3;clear h3 hg3 hb3) | fail)
   go_roundw
   case rel=>exact ⟨k+1,v3,by omega,rfl,by go_num,by go_num,by rw [← HPN.o];exact H3.o,HB3.o⟩
   case measure=>simp [intOf];omega
  ·obtain rfl:k=m:=by omega
   by_cases hz:(p:Int)+1+(k:Int)<(n:Int)
   ·have HQ:Hid (putW p r k++[⟨(p:Int)+1+(k:Int),0⟩]++[⟨(p:Int),(k:Int)⟩]=appW c p r):=app_yes2 HN.o.2 (by rw [HN.o.1];omega);have hs7:(putW p r k++[(⟨(p:Int)+1+(k:Int),0⟩:Wr)]).length≤1000000:=by rw [List.length_append,put_len];simp;omega
    go_upto_region 11 with (first | (refine wp_write rfl _ _ rfl w.heap.size wr.heap.size V (putW p r k) ⟨(p:Int)+1+(k:Int),0⟩ rfl rfl (HUA.o _) ⟨(Blk.new wr _ _).cell 0,(Blk.new wr _ _).cell 1⟩ hs6 (HSA.o _) ?_;intro v3 w3 h3 hg3;have hb3:=own_bel (HUA.o _) hg3 (HBA.o _) (Nat.le_refl _) (HSA.o _);have H3:Hid (Lw w3 w.heap.size v3 (putW p r k++[(⟨(p:Int)+1+(k:Int),0⟩:Wr)])):=h3;have HB3:Hid (Below w.heap.size w w3):=hb3;clear h3 hg3 hb3) | fail)
    have HU3:Hid (∀ o,Lw (w3.alloc o) w.heap.size v3 (putW p r k++[(⟨(p:Int)+1+(k:Int),0⟩:Wr)])):=fun o=>H3.o.alloc o;have HBB:Hid (∀ o,Below w.heap.size w (w3.alloc o)):=fun o=>HB3.o.alloc HB3.o.size o;have HS3:Hid (∀ o,w.heap.size≤(w3.alloc o).heap.size):=fun o=>(HB3.o.alloc HB3.o.size o).size;clear HUA HBA HSA HBL H3 HB3;go_wp2_with (first | (refine wp_write rfl _ _ rfl w.heap.size w3.heap.size v3 (putW p r k++[(⟨(p:Int)+1+(k:Int),0⟩:Wr)]) ⟨(p:Int),(k:Int)⟩ rfl rfl (HU3.o _) ⟨(Blk.new w3 _ _).cell 0,(Blk.new w3 _ _).cell 1⟩ hs7 (HS3.o _) ?_;intro v4 w4 h3 hg3;have hb3:=own_bel (HU3.o _) hg3 (HBB.o _) (Nat.le_refl _) (HS3.o _);have H4:Hid (Lw w4 w.heap.size v4 (putW p r k++[(⟨(p:Int)+1+(k:Int),0⟩:Wr)]++[(⟨(p:Int),(k:Int)⟩:Wr)])):=h3;have HB4:Hid (Below w.heap.size w w4):=hb3;clear h3 hg3 hb3) | fail)
    go_ret;exact ⟨v4,rfl,by rw [← HQ.o];exact H4.o,HB4.o⟩
   ·have HQ:Hid (putW p r k++[⟨(p:Int),(k:Int)⟩]=appW c p r):=app_no2 HN.o.2 (by rw [HN.o.1];omega);go_wp2_with (first | (refine wp_write rfl _ _ rfl w.heap.size wr.heap.size V (putW p r k) ⟨(p:Int),(k:Int)⟩ rfl rfl (HUA.o _) ⟨(Blk.new wr _ _).cell 0,(Blk.new wr _ _).cell 1⟩ hs6 (HSA.o _) ?_;intro v4 w4 h3 hg3;have hb3:=own_bel (HUA.o _) hg3 (HBA.o _) (Nat.le_refl _) (HSA.o _);have H4:Hid (Lw w4 w.heap.size v4 (putW p r k++[(⟨(p:Int),(k:Int)⟩:Wr)])):=h3;have HB4:Hid (Below w.heap.size w w4):=hb3;clear h3 hg3 hb3) | fail)
    go_ret;exact ⟨v4,rfl,by rw [← HQ.o];exact H4.o,HB4.o⟩
end disk
namespace vnd
open disk (RepIs AppIs)
open book (Ev ev0 EMay evL evOf EncIs DecIs Cm cm0 So so0 BookIs Sees ECame FirstAt NoneAt)
open acc (Ac Tm Bi TCame ACame)
open cell (Wr RowU)
open Go.RowKit
theorem puntag (kd me mo dr:Int) (F:Value) (l:Bi) (b:Ac) (p:Option Addr) (ln cp:Nat) (cl am:Int) (w:World) (h:(kd=4∧cl=2∧am=b.rv)∨(kd≠4∧cl=0∧am=l.un)):Calls Tryz.prog 124 #[.agg #[zI kd,zI me,zI mo,zI dr,F],.agg #[zI l.id,zI l.te,zI l.de,zI l.fe,zI l.pr,zI l.ch,zI l.un],.agg #[zI b.me,zI b.rv,zI b.nx,zI b.mo,zI b.bo,zI b.fr,.slice p ln cp]] w fun e w'=>e = .returned (.agg #[zI cl,zI l.id,zI am,zI 0])∧Below w.heap.size w w':=by
 obtain ⟨W0,HWW,H0d,H0l,H0b,H0r,H0B,hs0⟩:=sh4 w #[zI kd,zI me,zI mo,zI dr,F] 166 #[zI l.id,zI l.te,zI l.de,zI l.fe,zI l.pr,zI l.ch,zI l.un] 68 #[zI b.me,zI b.rv,zI b.nx,zI b.mo,zI b.bo,zI b.fr,.slice p ln cp] 51 #[zI 0,zI 0,zI 0,zI 0] 96;go_enter Tryz.func124,Tryz.ntmps124;go_upto_region 1 with fail
 rw [HWW.o];clear HWW;rcases h with ⟨h1,rfl,rfl⟩ | ⟨h1,rfl,rfl⟩
 ·have d1:(kd == 4)=true:=by simpa using h1
  clear h1;have qd0:W0.cell? ⟨w.heap.size,0,none⟩=some (zI kd):=H0d.o.cell 0;have ql0:W0.cell? ⟨w.heap.size+1,0,none⟩=some (zI l.id):=H0l.o.cell 0;have qb1:W0.cell? ⟨w.heap.size+1+1,1,none⟩=some (zI b.rv):=H0b.o.cell 1
  go_wp2_with (first
   | (refine zql rfl rfl rfl rfl zqu96 (by simp [Value.oneCell']) H0r rfl ?_)
   | (refine zqw rfl rfl rfl H0d zqu166 ?_)
   | (refine zqw rfl rfl rfl H0l zqu68 ?_)
   | (refine zqw rfl rfl rfl H0b zqu51 ?_)
   | (refine zqw rfl rfl rfl H0r zqu96 ?_)
   | fail)
  intro W2 hU;have H1d:=shK hU H0d (by omega);have H1l:=shK hU H0l (by omega);have H1b:=shK hU H0b (by omega);have H1r:Hid (Blk W2 (w.heap.size+1+1+1) #[zI 2,zI l.id,zI b.rv,zI 0] 96):=hU.blk;have H1B:=shV hU H0B (by omega);have hsW2:W2.heap.size=W0.heap.size:=hU.size;clear hU H0d H0l H0b H0r H0B;clear qd0 ql0 qb1;have R0:Hid (W2.cell? ⟨w.heap.size+1+1+1,0,none⟩=some (zI 2)):=H1r.o.cell 0;have R1:Hid (W2.cell? ⟨w.heap.size+1+1+1,1,none⟩=some (zI l.id)):=H1r.o.cell 1;have R2:Hid (W2.cell? ⟨w.heap.size+1+1+1,2,none⟩=some (zI b.rv)):=H1r.o.cell 2;have R3:Hid (W2.cell? ⟨w.heap.size+1+1+1,3,none⟩=some (zI 0)):=H1r.o.cell 3;go_wp2_with fail;exact bodyPost_ret (v:= .agg #[zI 2,zI l.id,zI b.rv,zI 0]) (by simp [results,Tryz.results124,R0.o,R1.o,R2.o,R3.o,go_sem]) rfl ⟨rfl,H1B.o⟩
 ·have d1:(kd == 4)=false:=by simpa using h1
  clear h1;have qd0:W0.cell? ⟨w.heap.size,0,none⟩=some (zI kd):=H0d.o.cell 0;have ql0:W0.cell? ⟨w.heap.size+1,0,none⟩=some (zI l.id):=H0l.o.cell 0;have ql6:W0.cell? ⟨w.heap.size+1,6,none⟩=some (zI l.un):=H0l.o.cell 6
  go_wp2_with (first
   | (refine zql rfl rfl rfl rfl zqu96 (by simp [Value.oneCell']) H0r rfl ?_)
   | (refine zqw rfl rfl rfl H0d zqu166 ?_)
   | (refine zqw rfl rfl rfl H0l zqu68 ?_)
   | (refine zqw rfl rfl rfl H0b zqu51 ?_)
   | (refine zqw rfl rfl rfl H0r zqu96 ?_)
   | fail)
  intro W2 hU;have H1d:=shK hU H0d (by omega);have H1l:=shK hU H0l (by omega);have H1b:=shK hU H0b (by omega);have H1r:Hid (Blk W2 (w.heap.size+1+1+1) #[zI 0,zI l.id,zI l.un,zI 0] 96):=hU.blk;have H1B:=shV hU H0B (by omega);have hsW2:W2.heap.size=W0.heap.size:=hU.size;clear hU H0d H0l H0b H0r H0B;clear qd0 ql0 ql6;obtain ⟨R0,R1,R2,R3⟩:=shc4 H1r;go_wp2_with fail;exact bodyPost_ret (v:= .agg #[zI 0,zI l.id,zI l.un,zI 0]) (by simp [results,Tryz.results124,R0.o,R1.o,R2.o,R3.o,go_sem]) rfl ⟨rfl,H1B.o⟩
end vnd
end Go.Proofs.YtnpblpbohcegoaaGreatDoor
