import Derived.Test.YtnpblpbohcegoaaGreatDoorVBGws18
set_option linter.unusedVariables false
set_option linter.unusedSimpArgs false
set_option maxHeartbeats 4000000
set_option maxRecDepth 100000
namespace Go.Proofs.YtnpblpbohcegoaaGreatDoor
namespace vnd
open book (Ev ev0 Cm cm0 So so0 Sees)
open acc (Ac Tm Bi)
open ora (Pr)
open cell (Wr RowU RowW)
open rcp (Rc rc0)
open Go.RowKit
def TokGot (w:World) (R:List Wr→List Pr→Rc→Int→Prop) (e:Ending) (w':World):Prop:=∃ p m cp ls p5 n5 c5 o' r f,e = .returned (.tuple #[.slice p m cp,.agg #[.slice p5 n5 c5],rcp.Rc.v r,zI f])∧R ls o' r f∧RowW w' p m ls∧(∀ x,p=some x→w.heap.size≤x.block)∧m≤cp∧m≤100000∧ora.RowP w' p5 n5 o'∧(p5=none→c5=0)∧n5≤c5∧(∀ y,p5=some y→w.heap.size≤y.block)∧Below w.heap.size w w'
def KvCha:Prop:=∀ (W:World) (t:Tm) (pt:Option Addr) (lt ct:Nat) (a:Option Addr) (n cap:Nat) (c:List Int) (me:Int) (q:tar.Du),acc.TCame W t pt lt ct→Dk W a n cap c→(Lit.int .i64 me).wf=true→(Lit.int .i64 q.a).wf=true→(Lit.int .i64 q.b).wf=true→Calls Tryz.prog 42 #[t.v pt lt ct,.slice a n cap,zI me,.agg #[zI q.a,zI q.b]] W fun e w'=>WrGot W (ChaIs t c me q.a q.b) e w'
end vnd
namespace cell
open Go.RowKit
theorem copy_run (a:Addr) (n cc g:Nat) (zs:List Int) (w:World) (hz:zs.length=n) (hr:Blk w g (arr (List.replicate n 0)) 99) (hc:∀ i,i<n→w.cell? (a.add i)=some (.int .u32 (zs.getD i 0))) :
  (Builtin.copy_ #[25,25] 3 #[.slice (some ⟨g,0,none⟩) n n,.slice (some a) n cc]).run Tryz.prog w = .ok (zI (n:Int)) (w.setRow g (arr zs)):=by
 have hrun:=run_copy_row (P:=Tryz.prog) w 25 25 3 99 g 0 n n a n cc (arr (List.replicate n 0)) 99 (zs.map (Value.int .u32)) Tryz.underlying25 (by kernel_rfl) hr (by
   rw [List.length_map,hz];exact (Nat.min_self n).symm) (by
   intro j u hu;by_cases hj:j<zs.length
   ·simp [List.getElem?_eq_getElem hj] at hu;subst hu;have:=hc j (by omega);simpa [List.getD,List.getElem?_eq_getElem hj] using this
   ·rw [List.getElem?_eq_none (by simp;omega)] at hu;cases hu) (by simp [arr,hz]) (by
   intro u hu;obtain ⟨z,_,rfl⟩:=List.mem_map.1 hu;rfl)
 rw [hrun]
 congr 2
 ·rw [List.length_map,hz]
 ·unfold arr;simp [hz]
theorem setRow_blk {w:World} {g:Nat} {c0 c1:Array Value} {t:TypeId} (h:Blk w g c0 t):Blk (w.setRow g c1) g c1 t:=setRow_heap w g _ _ t _ h
theorem written_any (a b:Option Addr) (n m c1 c2:Nat) (xs:List Int) (ls:List Wr) (w:World) (h1:RowU w a n xs) (h2:RowW w b m ls) (hn:1≤n) (hn2:n≤2048) (hm:m≤4096) (hall:allN n ls=true) :
  Calls Tryz.prog 49 #[.slice a n c1,.slice b m c2] w fun e w'=>∃ g,e = .returned (.slice (some ⟨g,0,none⟩) n n)∧RowU w' (some ⟨g,0,none⟩) n (wrt xs ls)∧Below w.heap.size w w':=by
 have hmk:∀ W:World,(Instr.makeSlice 25 (zI (n:Int)) (zI (n:Int))).run Tryz.prog W = .ok (.slice (some ⟨W.heap.size,0,none⟩) n n) (W.alloc (.cells (arr (List.replicate n 0)) 99)):=make_u32 n (by omega);obtain ⟨b1,o1,rfl,l1,hc1⟩:=h1.at (by omega);have hz:=h1.1
 have hcp:=copy_run ⟨b1,o1,none⟩ n c1 w.heap.size xs (w.alloc (.cells (arr (List.replicate n 0)) 99)) hz (Blk.new _ _ _) (fun i hi=>by
  rw [Addr.add_lit,World.cell?_alloc_lt w _ _ l1];exact hc1 i hi)
 have HG0:Hid (Blk ((w.alloc (.cells (arr (List.replicate n 0)) 99)).setRow w.heap.size (arr xs)) w.heap.size (arr xs) 99):=setRow_blk (Blk.new _ _ _);have HB0:Hid (Below w.heap.size w ((w.alloc (.cells (arr (List.replicate n 0)) 99)).setRow w.heap.size (arr xs))):=below_setRow ((Below.refl _ _).alloc (Nat.le_refl _) _) (Nat.le_refl _) _;have HR:Hid (RowW w b m ls):=h2;have HA:Hid (allN n ls=true):=hall;have HL:Hid (xs.length=n∧ls.length=m):=⟨hz,h2.1⟩
 clear h1 h2 hc1 hall hz l1;generalize arr (List.replicate n 0)=zz at *;go_enter Tryz.func49,Tryz.ntmps49;go_wp2_with fail;generalize (w.alloc (Obj.cells zz 99)).setRow w.heap.size (arr xs)=W0 at *;generalize hgg:w.heap.size=g at *;have HGG:Hid (w.heap.size=g):=hgg;clear hgg hcp hmk;go_loopw [16] (fun i wr=>∃ k:Nat,k≤m∧i=zI (k:Int)∧Blk wr g (arr (wrt xs (ls.take k))) 99∧Below g w wr) (fun i _=>m - (intOf i).toNat)
 case atStart=>exact ⟨0,Nat.zero_le _,rfl,HG0.o,HB0.o⟩
 case round=>
  obtain ⟨k,hk,rfl,hg,hb⟩:=hrel;have HK:Hid (Blk wr g (arr (wrt xs (ls.take k))) 99):=hg;have HB:Hid (Below g w wr):=hb;clear hg hb HG0 HB0;by_cases hlt:k<m
  ·obtain ⟨b2,o2,rfl,l2,hc2⟩:=HR.o.at (by omega);rw [HGG.o] at l2;have f1:wr.cell? ⟨b2,o2+k*2,none⟩=some (zI (ls.getD k wr0).p):=(HB.o.cell (p:=⟨b2,o2+k*2,none⟩) l2).trans (hc2 k hlt).1;have f2:wr.cell? ⟨b2,o2+k*2+1,none⟩=some (.int .u32 (ls.getD k wr0).d):=(HB.o.cell (p:=⟨b2,o2+k*2+1,none⟩) l2).trans (hc2 k hlt).2;have hin:=allN_at HA.o k (by have:=HL.o.2;omega);have HST:Hid (wrt xs (ls.take (k+1))=(wrt xs (ls.take k)).set (ls.getD k wr0).p.toNat (ls.getD k wr0).d):=wrt_step xs ls k (by have:=HL.o.2;omega);have HLZ:Hid ((wrt xs (ls.take k)).length=n):=by show _=_;rw [wrt_len];exact HL.o.1
   clear hc2 l2;generalize (ls.getD k wr0).p=pz at *;generalize (ls.getD k wr0).d=d at *;generalize wrt xs (ls.take k)=zs at *;obtain ⟨p,rfl⟩:∃ p:Nat,pz=p:=⟨pz.toNat,by omega⟩
   obtain ⟨_,hp⟩:=hin;have hp':p<n:=by omega
   clear hp;rw [Int.toNat_natCast] at HST;have hN:=Blk.new wr #[zI (p:Int),.int .u32 d] 122;have hK:=HK.o.alloc (.cells #[zI (p:Int),.int .u32 d] 122);have n0:=hN.cell 0;have n1:=hN.cell 1;have k0:=Blk.word hK p (by rw [HLZ.o];exact hp');have k1:=hK.free p
   have HNX:Hid (Blk ((wr.alloc (.cells #[zI (p:Int),.int .u32 d] 122)).setCell ⟨g,p,none⟩ (.int .u32 d)) g (arr (wrt xs (ls.take (k+1)))) 99):=by
    have h:=hK.set p (.int .u32 d);rw [arr_set] at h;rw [HST.o];exact h
   have HBX:Hid (Below g w ((wr.alloc (.cells #[zI (p:Int),.int .u32 d] 122)).setCell ⟨g,p,none⟩ (.int .u32 d))):=by
    have h0:g≤wr.heap.size:=by have:=HB.o.size;have h3:=HGG.o;omega
    exact bel_set (HB.o.alloc h0 _) g p _ (Nat.le_refl _)
   clear hN hK;go_wp2_with fail;go_roundw
   case rel=>exact ⟨k+1,by omega,by go_num,HNX.o,HBX.o⟩
   case measure=>simp [intOf];omega
  ·obtain rfl:k=m:=by omega
   have HX:Hid (RowU wr (some ⟨g,0,none⟩) n (wrt xs ls)):=Blk.rowU (by have:=HK.o;rw [List.take_of_length_le (by have:=HL.o.2;omega)] at this;exact this) (by rw [wrt_len];exact HL.o.1);go_wp2_with fail;go_ret;exact ⟨g,rfl,HX.o,by rw [HGG.o];exact HB.o⟩
def GaveC (w:World) (zs:List Int) (c:Int) (e:Ending) (w':World):Prop:=
 ∃ a cap,e = .returned (.tuple #[.slice a zs.length cap,zI c])∧RowU w' a zs.length zs∧(a=none→cap=0)∧zs.length≤cap∧Below w.heap.size w w'
theorem GaveC.mk {w w':World} {zs:List Int} {c:Int} {a:Option Addr} {n cap:Nat} (hr:RowU w' a n zs) (hn:a=none→cap=0) (hc:n≤cap) (hb:Below w.heap.size w w'):GaveC w zs c (.returned (.tuple #[.slice a n cap,zI c])) w':=by
 obtain ⟨h1,h2⟩:=hr;subst h1;exact ⟨a,cap,rfl,⟨rfl,h2⟩,hn,hc,hb⟩
end cell
namespace book
open Go.RowKit
theorem cellsE_app (l m:List Ev):cellsE (l++m)=cellsE l++cellsE m:=by
 induction l with
 | nil=>rfl
 | cons e l ih=>rw [List.cons_append,cellsE,cellsE,ih,List.append_assoc]
def Le (w:World) (base:Nat) (v:Value) (l:List Ev):Prop:=w.ownsRow base 72 13 v l.length (cellsE l)
theorem Le.zero (w:World) (base:Nat):Le w base (zS) []:=World.ownsRow_nil _ _ _ _
theorem Le.alloc {w:World} {base:Nat} {v:Value} {l:List Ev} (h:Le w base v l) (o:Obj):Le (w.alloc o) base v l:=World.ownsRow.alloc h o
theorem Le.next {w w':World} {base:Nat} {v:Value} {l:List Ev} (h:Le w base v l) (hb:Below w.heap.size w w'):Le w' base v l:=by
 refine ⟨h.1,?_⟩;rcases h.2 with hn | ⟨g,cap,cur,hv,hg,hc,rest⟩
 ·exact .inl hn
 ·exact .inr ⟨g,cap,cur,hv,hg,Blk.next hc hb,rest⟩
theorem Le.came {w:World} {base:Nat} {v:Value} {l:List Ev} (h:Le w base v l) (hl:l.length≤100000) (hw:∀ x∈l,wf13 x):∃ a cap,v = .slice a l.length cap∧ECame w a l.length cap l:=by
 rcases h.2 with ⟨hv,hn⟩ | ⟨g,cap,cur,hv,_,hc,h1,_⟩
 ·exact ⟨none,0,by rw [hn];exact hv,⟨⟨rfl,.inl hn⟩,fun _=>rfl,by omega,by omega,hw⟩⟩
 ·subst hv;refine ⟨_,cap,rfl,⟨⟨rfl,.inr ⟨g,0,rfl,Blk.lt hc,fun i j hi hj=>?_⟩⟩,(fun h=>by cases h),h1,by omega,hw⟩⟩;have e1:=World.ownsRow.cellAt h (i*13+j) (by omega);rw [Nat.zero_add,e1];exact cellsE_at l i j hi hj
theorem wp_ev {w:World} {ops:Array Oper} {rest:List Oper} {o:Oper} {a:Act} {Q:Exit→Act→World→Prop} (hgd:o.guard=none) (s x:Operand)
  (ho:o.op = .call { callee:= .builtin .append,args:=#[s,x],argTypes:=#[58,58] })
  (base G:Nat) (v:Value) (l:List Ev) (r:Ev) (hs:a.eval s=v) (hx:a.eval x = .slice (some ⟨G,0,none⟩) 1 1) (hv:Le w base v l) (hu:Blk w G r.cl.toArray 72) (hn:l.length≤1000000) (hbase:base≤w.heap.size)
  (h:∀ v' w',Le w' base v' (l++[r])→w.grownBy w' v.ownBlock→wpList Tryz.prog ops Q rest (a.put o.dst v') w'):wpList Tryz.prog ops Q (o :: rest) a w:=by
 obtain ⟨i0,hi,hz0,hz1,hz2⟩:=info_parts evI;refine wpList_append_own w hgd s x 58 ho base 72 i0 (.agg ev0.cl.toArray) 13 104 Tryz.underlying58 hi hz0 hz1 hz2 rfl (by decide) v l.length (cellsE l) hs hv ⟨G,0,none⟩ 1 1 (cellsE [r]) hx (by rw [cellsE_len];rfl) ?_ (oneE [r]) (by unfold maxLen;omega) (by omega) hbase ?_
 ·intro j u hj;rw [Addr.add_lit,Nat.zero_add,hu.cell j];rw [cellsE,cellsE,List.append_nil] at hj;simpa using hj
 intro v' w' h1 h2 _;refine h v' w' ?_ h2;unfold Le;rw [List.length_append,cellsE_app];exact h1
def KOf:Prop:=∀ (W:World) (t:acc.Tm) (pt:Option Addr) (lt ct:Nat) (pl:Option Addr) (n cap:Nat) (l:List Ev),acc.TCame W t pt lt ct→ECame W pl n cap l→Calls Tryz.prog 17 #[t.v pt lt ct,.slice pl n cap] W fun e w'=>BookPost W t l e w'
end book
namespace acc
open tar (Du du0 Came RowD Ld PairT)
open Go.RowKit
theorem grown_blk {w w':World} {own:Option Nat} {G:Nat} {cs:Array Value} {t:TypeId} (h:Blk w G cs t) (hg:w.grownBy w' own) (hne:some G≠own):Blk w' G cs t:=by
 unfold Blk at *;rw [hg.block G (Blk.lt h) hne];exact h
end acc
namespace book
open Go.RowKit
def MustPost (w:World) (v:Ev) (e:Ending) (w':World):Prop:=((EMay v∧e = .returned (.tuple #[]))∨(¬ EMay v∧e = .panicked (thrown 5)))∧Below w.heap.size w w'
theorem eqEv_any (a b:Ev) (w:World):∃ B,(Op.equalIn 10000 72 (.agg a.cs) (.agg b.cs)).run Tryz.prog w = .ok B w∧(B=true↔a=b):=by
 obtain ⟨a0,a1,a2,a3,a4,a5,a6,a7,a8,a9,a10,a11,a12⟩:=a;obtain ⟨b0,b1,b2,b3,b4,b5,b6,b7,b8,b9,b10,b11,b12⟩:=b;refine ⟨_,eqEv 9997 a0 a1 a2 a3 a4 a5 a6 a7 a8 a9 a10 a11 a12 b0 b1 b2 b3 b4 b5 b6 b7 b8 b9 b10 b11 b12 w,?_⟩;rw [decide_eq_true_iff];constructor
 ·rintro ⟨rfl,rfl,rfl,rfl,rfl,rfl,rfl,rfl,rfl,rfl,rfl,rfl,rfl⟩;rfl
 ·intro h;cases h;exact ⟨rfl,rfl,rfl,rfl,rfl,rfl,rfl,rfl,rfl,rfl,rfl,rfl,rfl⟩
theorem bmust (v:Ev) (w:World):Calls Tryz.prog 67 #[.agg #[zI v.kd,zI v.me,zI v.mo,zI v.id,zI v.te,zI v.de,zI v.fe,zI v.pr,zI v.ch,zI v.un,zI v.tg,zI v.ow,zI v.bp]] w fun e w'=>MustPost w v e w':=by
 have HMI:Hid (EMay v↔(0≤v.me∧v.me≤49)∧KindR v∧leftE v=ev0):=may_iff v;obtain ⟨W0,HWW,HX0,HB0,-⟩:=sh1 w #[zI v.kd,zI v.me,zI v.mo,zI v.id,zI v.te,zI v.de,zI v.fe,zI v.pr,zI v.ch,zI v.un,zI v.tg,zI v.ow,zI v.bp] 72;have HNO:Hid (∀ W,Calls Tryz.prog 112 #[zI 5] W fun e w'=>e = .panicked (thrown 5)∧w'=W):=fun W=>insist_no 5 (by decide) W;have HKR:Hid (∀ W,Calls Tryz.prog 110 #[.agg #[zI v.kd,zI v.me,zI v.mo,zI v.id,zI v.te,zI v.de,zI v.fe,zI v.pr,zI v.ch,zI v.un,zI v.tg,zI v.ow,zI v.bp]] W fun e w'=>YN W (KindR v) e w'):=fun W=>bkind v.kd v.me v.mo v.id v.te v.de v.fe v.pr v.ch v.un v.tg v.ow v.bp W;have HLE:Hid (∀ W,Calls Tryz.prog 111 #[.agg #[zI v.kd,zI v.me,zI v.mo,zI v.id,zI v.te,zI v.de,zI v.fe,zI v.pr,zI v.ch,zI v.un,zI v.tg,zI v.ow,zI v.bp]] W fun e w'=>e = .returned (leftE v).v∧Below W.heap.size W w'):=fun W=>bleft v W;go_enter Tryz.func67,Tryz.ntmps67;go_upto_region 1 with fail
 rw [HWW.o];clear HWW;obtain ⟨c0,c1,c2,c3,c4,c5,c6,c7,c8,c9,c10,c11,c12⟩:=scl13 HX0;have HW:Hid (Calls Tryz.prog 109 #[zI 0,zI 49,.slice (some ⟨W0.heap.size,0,none⟩) 1 1] (W0.alloc (.cells #[zI v.me] 3)) fun e w'=>e = .returned (.bool (decide (0≤v.me∧v.me≤49)))∧w'=(W0.alloc (.cells #[zI v.me] 3))):=bki.within_one 0 49 v.me W0 _ rfl;have HB1:Hid (Below w.heap.size w (W0.alloc (.cells #[zI v.me] 3))):=HB0.o.alloc HB0.o.size _;have HX1:Hid (Blk (W0.alloc (.cells #[zI v.me] 3)) w.heap.size #[zI v.kd,zI v.me,zI v.mo,zI v.id,zI v.te,zI v.de,zI v.fe,zI v.pr,zI v.ch,zI v.un,zI v.tg,zI v.ow,zI v.bp] 72):=HX0.o.alloc _;by_cases h0:0≤v.me∧v.me≤49
 case neg=>
  rw [decide_eq_false h0] at HW;have HN:Hid (¬ EMay v):=fun q=>h0 (HMI.o.1 q).1;clear h0;go_wp2_with fail;refine HW.o.mono ?_;rintro e W ⟨rfl,hw⟩;subst hw;clear HW;clear HX0 HB0 c0 c1 c2 c3 c4 c5 c6 c7 c8 c9 c10 c11 c12;generalize (W0.alloc (.cells #[zI v.me] 3))=W1 at *;obtain ⟨c0,c1,c2,c3,c4,c5,c6,c7,c8,c9,c10,c11,c12⟩:=scl13 HX1;go_wp2_with fail;refine (HNO.o _).mono ?_;rintro e W9 ⟨rfl,rfl⟩;exact ⟨rfl,.inr ⟨HN.o,rfl⟩,HB1.o⟩
 rw [decide_eq_true h0] at HW;have H0:Hid (0≤v.me∧v.me≤49):=h0;clear h0;go_wp2_with fail;refine HW.o.mono ?_;rintro e W ⟨rfl,hw⟩;subst hw;clear HW HX0 HB0;clear c0 c1 c2 c3 c4 c5 c6 c7 c8 c9 c10 c11 c12;generalize (W0.alloc (.cells #[zI v.me] 3))=W1 at *;obtain ⟨c0,c1,c2,c3,c4,c5,c6,c7,c8,c9,c10,c11,c12⟩:=scl13 HX1;go_wp2_with fail;refine (HKR.o _).mono ?_;rintro e W2 ⟨B,rfl,hB,hb⟩;have HB2:=shB HB1 hb;have HX2:=shN HX1 hb;clear hb HKR HB1 HX1;clear c0 c1 c2 c3 c4 c5 c6 c7 c8 c9 c10 c11 c12;obtain ⟨c0,c1,c2,c3,c4,c5,c6,c7,c8,c9,c10,c11,c12⟩:=scl13 HX2;cases B
 case false=>
  have HN:Hid (¬ EMay v):=fun q=>absurd (hB.2 (HMI.o.1 q).2.1) (by decide);clear hB;go_wp2_with fail;refine (HNO.o _).mono ?_;rintro e W9 ⟨rfl,rfl⟩;exact ⟨rfl,.inr ⟨HN.o,rfl⟩,HB2.o⟩
 have HK:Hid (KindR v):=hB.1 rfl;clear hB;go_wp2_with fail;refine (HLE.o _).mono ?_;rintro e W3 ⟨rfl,hb⟩;have HB3:=shB HB2 hb;clear hb HLE HB2 HX2;clear c0 c1 c2 c3 c4 c5 c6 c7 c8 c9 c10 c11 c12;obtain ⟨B,hB,hBi⟩:=eqEv_any (leftE v) ev0 W3;have HEQ:Hid ((Op.equalIn 10000 72 (.agg (leftE v).cs) (.agg ev0.cs)).run Tryz.prog W3 = .ok B W3):=hB;have HBI:Hid (B=true↔leftE v=ev0):=hBi;clear hB hBi;unfold Ev.v;cases B
 case false=>
  have HN:Hid (¬ EMay v):=fun q=>absurd (HBI.o.2 (HMI.o.1 q).2.2) (by decide);go_wp2_with (first | (refine wp_neE (by rfl) 72 _ _ _ rfl (leftE v).cs ev0.cs rfl rfl (by kernel_rfl) false HEQ.o _ rfl ?_) | fail)
  go_wp2_with fail;refine (HNO.o _).mono ?_;rintro e W9 ⟨rfl,rfl⟩;exact ⟨rfl,.inr ⟨HN.o,rfl⟩,HB3.o⟩
 case true=>
  have HY:Hid (EMay v):=HMI.o.2 ⟨H0.o,HK.o,HBI.o.1 rfl⟩;go_wp2_with (first | (refine wp_neE (by rfl) 72 _ _ _ rfl (leftE v).cs ev0.cs rfl rfl (by kernel_rfl) true HEQ.o _ rfl ?_) | fail)
  go_end0;exact ⟨.inl ⟨HY.o,rfl⟩,HB3.o⟩
end book
namespace words
open Go.RowKit
theorem run_timesStep (args:Array Value) (w:World):(callFunc 130 args).run Tryz.prog w = .ok (.enter 130 args) w:=by kernel_rfl
theorem times_any (x:W3) (m:Int) (w:World) (hx:x.ok) (m0:0≤m) (m1:m<4294967296) :
  Calls Tryz.prog 86 #[wv x,.int .u32 m] w fun e w'=>e = .returned (.tuple #[wv (timesW x m),.int .u32 (timesO x m)])∧Below w.heap.size w w':=by
 obtain ⟨x0,x1,x2⟩:=x;obtain ⟨⟨h0,h0'⟩,⟨h1,h1'⟩,h2,h2'⟩:=hx;simp only at h0 h0' h1 h1' h2 h2';go_enter Tryz.func86,Tryz.ntmps86;go_wp2_with fail;obtain ⟨p0,p0'⟩:=prod_bd h0 h0' m0 m1;obtain ⟨p1,p1'⟩:=prod_bd h1 h1' m0 m1;obtain ⟨p2,p2'⟩:=prod_bd h2 h2' m0 m1;have hc:=trio_d w #[.int .u32 x0,.int .u32 x1,.int .u32 x2] (.int .u32 m) 99 (.int .u32 0) (.int .u32 0) (.int .u32 0) (.int .u64 0) 223;have hb3:=bel4 w (.cells #[.int .u32 x0,.int .u32 x1,.int .u32 x2] 131) (.cells #[.int .u32 m] 99) (.cells #[.int .u32 0,.int .u32 0,.int .u32 0] 131) (.cells #[.int .u64 0] 223);have e0:(0:Int)+x0*m=x0*m:=by omega
 refine (upward_any 130 #[.pointer (some ⟨w.heap.size+1+1+1,0,none⟩),.pointer (some ⟨w.heap.size+1,0,none⟩)] (w.heap.size+1+1+1) (.int .u64 0) (.int .u64 ((x0*m) / 4294967296)) (.int .u64 (((x0*m) / 4294967296+x1*m) / 4294967296)) (.int .u64 ((((x0*m) / 4294967296+x1*m) / 4294967296+x2*m) / 4294967296)) x0 x1 x2
  ((x0*m) % 4294967296) (((x0*m) / 4294967296+x1*m) % 4294967296) ((((x0*m) / 4294967296+x1*m) / 4294967296+x2*m) % 4294967296) _ (Acc.refl hc.1 hc.2.1) run_timesStep
  (fun w' h=>by have:=timesStep_any (w.heap.size+1+1+1) (w.heap.size+1) 0 x0 m w' h.cell h.free (h.keep hc.2.2.2 (by omega)) (by omega) (by omega) h0 h0' m0 m1;rw [e0] at this;exact this)
  (fun w' h=>timesStep_any _ _ _ _ _ w' h.cell h.free (h.keep hc.2.2.2 (by omega)) (by omega) (by omega) h1 h1' m0 m1)
  (fun w' h=>timesStep_any _ _ _ _ _ w' h.cell h.free (h.keep hc.2.2.2 (by omega)) (by omega) (by omega) h2 h2' m0 m1)).mono ?_
 rintro e w1 ⟨he,hA⟩;have hR:Trio w1 (w.heap.size+1+1) (.int .u32 0) (.int .u32 0) (.int .u32 0):=hc.2.2.1.acc hA (by omega);have HB:Hid (Below w.heap.size w w1):=hA.below hb3 (by omega);have hcell:=hA.cell;have hsz:w.heap.size+1+1+1<w1.heap.size:=Nat.lt_of_lt_of_le hA.old hA.size;have EW:wv (timesW ⟨x0,x1,x2⟩ m) = .agg #[.int .u32 ((x0*m) % 4294967296),.int .u32 (((x0*m) / 4294967296+x1*m) % 4294967296),.int .u32 ((((x0*m) / 4294967296+x1*m) / 4294967296+x2*m) % 4294967296)]:=rfl;have EO:timesO ⟨x0,x1,x2⟩ m=(((x0*m) / 4294967296+x1*m) / 4294967296+x2*m) / 4294967296:=rfl;have z0:0≤(((x0*m) / 4294967296+x1*m) / 4294967296+x2*m) / 4294967296:=by omega
 have z1:(((x0*m) / 4294967296+x1*m) / 4294967296+x2*m) / 4294967296<4294967296:=by omega
 have HE:Hid (.returned (.tuple #[wv (timesW ⟨x0,x1,x2⟩ m),.int .u32 (timesO ⟨x0,x1,x2⟩ m)])=Ending.returned (.tuple #[.agg #[.int .u32 ((x0*m) % 4294967296),.int .u32 (((x0*m) / 4294967296+x1*m) % 4294967296),.int .u32 ((((x0*m) / 4294967296+x1*m) / 4294967296+x2*m) % 4294967296)],.int .u32 ((((x0*m) / 4294967296+x1*m) / 4294967296+x2*m) / 4294967296)])):=by
  have:Ending.returned (.tuple #[wv (timesW ⟨x0,x1,x2⟩ m),.int .u32 (timesO ⟨x0,x1,x2⟩ m)])=Ending.returned (.tuple #[.agg #[.int .u32 ((x0*m) % 4294967296),.int .u32 (((x0*m) / 4294967296+x1*m) % 4294967296),.int .u32 ((((x0*m) / 4294967296+x1*m) / 4294967296+x2*m) % 4294967296)],.int .u32 ((((x0*m) / 4294967296+x1*m) / 4294967296+x2*m) / 4294967296)]):=by rw [EW,EO]
  exact this
 clear hA hc hb3 EW EO e0 p0 p0' p1 p1' p2 p2';have HE2:Hid (e = .returned (.agg #[.int .u32 ((x0*m) % 4294967296),.int .u32 (((x0*m) / 4294967296+x1*m) % 4294967296),.int .u32 ((((x0*m) / 4294967296+x1*m) / 4294967296+x2*m) % 4294967296)])):=he;clear he;generalize hz:(((x0*m) / 4294967296+x1*m) / 4294967296+x2*m) / 4294967296=z at hcell z0 z1 HE HE2;generalize hy0:(x0*m) % 4294967296=y0 at HE HE2;generalize hy1:((x0*m) / 4294967296+x1*m) % 4294967296=y1 at HE HE2;generalize hy2:(((x0*m) / 4294967296+x1*m) / 4294967296+x2*m) % 4294967296=y2 at HE HE2;clear hz hy0 hy1 hy2;obtain rfl:=HE2.o;clear HE2;have hR:=hR.alloc (.cells #[.int .u32 y0,.int .u32 y1,.int .u32 y2] 131);have r0:=hR.c0;have r1:=hR.c1;have r2:=hR.c2;have g0:=hR.free 0;have g1:=hR.free 1;have g2:=hR.free 2;have HR:Hid (Trio (w1.alloc (.cells #[.int .u32 y0,.int .u32 y1,.int .u32 y2] 131)) (w.heap.size+1+1) (.int .u32 0) (.int .u32 0) (.int .u32 0)):=hR;clear hR;go_wp2_with fail;go_region
 all_goals go_wp2_with fail
 have RR:=((HR.o.set0 (.int .u32 y0)).set1 (.int .u32 y1)).set2 (.int .u32 y2);refine bodyPost_ret (v:= .tuple #[.agg #[.int .u32 y0,.int .u32 y1,.int .u32 y2],.int .u32 z]) (by simp [results,Tryz.results86,RR.c0,RR.c1,RR.c2,go_sem]) rfl ⟨HE.o.symm,?_⟩;exact below_put (HB.o.alloc HB.o.size _) _ _ _ _ _ _ _ (by omega)
end words
end Go.Proofs.YtnpblpbohcegoaaGreatDoor
