import Derived.Test.YtnpblpbohcegoaaGreatDoorVVCut7
import Derived.Test.YtnpblpbohcegoaaGreatDoorVVCut8
set_option linter.unusedVariables false
set_option linter.unusedSimpArgs false
set_option maxHeartbeats 4000000
set_option maxRecDepth 100000
namespace Go.Proofs.YtnpblpbohcegoaaGreatDoor
namespace book
open Go.RowKit
def So.cs (x:So):List Value:=[zI x.id,zI x.cl,zI x.am,zI x.tg,zI x.rv]
def So.v (x:So):Value:= .agg #[zI x.id,zI x.cl,zI x.am,zI x.tg,zI x.rv]
def cellsS:List So→List Value
 | []=>[]
 | x :: l=>x.cs++cellsS l
theorem cellsS_len (l:List So):(cellsS l).length=l.length*5:=by
 induction l with
 | nil=>rfl
 | cons e l ih=>rw [cellsS,List.length_append,ih,List.length_cons];show 5+_=_;omega
theorem cellsS_app (l m:List So):cellsS (l++m)=cellsS l++cellsS m:=by
 induction l with
 | nil=>rfl
 | cons e l ih=>rw [List.cons_append,cellsS,cellsS,ih,List.append_assoc]
theorem oneS (l:List So):∀ u∈cellsS l,u.oneCell'=true:=by
 induction l with
 | nil=>intro u hu;cases hu
 | cons e l ih=>
  intro u hu;rw [cellsS] at hu;rcases List.mem_append.1 hu with hu | hu
  ·simp only [So.cs,List.mem_cons,List.not_mem_nil,or_false] at hu;rcases hu with rfl | rfl | rfl | rfl | rfl <;> rfl
  ·exact ih u hu
theorem cellsS_at (l:List So) (k j:Nat) (hk:k<l.length) (hj:j<5):(cellsS l)[k*5+j]?=(l.getD k so0).cs[j]?:=by
 induction l generalizing k with
 | nil=>simp at hk
 | cons x l ih=>
  have h8:x.cs.length=5:=rfl;cases k with
  | zero=>rw [Nat.zero_mul,Nat.zero_add,cellsS,List.getElem?_append_left (by omega)];rfl
  | succ k=>
   rw [show (k+1)*5+j=x.cs.length+(k*5+j) by omega,cellsS,List.getElem?_append_right (by omega),Nat.add_sub_cancel_left];exact ih k (by simpa using hk)
def RowS (w:World) (a:Option Addr) (n:Nat) (l:List So):Prop:=l.length=n∧(n=0∨∃ b off,a=some ⟨b,off,none⟩∧b<w.heap.size∧∀ i j,i<n→j<5→w.cell? ⟨b,off+i*5+j,none⟩=(l.getD i so0).cs[j]?)
theorem RowS.below {w w':World} {a:Option Addr} {n:Nat} {l:List So} (h:RowS w a n l) (hb:Below w.heap.size w w'):RowS w' a n l:=by
 refine ⟨h.1,?_⟩;rcases h.2 with h0 | ⟨b,off,rfl,lb,hc⟩
 ·exact .inl h0
 ·exact .inr ⟨b,off,rfl,Nat.lt_of_lt_of_le lb hb.size,fun i j hi hj=>(hb.cell (p:=⟨b,off+i*5+j,none⟩) lb).trans (hc i j hi hj)⟩
def Lo (w:World) (base:Nat) (v:Value) (l:List So):Prop:=w.ownsRow base 56 5 v l.length (cellsS l)
theorem Lo.zero (w:World) (base:Nat):Lo w base (zS) []:=World.ownsRow_nil _ _ _ _
theorem Lo.alloc {w:World} {base:Nat} {v:Value} {l:List So} (h:Lo w base v l) (o:Obj):Lo (w.alloc o) base v l:=World.ownsRow.alloc h o
theorem Lo.next {w w':World} {base:Nat} {v:Value} {l:List So} (h:Lo w base v l) (hb:Below w.heap.size w w'):Lo w' base v l:=by
 refine ⟨h.1,?_⟩;rcases h.2 with hn | ⟨g,cap,cur,hv,hg,hc,rest⟩
 ·exact .inl hn
 ·exact .inr ⟨g,cap,cur,hv,hg,Blk.next hc hb,rest⟩
theorem Lo.kept {w w':World} {base:Nat} {own:Option Nat} {v:Value} {l:List So} (h:Lo w base v l) (hg:w.grownBy w' own) (hne:∀ g,v.ownBlock=some g→own≠some g):Lo w' base v l:=by
 refine World.ownsRow.kept h hg ?_;cases e:v.ownBlock with
 | none=>exact .inl rfl
 | some g=>exact .inr (fun q=>hne g e q.symm)
theorem Lo.row {w:World} {base:Nat} {v:Value} {l:List So} (h:Lo w base v l):∃ a cap,v = .slice a l.length cap∧RowS w a l.length l∧(a=none→cap=0)∧l.length≤cap:=by
 rcases h.2 with ⟨hv,hn⟩ | ⟨g,cap,cur,hv,_,hc,h1,_⟩
 ·exact ⟨none,0,by rw [hn];exact hv,⟨rfl,.inl hn⟩,fun _=>rfl,by omega⟩
 ·subst hv;refine ⟨_,cap,rfl,⟨rfl,.inr ⟨g,0,rfl,Blk.lt hc,fun i j hi hj=>?_⟩⟩,(fun h=>by cases h),h1⟩;have e1:=World.ownsRow.cellAt h (i*5+j) (by omega);rw [Nat.zero_add,e1];exact cellsS_at l i j hi hj
theorem soldI:(Tryz.prog.info? 56).map (fun i=>(i.zero,i.size,i.bytes))=some (some (.agg so0.cs.toArray),5,40):=by kernel_rfl
theorem step_sold {w:World} {o:Oper} {a:Act} {K:Act→World→Prop} {Q:Exit→Act→World→Prop} (d:Nat) (hd:o.dst=some d) (s x:Operand)
  (ho:o.op = .call { callee:= .builtin .append,args:=#[s,x],argTypes:=#[52,52] })
  (base G:Nat) (v:Value) (l:List So) (r:So) (hs:a.eval s=v) (hx:a.eval x = .slice (some ⟨G,0,none⟩) 1 1) (hv:Lo w base v l) (hu:Blk w G r.cs.toArray 56) (hn:l.length≤2000000) (hbase:base≤w.heap.size)
  (h:∀ v' w',Lo w' base v' (l++[r])→w.grownBy w' v.ownBlock→(v'.ownBlock=v.ownBlock∨v'.ownBlock=some w.heap.size)→K (a.put (some d) v') w'):Oper.wp Tryz.prog o a w K Q:=by
 rw [← hd] at h;obtain ⟨i0,hi,hz0,hz1,hz2⟩:=info_parts soldI
 obtain ⟨v',w',hr,h2,h3,_,h5⟩:=run_append_own_at (P:=Tryz.prog) w base 52 o.type 56 i0 (.agg so0.cs.toArray) 5 40 Tryz.underlying52 hi hz0 hz1 hz2 rfl (by decide) v l.length (cellsS l) hv ⟨G,0,none⟩ 1 1 (cellsS [r]) (by rw [cellsS_len];rfl) (by
  intro j u hj;rw [Addr.add_lit,Nat.zero_add,hu.cell j];rw [cellsS,cellsS,List.append_nil] at hj
  simpa using hj) (oneS [r]) (by unfold maxLen;omega) (by omega) hbase
 unfold Oper.wp execOp;simp only [ho,resolve,invoke,builtin,Sem.run_bind,Sem.run_pure,Result.andThen_ok,List.map_toArray,List.map_cons,List.map_nil,hs,hx,hr];refine h v' w' ?_ h3 h5;unfold Lo;rw [List.length_append,cellsS_app];exact h2
end book
namespace cell
open Go.RowKit
theorem copy_run (a:Addr) (n cc g:Nat) (zs:List Int) (w:World) (hz:zs.length=n) (hr:Blk w g (arr (List.replicate n 0)) 99) (hc:∀ i,i<n→w.cell? (a.add i)=some (.int .u32 (zs.getD i 0))) :
  (Builtin.copy_ #[25,25] 3 #[.slice (some ⟨g,0,none⟩) n n,.slice (some a) n cc]).run Tryz.prog w = .ok (zI (n:Int)) (w.setRow g (arr zs)):=by
 have hrun:=run_copy_row (P:=Tryz.prog) w 25 25 3 99 g 0 n n a n cc (arr (List.replicate n 0)) 99 (zs.map (Value.int .u32)) Tryz.underlying25 (by kernel_rfl) hr (by
   rw [List.length_map,hz];exact (Nat.min_self n).symm) (by
   intro j u hu;by_cases hj:j<zs.length
   ·simp [List.getElem?_eq_getElem hj] at hu;subst hu;have:=hc j (by omega);simpa [List.getD,List.getElem?_eq_getElem hj] using this
   ·rw [List.getElem?_eq_none (by simp;omega)] at hu;cases hu) (by simp [arr,hz]) (by
   intro u hu;obtain ⟨z,_,rfl⟩:=List.mem_map.1 hu;rfl)
 rw [hrun]
 congr 2
 ·rw [List.length_map,hz]
 ·unfold arr;simp [hz]
theorem setRow_blk {w:World} {g:Nat} {c0 c1:Array Value} {t:TypeId} (h:Blk w g c0 t):Blk (w.setRow g c1) g c1 t:=setRow_heap w g _ _ t _ h
theorem written_any (a b:Option Addr) (n m c1 c2:Nat) (xs:List Int) (ls:List Wr) (w:World) (h1:RowU w a n xs) (h2:RowW w b m ls) (hn:1≤n) (hn2:n≤2048) (hm:m≤4096) (hall:allN n ls=true) :
  Calls Tryz.prog 49 #[.slice a n c1,.slice b m c2] w fun e w'=>∃ g,e = .returned (.slice (some ⟨g,0,none⟩) n n)∧RowU w' (some ⟨g,0,none⟩) n (wrt xs ls)∧Below w.heap.size w w':=by
 have hmk:∀ W:World,(Instr.makeSlice 25 (zI (n:Int)) (zI (n:Int))).run Tryz.prog W = .ok (.slice (some ⟨W.heap.size,0,none⟩) n n) (W.alloc (.cells (arr (List.replicate n 0)) 99)):=make_u32 n (by omega);obtain ⟨b1,o1,rfl,l1,hc1⟩:=h1.at (by omega);have hz:=h1.1
 have hcp:=copy_run ⟨b1,o1,none⟩ n c1 w.heap.size xs (w.alloc (.cells (arr (List.replicate n 0)) 99)) hz (Blk.new _ _ _) (fun i hi=>by
  rw [Addr.add_lit,World.cell?_alloc_lt w _ _ l1];exact hc1 i hi)
 have HG0:Hid (Blk ((w.alloc (.cells (arr (List.replicate n 0)) 99)).setRow w.heap.size (arr xs)) w.heap.size (arr xs) 99):=setRow_blk (Blk.new _ _ _);have HB0:Hid (Below w.heap.size w ((w.alloc (.cells (arr (List.replicate n 0)) 99)).setRow w.heap.size (arr xs))):=below_setRow ((Below.refl _ _).alloc (Nat.le_refl _) _) (Nat.le_refl _) _;have HR:Hid (RowW w b m ls):=h2;have HA:Hid (allN n ls=true):=hall;have HL:Hid (xs.length=n∧ls.length=m):=⟨hz,h2.1⟩
 clear h1 h2 hc1 hall hz l1;generalize arr (List.replicate n 0)=zz at *;go_enter Tryz.func49,Tryz.ntmps49;go_wp2_with fail;generalize (w.alloc (Obj.cells zz 99)).setRow w.heap.size (arr xs)=W0 at *;generalize hgg:w.heap.size=g at *;have HGG:Hid (w.heap.size=g):=hgg;clear hgg hcp hmk;go_loopw [16] (fun i wr=>∃ k:Nat,k≤m∧i=zI (k:Int)∧Blk wr g (arr (wrt xs (ls.take k))) 99∧Below g w wr) (fun i _=>m - (intOf i).toNat)
 case atStart=>exact ⟨0,Nat.zero_le _,rfl,HG0.o,HB0.o⟩
 case round=>
  obtain ⟨k,hk,rfl,hg,hb⟩:=hrel;have HK:Hid (Blk wr g (arr (wrt xs (ls.take k))) 99):=hg;have HB:Hid (Below g w wr):=hb;clear hg hb HG0 HB0;by_cases hlt:k<m
  ·obtain ⟨b2,o2,rfl,l2,hc2⟩:=HR.o.at (by omega);rw [HGG.o] at l2;have f1:wr.cell? ⟨b2,o2+k*2,none⟩=some (zI (ls.getD k wr0).p):=(HB.o.cell (p:=⟨b2,o2+k*2,none⟩) l2).trans (hc2 k hlt).1;have f2:wr.cell? ⟨b2,o2+k*2+1,none⟩=some (.int .u32 (ls.getD k wr0).d):=(HB.o.cell (p:=⟨b2,o2+k*2+1,none⟩) l2).trans (hc2 k hlt).2;have hin:=allN_at HA.o k (by have:=HL.o.2;omega);have HST:Hid (wrt xs (ls.take (k+1))=(wrt xs (ls.take k)).set (ls.getD k wr0).p.toNat (ls.getD k wr0).d):=wrt_step xs ls k (by have:=HL.o.2;omega);have HLZ:Hid ((wrt xs (ls.take k)).length=n):=by show _=_;rw [wrt_len];exact HL.o.1
   clear hc2 l2;generalize (ls.getD k wr0).p=pz at *;generalize (ls.getD k wr0).d=d at *;generalize wrt xs (ls.take k)=zs at *;obtain ⟨p,rfl⟩:∃ p:Nat,pz=p:=⟨pz.toNat,by omega⟩
   obtain ⟨_,hp⟩:=hin;have hp':p<n:=by omega
   clear hp;rw [Int.toNat_natCast] at HST;have hN:=Blk.new wr #[zI (p:Int),.int .u32 d] 122;have hK:=HK.o.alloc (.cells #[zI (p:Int),.int .u32 d] 122);have n0:=hN.cell 0;have n1:=hN.cell 1;have k0:=Blk.word hK p (by rw [HLZ.o];exact hp');have k1:=hK.free p
   have HNX:Hid (Blk ((wr.alloc (.cells #[zI (p:Int),.int .u32 d] 122)).setCell ⟨g,p,none⟩ (.int .u32 d)) g (arr (wrt xs (ls.take (k+1)))) 99):=by
    have h:=hK.set p (.int .u32 d);rw [arr_set] at h;rw [HST.o];exact h
   have HBX:Hid (Below g w ((wr.alloc (.cells #[zI (p:Int),.int .u32 d] 122)).setCell ⟨g,p,none⟩ (.int .u32 d))):=by
    have h0:g≤wr.heap.size:=by have:=HB.o.size;have h3:=HGG.o;omega
    exact bel_set (HB.o.alloc h0 _) g p _ (Nat.le_refl _)
   clear hN hK;go_wp2_with fail;go_roundw
   case rel=>exact ⟨k+1,by omega,by go_num,HNX.o,HBX.o⟩
   case measure=>simp [intOf];omega
  ·obtain rfl:k=m:=by omega
   have HX:Hid (RowU wr (some ⟨g,0,none⟩) n (wrt xs ls)):=Blk.rowU (by have:=HK.o;rw [List.take_of_length_le (by have:=HL.o.2;omega)] at this;exact this) (by rw [wrt_len];exact HL.o.1);go_wp2_with fail;go_ret;exact ⟨g,rfl,HX.o,by rw [HGG.o];exact HB.o⟩
end cell
section
open Go.RowKit
theorem run_eqOp {P:Program} {o:Oper} {a:Act} {w:World} (ty rt:TypeId) (x y:Operand) (ho:o.op = .binOp .eql ty x y rt) (ca cb:Array Value) (hx:a.eval x = .agg ca) (hy:a.eval y = .agg cb) (hg:P.eqGuardType P.depth ty=false) (b:Bool)
  (hr:(Op.equalIn 10000 ty (.agg ca) (.agg cb)).run P w = .ok b w):(execOp a.eval o).run P w = .ok (.value (.bool b)) w:=by
 have hr':(Op.equal ty (.agg ca) (.agg cb)).run P w = .ok b w:=hr;unfold execOp;simp only [ho,hx,hy];have hp:∀ w':World,(program:Sem Program).run P w' = .ok P w':=fun _=>rfl;simp [eqGuard,hg,binOp,hr',hp,Sem.run_bind]
theorem wp_eqE {P:Program} {ops:Array Oper} {rest:List Oper} {o:Oper} {a:Act} {w:World} {Q:Exit→Act→World→Prop} (hw:Region.wanted o (yielded ops a.tmps)=true) (ty rt:TypeId) (x y:Operand) (ho:o.op = .binOp .eql ty x y rt) (ca cb:Array Value) (hx:a.eval x = .agg ca) (hy:a.eval y = .agg cb) (hg:P.eqGuardType P.depth ty=false) (b:Bool)
  (hr:(Op.equalIn 10000 ty (.agg ca) (.agg cb)).run P w = .ok b w) (d:Nat) (hd:o.dst=some d) (h:wpList P ops Q rest (a.put (some d) (.bool b)) w):wpList P ops Q (o :: rest) a w:=
 wpList_step fun K hK=>by
  rw [if_pos hw];exact wp_runOp d hd (run_eqOp ty rt x y ho ca cb hx hy hg b hr) (hK _ _ h)
end
namespace token
open Go.ChangeShapes Go.WideShapes Go.ChangeAt Go.RowKit Go.Deep
def Eight (w:World) (g:Nat) (a0 a1 a2 a3 a4 a5 a6 a7:Int):Prop:=
 ∃ t fr,w.heap[g]?=some (.cells #[zI a0,zI a1,zI a2,zI a3,zI a4,zI a5,zI a6,zI a7] t fr)
structure TTab (w:World):Prop where
 places:Eight w 1 57 3 37 20 16 21 0 16
 amounts:Eight w 0 1 2097151 0 0 1 15 0 0
theorem Eight.lt {w:World} {g:Nat} {a0 a1 a2 a3 a4 a5 a6 a7:Int} (h:Eight w g a0 a1 a2 a3 a4 a5 a6 a7):g<w.heap.size:=by
 obtain ⟨t,fr,h⟩:=h;by_cases hh:g<w.heap.size
 ·exact hh
 ·rw [Array.getElem?_eq_none (by omega)] at h;cases h
theorem Eight.below {w w':World} {g:Nat} {a0 a1 a2 a3 a4 a5 a6 a7:Int} (h:Eight w g a0 a1 a2 a3 a4 a5 a6 a7) (hb:Below w.heap.size w w'):Eight w' g a0 a1 a2 a3 a4 a5 a6 a7:=by
 have hl:=h.lt;obtain ⟨t,fr,h⟩:=h;exact ⟨t,fr,by rw [hb.block g hl];exact h⟩
theorem TTab.below {w w':World} (h:TTab w) (hb:Below w.heap.size w w'):TTab w':=⟨h.places.below hb,h.amounts.below hb⟩
theorem list8 {α:Type} (l:List α) (h:l.length=8):∃ a b c d e f g i,l=[a,b,c,d,e,f,g,i]:=by
 match l,h with
 | [a,b,c,d,e,f,g,i],_=>exact ⟨a,b,c,d,e,f,g,i,rfl⟩
theorem two_of {H:Type} {enc:TypeId × Value→H} {P:Program} {w:World} {base:Nat} {spare:Nat→Bool} {held:Bool} {fuel:Nat} {t e:TypeId} {f0 f1:Field} {c0 c1:Value} {a0 a1:Int} {p:List MemPlace}
  (ht:P.underlying t=some (.struct #[f0,f1])) (hone:oneCellFields P #[f0,f1]=true) (he:P.underlying e=some (.int .i64)) (e0:f0.type=e) (e1:f1.type=e)
  (h:DataW.trod enc P w base spare held fuel t [c0,c1]=some (.agg [.lit (.int .i64 a0),.lit (.int .i64 a1)],p)):c0=zI a0∧c1=zI a1:=by
 obtain ⟨y0,y1,n,hx,_,h0,h1⟩:=trod_struct2 ht h;obtain ⟨o0,k0⟩:=hone_of hone 0 f0 rfl;obtain ⟨o1,k1⟩:=hone_of hone 1 f1 rfl;rw [o0,k0,e0] at h0;rw [o1,k1,e1] at h1;obtain ⟨x0,u0,rfl,_⟩:=DataW.trod_int he h0;obtain ⟨x1,u1,rfl,_⟩:=DataW.trod_int he h1;simp at u0 u1 hx;obtain ⟨⟨rfl,rfl⟩,_⟩:=hx;exact ⟨u0,u1⟩
theorem trod_array4w {H:Type} {enc:TypeId × Value→H} {P:Program} {w:World} {base:Nat} {spare:Nat→Bool} {held:Bool} {t e:TypeId} {fuel:Nat} {cs:List Value} {x:DataW H × List MemPlace} (ht:P.underlying t=some (.array 4 e)) (hce:P.cellsOf e=2) (hct:P.cellsOf t=8)
  (h:DataW.trod enc P w base spare held fuel t cs=some x) :
  cs.length=8∧∃ y0 y1 y2 y3 n,x=(.agg [y0.1,y1.1,y2.1,y3.1],y0.2++(y1.2++(y2.2++y3.2)))∧DataW.trod enc P w base spare held n e (cs.take 2)=some y0∧DataW.trod enc P w base spare held n e ((cs.drop 2).take 2)=some y1∧DataW.trod enc P w base spare held n e ((cs.drop 4).take 2)=some y2∧DataW.trod enc P w base spare held n e ((cs.drop 6).take 2)=some y3:=by
 cases fuel with
 | zero=>simp [DataW.trod] at h
 | succ n=>
  unfold DataW.trod at h;rw [ht] at h;have r4:List.range 4=[0,1,2,3]:=rfl;simp [r4,hce,hct] at h;obtain ⟨hl,h⟩:=h;refine ⟨hl,?_⟩;cases h0:DataW.trod enc P w base spare held n e (cs.take 2) with
  | none=>simp [h0] at h
  | some y0=>
   cases h1:DataW.trod enc P w base spare held n e ((cs.drop 2).take 2) with
   | none=>simp [h0,h1] at h
   | some y1=>
    cases h2:DataW.trod enc P w base spare held n e ((cs.drop 4).take 2) with
    | none=>simp [h0,h1,h2] at h
    | some y2=>
     cases h3:DataW.trod enc P w base spare held n e ((cs.drop 6).take 2) with
     | none=>simp [h0,h1,h2,h3] at h
     | some y3=>
      simp [h0,h1,h2,h3] at h;exact ⟨y0,y1,y2,y3,n,by rw [← h],h0,h1,h2,h3⟩
theorem eight_of {W:World} {name:String} {rest:List (String × DataW Unit)} {g:Nat} {t e z:TypeId} {f0 f1:Field} {a0 a1 a2 a3 a4 a5 a6 a7:Int}
  (hg:Tryz.prog.globalNamed name=some g) (hty:(Tryz.prog.globals[g]?).map (·.type)=some t) (ht:Tryz.prog.underlying t=some (.array 4 e)) (hce:Tryz.prog.cellsOf e=2) (hct:Tryz.prog.cellsOf t=8)
  (hs:Tryz.prog.underlying e=some (.struct #[f0,f1])) (hone:oneCellFields Tryz.prog #[f0,f1]=true) (hz:Tryz.prog.underlying z=some (.int .i64)) (e0:f0.type=z) (e1:f1.type=z)
  (h:laidMet Tryz.prog ((name,.agg [.agg [.lit (.int .i64 a0),.lit (.int .i64 a1)],.agg [.lit (.int .i64 a2),.lit (.int .i64 a3)],.agg [.lit (.int .i64 a4),.lit (.int .i64 a5)],.agg [.lit (.int .i64 a6),.lit (.int .i64 a7)]]) :: rest) W):Eight W g a0 a1 a2 a3 a4 a5 a6 a7:=by
 obtain ⟨ps,⟨g',t',cs,fuel,p,q,hg',ht',hvar,hd,_,_⟩,_⟩:=h;obtain rfl:=Option.some.inj (hg.symm.trans hg');obtain rfl:=Option.some.inj (hty.symm.trans ht');obtain ⟨hl,y0,y1,y2,y3,n,hx,h0,h1,h2,h3⟩:=trod_array4w ht hce hct hd;simp only [Prod.mk.injEq,DataW.agg.injEq,List.cons.injEq,and_true] at hx;obtain ⟨⟨x0,x1,x2,x3⟩,_⟩:=hx;obtain ⟨y0,q0⟩:=y0;obtain ⟨y1,q1⟩:=y1;obtain ⟨y2,q2⟩:=y2;obtain ⟨y3,q3⟩:=y3;simp only at x0 x1 x2 x3;subst x0 x1 x2 x3;obtain ⟨c0,c1,c2,c3,c4,c5,c6,c7,hcs⟩:=list8 _ hl;rw [hcs] at h0 h1 h2 h3;obtain ⟨rfl,rfl⟩:=two_of hs hone hz e0 e1 h0;obtain ⟨rfl,rfl⟩:=two_of hs hone hz e0 e1 h1;obtain ⟨rfl,rfl⟩:=two_of hs hone hz e0 e1 h2;obtain ⟨rfl,rfl⟩:=two_of hs hone hz e0 e1 h3;unfold World.var? at hvar;rw [hg] at hvar;simp only [Option.bind_some] at hvar;split at hvar
 ·rename_i cs' t' fr hc
  have hcs':=Option.some.inj hvar;refine ⟨t',fr,?_⟩;rw [hc,hcs']
  congr 2
  first
  | (cases cs;simp_all)
  | simp_all
 ·cases hvar
end token
section
open Go.RowKit
theorem run_neOp {P:Program} {o:Oper} {a:Act} {w:World} (ty rt:TypeId) (x y:Operand) (ho:o.op = .binOp .neq ty x y rt) (ca cb:Array Value) (hx:a.eval x = .agg ca) (hy:a.eval y = .agg cb) (hg:P.eqGuardType P.depth ty=false) (b:Bool)
  (hr:(Op.equalIn 10000 ty (.agg ca) (.agg cb)).run P w = .ok b w):(execOp a.eval o).run P w = .ok (.value (.bool (!b))) w:=by
 have hr':(Op.equal ty (.agg ca) (.agg cb)).run P w = .ok b w:=hr;unfold execOp;simp only [ho,hx,hy];have hp:∀ w':World,(program:Sem Program).run P w' = .ok P w':=fun _=>rfl;simp [eqGuard,hg,binOp,hr',hp,Sem.run_bind]
theorem wp_neE {P:Program} {ops:Array Oper} {rest:List Oper} {o:Oper} {a:Act} {w:World} {Q:Exit→Act→World→Prop} (hw:Region.wanted o (yielded ops a.tmps)=true) (ty rt:TypeId) (x y:Operand) (ho:o.op = .binOp .neq ty x y rt) (ca cb:Array Value) (hx:a.eval x = .agg ca) (hy:a.eval y = .agg cb) (hg:P.eqGuardType P.depth ty=false) (b:Bool)
  (hr:(Op.equalIn 10000 ty (.agg ca) (.agg cb)).run P w = .ok b w) (d:Nat) (hd:o.dst=some d) (h:wpList P ops Q rest (a.put (some d) (.bool (!b))) w):wpList P ops Q (o :: rest) a w:=
 wpList_step fun K hK=>by
  rw [if_pos hw];exact wp_runOp d hd (run_neOp ty rt x y ho ca cb hx hy hg b hr) (hK _ _ h)
end
namespace acc
open tar (Du du0 Came RowD Ld PairT)
open Go.RowKit
def NumPost (w:World) (g:Nat) (x:Ac) (b:Bi) (p:Option Addr) (len cap:Nat) (e:Ending) (w':World):Prop:=
 Chg w w' g∧((¬ x.nx≤1048575∧e = .returned (zI 20)∧Blk w' g (wcs x b p len cap) 252)∨(x.nx≤1048575∧e = .returned (zI 0)∧Blk w' g (wcs { x with nx:=x.nx+1 } { b with id:=x.nx } p len cap) 252))
theorem pnum (g:Nat) (x:Ac) (b:Bi) (p:Option Addr) (len cap:Nat) (w:World) (hw:Blk w g (wcs x b p len cap) 252) (hn:1≤x.nx∧x.nx≤1048576):Calls Tryz.prog 161 #[.pointer (some ⟨g,0,none⟩)] w fun e w'=>NumPost w g x b p len cap e w':=by
 obtain ⟨me,rv,nx,mo,bo,fr,ds⟩:=x;obtain ⟨id,te,de,fe,pr,ch,un⟩:=b;simp only [] at hn;have HI:Hid (Blk w g #[zI me,zI rv,zI nx,zI mo,zI bo,zI fr,.slice p len cap,zI id,zI te,zI de,zI fe,zI pr,zI ch,zI un] 252):=hw;have q2:w.cell? ⟨g,2,none⟩=some (zI nx):=HI.o.cell 2;clear hw;by_cases h1:nx≤1048575
 ·have d1:decide (1048575<nx)=false:=decide_eq_false (by omega);have hwr:IntKind.i64.wrap (nx+1)=nx+1:=by rw [IntKind.wrap_i64];omega
  have H1:Hid (nx≤1048575):=h1;go_enter Tryz.func161,Tryz.ntmps161;go_wp2_with (first | (refine wp_let1 rfl 3 _ _ rfl g 7 rfl .i64 nx rfl (by kernel_rfl) #[zI me,zI rv,zI nx,zI mo,zI bo,zI fr,.slice p len cap,zI id,zI te,zI de,zI fe,zI pr,zI ch,zI un] 252 HI.o (by simp) ?_) | fail)
  intro W1 hU1;have HI1:Hid (Blk W1 g #[zI me,zI rv,zI nx,zI mo,zI bo,zI fr,.slice p len cap,zI nx,zI te,zI de,zI fe,zI pr,zI ch,zI un] 252):=hU1.blk;have HC1:Hid (Chg w W1 g):= .upd hU1;have q2':W1.cell? ⟨g,2,none⟩=some (zI nx):=HI1.o.cell 2;clear hU1 q2 HI d1;go_wp2_with (first | (refine wp_let1 rfl 3 _ _ rfl g 2 rfl .i64 (nx+1) rfl (by kernel_rfl) #[zI me,zI rv,zI nx,zI mo,zI bo,zI fr,.slice p len cap,zI nx,zI te,zI de,zI fe,zI pr,zI ch,zI un] 252 HI1.o (by simp) ?_) | fail)
  intro W2 hU2;have HI2:Hid (Blk W2 g #[zI me,zI rv,zI (nx+1),zI mo,zI bo,zI fr,.slice p len cap,zI nx,zI te,zI de,zI fe,zI pr,zI ch,zI un] 252):=hU2.blk;have HC2:Hid (Chg w W2 g):=HC1.o.trans (.upd hU2);clear hU2 q2' HI1 HC1;go_wp2_with fail;go_ret;exact ⟨HC2.o,.inr ⟨H1.o,rfl,HI2.o⟩⟩
 ·have d1:decide (1048575<nx)=true:=decide_eq_true (by omega);have H1:Hid (¬ nx≤1048575):=h1;clear h1 hn;go_enter Tryz.func161,Tryz.ntmps161;go_wp2_with fail;go_ret;exact ⟨Chg.refl _ _,.inl ⟨Int.not_le.2 H1.o,rfl,HI.o⟩⟩
end acc
end Go.Proofs.YtnpblpbohcegoaaGreatDoor
