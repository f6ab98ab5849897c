import Derived.Test.YtnpblpbohcegoaaGreatDoorVVRts9
set_option linter.unusedVariables false
set_option linter.unusedSimpArgs false
set_option maxHeartbeats 4000000
set_option maxRecDepth 100000
namespace Go.Proofs.YtnpblpbohcegoaaGreatDoor
namespace book
open Go.RowKit
open acc (Ac Tm Bi APost BPost TFault TRight OpenIs)
def Ev.cl (x:Ev):List Value:=[zI x.kd,zI x.me,zI x.mo,zI x.id,zI x.te,zI x.de,zI x.fe,zI x.pr,zI x.ch,zI x.un,zI x.tg,zI x.ow,zI x.bp]
def RowE (w:World) (a:Option Addr) (n:Nat) (l:List Ev):Prop:=l.length=n∧(n=0∨∃ b off,a=some ⟨b,off,none⟩∧b<w.heap.size∧∀ i j,i<n→j<13→w.cell? ⟨b,off+i*13+j,none⟩=(l.getD i ev0).cl[j]?)
theorem putAll_get (vs:List Value):∀ (o:Nat) (cs:Array Value) (j:Nat),o+vs.length≤cs.size→(putAll cs o vs)[j]?=if o≤j∧j<o+vs.length then vs[j - o]? else cs[j]?:=by
 induction vs with
 | nil=>intro o cs j _;rw [if_neg (by simp only [List.length_nil];omega)];rfl
 | cons v r ih=>
  intro o cs j h;simp only [List.length_cons] at h;rw [putAll,ih (o+1) _ j (by simp;omega)];by_cases h1:o+1≤j∧j<o+1+r.length
  ·rw [if_pos h1,if_pos (by simp;omega),show j - o=(j - (o+1))+1 by omega,List.getElem?_cons_succ]
  ·rw [if_neg h1];by_cases h2:j=o
   ·subst h2;rw [if_pos (by simp only [List.length_cons];omega),Nat.sub_self];simp [show j<cs.size by omega]
   ·rw [if_neg (by simp;omega),Array.getElem?_setIfInBounds_ne (by omega)]
theorem putAll_size (vs:List Value):∀ (o:Nat) (cs:Array Value),(putAll cs o vs).size=cs.size:=by
 induction vs with
 | nil=>intro o cs;rfl
 | cons v r ih=>intro o cs;rw [putAll,ih];simp
theorem cellsC_get (xs:List Cu) (j:Nat):(cellsC xs)[j]?=if j<xs.length*8 then (xs.getD (j / 8) cu0).cs[j % 8]? else none:=by
 by_cases h:j<xs.length*8
 ·rw [if_pos h];have:=cellsC_at xs (j / 8) (j % 8) (by omega) (by omega);rw [show j / 8*8+j % 8=j by omega] at this;exact this
 ·rw [if_neg h,List.getElem?_eq_none (by rw [cellsC_len];omega)]
theorem lc_put {w W:World} {base g n cap k:Nat} {xs:List Cu} {x':Cu} {cur:Array Value} (h:Lc w base (.slice (some ⟨g,0,none⟩) n cap) xs) (hB:Blk w g cur 54) (hk:k<xs.length) (hU:Upd w W g (putAll cur (k*8) x'.cs) 54):Lc W base (.slice (some ⟨g,0,none⟩) n cap) (xs.set k x'):=by
 unfold Lc at *;rw [List.length_set];refine ⟨by rw [cellsC_len,List.length_set],?_⟩;rcases h.2 with ⟨h',_⟩ | ⟨g',cap',cur',hv,hg,hc,hn,hm,hz,ht⟩
 ·cases h'
 ·simp only [Value.slice.injEq,Option.some.injEq,Addr.mk.injEq,and_true] at hv;obtain ⟨rfl,rfl,rfl⟩:=hv
  have e:cur'=cur:=by
   have h1:w.heap[g]?=some (.cells cur 54 (0,0)):=hB;rw [h1] at hc;injection hc with hc
   injection hc with hc
   exact hc.symm
  subst e;refine .inr ⟨g,cap,_,rfl,hg,hU.blk,hn,hm,by rw [putAll_size];exact hz,?_⟩;apply List.ext_getElem?;intro j;have h8:x'.cs.length=8:=rfl;rw [cellsC_get,List.length_set,getD_put xs x' cu0 k (j / 8) hk];by_cases hj:j<xs.length*8
  ·rw [if_pos hj,List.getElem?_take_of_lt hj,Array.getElem?_toList,putAll_get _ _ _ _ (by rw [hz,h8];omega),h8];by_cases h1:k*8≤j∧j<k*8+8
   ·rw [if_pos h1,if_pos (by omega),show j - k*8=j % 8 by omega]
   ·rw [if_neg h1,if_neg (by omega)];have h2:cur'.toList[j]?=(cellsC xs)[j]?:=by rw [← ht,List.getElem?_take_of_lt hj]
    rw [Array.getElem?_toList] at h2;rw [h2,cellsC_get,if_pos hj]
  ·rw [if_neg hj,List.getElem?_eq_none (by rw [List.length_take];omega)]
theorem wp_cust {w:World} {ops:Array Oper} {rest:List Oper} {o:Oper} {a:Act} {Q:Exit→Act→World→Prop} (hgd:o.guard=none) (s x:Operand)
  (ho:o.op = .call { callee:= .builtin .append,args:=#[s,x],argTypes:=#[44,44] })
  (base G:Nat) (v:Value) (l:List Cu) (r:Cu) (hs:a.eval s=v) (hx:a.eval x = .slice (some ⟨G,0,none⟩) 1 1) (hv:Lc w base v l) (hu:Blk w G r.cs.toArray 54) (hn:l.length≤2000000) (hbase:base≤w.heap.size)
  (h:∀ v' w',Lc w' base v' (l++[r])→w.grownBy w' v.ownBlock→(v'.ownBlock=v.ownBlock∨v'.ownBlock=some w.heap.size)→wpList Tryz.prog ops Q rest (a.put o.dst v') w'):wpList Tryz.prog ops Q (o :: rest) a w:=
 wpList_plain hgd fun K hK=>step_cust s x ho base G v l r hs hx hv hu hn hbase (fun v' w' h1 h2 h3=>hK _ _ (h v' w' h1 h2 h3))
theorem lc_lies {w:World} {base n cap:Nat} {a:Option Addr} {xs:List Cu} (h:Lc w base (.slice a n cap) xs) (hn:0<n):∃ g cur,a=some ⟨g,0,none⟩∧base≤g∧Blk w g cur 54∧n*8≤cur.size∧∀ i j,i<xs.length→j<8→cur[i*8+j]?=(xs.getD i cu0).cs[j]?:=by
 rcases h.2 with ⟨h',h0⟩ | ⟨g,cap',cur,hv,hg,hc,hle,hm,hz,ht⟩
 ·simp only [Value.slice.injEq] at h';omega
 ·simp only [Value.slice.injEq] at hv;obtain ⟨rfl,rfl,rfl⟩:=hv;refine ⟨g,cur,rfl,hg,hc,by omega,fun i j hi hj=>?_⟩;have h1:cur.toList[i*8+j]?=(cellsC xs)[i*8+j]?:=by rw [← ht,List.getElem?_take_of_lt (by omega)]
  rw [Array.getElem?_toList] at h1;rw [h1];exact cellsC_at xs i j hi hj
theorem cuA_of {x:Cu} {a:Ac} (h:Nums x a):∃ dp dn dc sp sn sc,x=⟨a.me,a.rv,a.nx,a.mo,a.bo,a.fr,dp,dn,dc,sp,sn,sc⟩:=by
 cases x;obtain ⟨h1,h2,h3,h4,h5,h6⟩:=h;simp only at h1 h2 h3 h4 h5 h6;subst h1 h2 h3 h4 h5 h6;exact ⟨_,_,_,_,_,_,rfl⟩
theorem first_of {xs:List Cu} {bk:List Cm} {me at_:Int} (hl:xs.length=bk.length) (hn:∀ i,i<xs.length→Nums (xs.getD i cu0) (bk.getD i cm0).a) (h:FoundIs xs me at_):(∃ k,FirstAt bk me k∧at_=(k:Int))∨(NoneAt bk me∧at_=-1):=by
 rcases h with ⟨k,hk,e,hb,rfl⟩ | ⟨hb,rfl⟩
 ·exact .inl ⟨k,⟨by rw [← hl];exact hk,by rw [← (hn k hk).1];exact e,fun j hj=>by rw [← (hn j (by omega)).1];exact hb j hj⟩,rfl⟩
 ·exact .inr ⟨fun j hj=>by rw [← (hn j (by rw [hl];exact hj)).1];exact hb j (by rw [hl];exact hj),rfl⟩
end book
namespace tar
open Go.RowKit
theorem roverlap (lo hi x y:Int) (w:World) (h0:0≤lo∧lo≤10000000) (h1:0≤hi∧hi≤10000000) (h2:0≤x∧x≤10000000) (h3:0≤y∧y≤10000000):Calls Tryz.prog 205 #[zI lo,zI hi,zI x,zI y] w fun e w'=>e = .returned (zI (ov lo hi x y))∧w'=w:=by
 obtain ⟨a0,a1⟩:=h0;obtain ⟨b0,b1⟩:=h1;obtain ⟨c0,c1⟩:=h2;obtain ⟨d0,d1⟩:=h3
 have HV:Hid (∀ z,(max lo x≤min hi y→z=min hi y - max lo x)→(min hi y<max lo x→z=0)→z=ov lo hi x y):=fun z e1 e2=>by
  unfold ov;by_cases h:max lo x≤min hi y
  ·have:=e1 h;omega
  ·have:=e2 (by omega);omega
 by_cases p:lo<x
 ·have q:decide (lo<x)=true:=decide_eq_true p;by_cases p2:y<hi
  ·have q2:decide (y<hi)=true:=decide_eq_true p2;by_cases p3:y<x
   ·have q3:decide (y<x)=true:=decide_eq_true p3;have HZ:Hid ((0:Int)=ov lo hi x y):=HV.o 0 (fun h=>by omega) (fun _=>rfl);go_enter Tryz.func205,Tryz.ntmps205;go_wp2_with fail;go_ret;exact ⟨by rw [← HZ.o];rfl,rfl⟩
   ·have q3:decide (y<x)=false:=decide_eq_false p3;have HZ:Hid (y - x=ov lo hi x y):=HV.o _ (fun h=>by omega) (fun h=>by omega);go_enter Tryz.func205,Tryz.ntmps205;go_wp2_with fail;go_ret;exact ⟨by rw [← HZ.o];rfl,rfl⟩
  ·have q2:decide (y<hi)=false:=decide_eq_false p2;by_cases p3:hi<x
   ·have q3:decide (hi<x)=true:=decide_eq_true p3;have HZ:Hid ((0:Int)=ov lo hi x y):=HV.o 0 (fun h=>by omega) (fun _=>rfl);go_enter Tryz.func205,Tryz.ntmps205;go_wp2_with fail;go_ret;exact ⟨by rw [← HZ.o];rfl,rfl⟩
   ·have q3:decide (hi<x)=false:=decide_eq_false p3;have HZ:Hid (hi - x=ov lo hi x y):=HV.o _ (fun h=>by omega) (fun h=>by omega);go_enter Tryz.func205,Tryz.ntmps205;go_wp2_with fail;go_ret;exact ⟨by rw [← HZ.o];rfl,rfl⟩
 ·have q:decide (lo<x)=false:=decide_eq_false p;by_cases p2:y<hi
  ·have q2:decide (y<hi)=true:=decide_eq_true p2;by_cases p3:y<lo
   ·have q3:decide (y<lo)=true:=decide_eq_true p3;have HZ:Hid ((0:Int)=ov lo hi x y):=HV.o 0 (fun h=>by omega) (fun _=>rfl);go_enter Tryz.func205,Tryz.ntmps205;go_wp2_with fail;go_ret;exact ⟨by rw [← HZ.o];rfl,rfl⟩
   ·have q3:decide (y<lo)=false:=decide_eq_false p3;have HZ:Hid (y - lo=ov lo hi x y):=HV.o _ (fun h=>by omega) (fun h=>by omega);go_enter Tryz.func205,Tryz.ntmps205;go_wp2_with fail;go_ret;exact ⟨by rw [← HZ.o];rfl,rfl⟩
  ·have q2:decide (y<hi)=false:=decide_eq_false p2;by_cases p3:hi<lo
   ·have q3:decide (hi<lo)=true:=decide_eq_true p3;have HZ:Hid ((0:Int)=ov lo hi x y):=HV.o 0 (fun h=>by omega) (fun _=>rfl);go_enter Tryz.func205,Tryz.ntmps205;go_wp2_with fail;go_ret;exact ⟨by rw [← HZ.o];rfl,rfl⟩
   ·have q3:decide (hi<lo)=false:=decide_eq_false p3;have HZ:Hid (hi - lo=ov lo hi x y):=HV.o _ (fun h=>by omega) (fun h=>by omega);go_enter Tryz.func205,Tryz.ntmps205;go_wp2_with fail;go_ret;exact ⟨by rw [← HZ.o];rfl,rfl⟩
theorem rcost (a:Option Addr) (n cap:Nat) (ls:List Du) (x y:Int) (w:World) (hr:RowD w a n ls) (hR:Right ls) (hx:0≤x) (hxy:x≤y) (hy:y≤10000000):Calls Tryz.prog 198 #[.slice a n cap,zI x,zI y] w fun e w'=>ValPost w (cost ls x y) e w':=by
 have hlen:=hr.1;have hn1:1≤n:=by have:=hR.1.1;omega
 have hn8:n≤8:=by have:=hR.1.2;omega
 obtain ⟨b,off,rfl,hbl,hc⟩:=hr.at hn1;have HC:Hid (∀ i,i<n→w.cell? ⟨b,off+i*2,none⟩=some (zI (ls.getD i du0).a)∧w.cell? ⟨b,off+i*2+1,none⟩=some (zI (ls.getD i du0).b)):=hc;have HLEN:Hid (ls.length=n):=hlen;have HR:Hid (Right ls):=hR;have HX:Hid (0≤x∧x≤y∧y≤10000000):=⟨hx,hxy,hy⟩
 clear hc hr hlen hR;go_enter Tryz.func198,Tryz.ntmps198;go_wp2_with fail;go_loopw [7,8,9] (fun u v z wr=>∃ k:Nat,k≤n∧z=zI (k:Int)∧u=zI (costK ls x y k)∧v=zI (low ls k)∧Below w.heap.size w wr) (fun _ _ z _=>n - (intOf z).toNat)
 case atStart=>exact ⟨0,Nat.zero_le _,rfl,rfl,rfl,Below.refl _ _⟩
 case round=>
  obtain ⟨k,hk,rfl,rfl,rfl,hb⟩:=hrel;by_cases hlt:k<n
  ·have hdl:decide ((k:Int)<(n:Int))=true:=by simp;omega
   have hkl:k<ls.length:=by rw [HLEN.o];exact hlt
   have c0:wr.cell? ⟨b,off+k*2,none⟩=some (zI (ls.getD k du0).a):=(hb.cell (p:=⟨b,off+k*2,none⟩) hbl).trans (HC.o k hlt).1;have c1:wr.cell? ⟨b,off+k*2+1,none⟩=some (zI (ls.getD k du0).b):=(hb.cell (p:=⟨b,off+k*2+1,none⟩) hbl).trans (HC.o k hlt).2;have HB:Hid (Below w.heap.size w wr):=hb;have hp:=HR.o.price k hkl;have hu:=HR.o.upto k hkl;have hl0:=HR.o.low_pos k (by omega);have hl1:low ls k≤10000000:=by have:=low_mono HR.o k ls.length (by omega) (Nat.le_refl _);rw [HR.o.low_end] at this;exact this
   have HOV:Hid (∀ W,Calls Tryz.prog 205 #[zI (low ls k),zI (ls.getD k du0).a,zI x,zI y] W fun e w'=>e = .returned (zI (ov (low ls k) (ls.getD k du0).a x y))∧w'=W):=fun W=>roverlap _ _ x y W ⟨hl0,hl1⟩ ⟨by omega,by omega⟩ ⟨by omega,by omega⟩ ⟨by omega,by omega⟩;have hc0:=costK_pos HR.o x y k (by omega);have hc1:=costK_le HR.o x y HX.o.1 HX.o.2.1 HX.o.2.2 k (by omega);have hpb:=prod_bd (ov_pos (low ls k) (ls.getD k du0).a x y) (ov_le _ _ x y hl0 hu.2) hp.1 hp.2;have HN:Hid (costK ls x y k+ov (low ls k) (ls.getD k du0).a x y*(ls.getD k du0).b=costK ls x y (k+1)):=(costK_next ls x y k).symm;have HL:Hid ((ls.getD k du0).a=low ls (k+1)):=(low_next ls k).symm;clear hb;generalize costK ls x y k=cc at *;generalize low ls k=lo at *;generalize ov lo (ls.getD k du0).a x y=o at *;generalize (ls.getD k du0).a=u at *;generalize (ls.getD k du0).b=p at *;have hw1:IntKind.i64.wrap (o*p)=o*p:=by rw [IntKind.wrap_i64];omega
   have hw2:IntKind.i64.wrap (cc+o*p)=cc+o*p:=by rw [IntKind.wrap_i64];omega
   go_wp2_with fail;go_quiet (exact (HOV.o _).mono fun _ _ h=>⟨h.1,_,h.2⟩);have d1:(wr.drewN nq).cell? ⟨b,off+k*2,none⟩=some (zI u):=c0;have HBN:Hid (Below w.heap.size w (wr.drewN nq)):=bel_drewN HB.o nq;go_wp2_with fail;go_roundw
   case rel=>exact ⟨k+1,by omega,by go_num,by rw [← HN.o],by rw [← HL.o],HBN.o⟩
   case measure=>simp [intOf];omega
  ·obtain rfl:k=n:=by omega
   have hdl:decide ((k:Int)<(k:Int))=false:=by simp
   have HV:Hid (costK ls x y k=cost ls x y):=by show _=_;unfold cost;rw [HLEN.o]
   have HB:Hid (Below w.heap.size w wr):=hb;clear hb;generalize hcc:costK ls x y k=cc at *;go_wp2_with fail;go_ret;exact ⟨by rw [← HV.o];rfl,HB.o⟩
end tar
namespace book
open Go.RowKit
open Go.ChangeMaps (setBlock heap_setBlock_same heap_setBlock_other)
def entI (m:Int) (i:Nat):MapEntry:={ key:=zI m,val:=zI (i:Int),born:=i }
def entsI:List Int→Nat→List MapEntry
 | [],_=>[]
 | p :: l,i=>entI p i :: entsI l (i+1)
theorem entsI_app (l:List Int) (p:Int) (i:Nat):entsI (l++[p]) i=entsI l i++[entI p (i+l.length)]:=by
 induction l generalizing i with
 | nil=>rfl
 | cons x l ih=>simp only [List.cons_append,entsI,ih,List.length_cons];rw [show i+1+l.length=i+(l.length+1) by omega]
def MpI (w:World) (B:Nat) (l:List Int):Prop:=w.heap[B]?=some (.map (entsI l 0).toArray l.length)
theorem MpI.lt {w:World} {B:Nat} {l:List Int} (h:MpI w B l):B<w.heap.size:=by
 unfold MpI at h;by_cases hh:B<w.heap.size
 ·exact hh
 ·rw [Array.getElem?_eq_none (by omega)] at h;cases h
theorem MpI.below {w w':World} {B:Nat} {l:List Int} (h:MpI w B l) (hb:Below w.heap.size w w'):MpI w' B l:=by
 have hl:=h.lt;unfold MpI at *;rw [hb.block B hl];exact h
theorem MpI.upd {w W:World} {B g:Nat} {cs:Array Value} {t:TypeId} {l:List Int} (h:MpI w B l) (hU:Upd w W g cs t) (hne:B≠g):MpI W B l:=by
 unfold MpI at *;rw [hU.oth B hne];exact h
theorem MpI.new (w:World):MpI (w.alloc (.map #[] 0)) w.heap.size []:=by
 show (w.heap.push _)[w.heap.size]?=_;rw [Array.getElem?_push_size];rfl
def firstI:List Int→Int→Option Nat
 | [],_=>none
 | m :: l,x=>if x=m then some 0 else (firstI l x).map (·+1)
theorem findingI (x:Int):∀ (l:List Int) (i j:Nat),Instr.findNow (.int .i64) (zI x) (entsI l i) j=some ((firstI l x).map fun k=>(j+k,Value.int .i64 ((i+k:Nat):Int)))
 | [],i,j=>rfl
 | m :: l,i,j=>by
  have ih:=findingI x l (i+1) (j+1);unfold firstI;by_cases h:x=m
  ·subst h;simp [entsI,entI,Instr.findNow,Instr.sameNow]
  ·have hb:(x == m)=false:=by simpa using h
   rw [if_neg h];simp only [entsI,entI,Instr.findNow,Instr.sameNow,if_true,hb];rw [ih];cases firstI l x with
   | none=>rfl
   | some k=>simp [show j+1+k=j+(k+1) by omega,show i+1+k=i+(k+1) by omega];omega
theorem zintI (w:World):(zeroValue 3).run Tryz.prog w = .ok (zI 0) w:=by kernel_rfl
theorem chkI (em:Bool) (x:Int) (w:World):(Instr.checkKey em 10000 3 (zI x)).run Tryz.prog w = .ok () w:=by kernel_rfl
theorem keyI (x:Int) (l:List Int) (w:World):(Instr.findKey 3 (zI x) (entsI l 0)).run Tryz.prog w = .ok ((firstI l x).map fun k=>(k,Value.int .i64 (k:Int))) w:=by
 have h:=findingI x l 0 0;simp only [Nat.zero_add] at h;simp [Instr.findKey,run_underlying Tryz.underlying3,Sem.run_bind,h]
theorem lookI_run {w:World} {B:Nat} {l:List Int} (h:MpI w B l) (x:Int) :
  (Instr.lookup 111 (.map (some B)) (zI x) true).run Tryz.prog w = .ok (.tuple #[zI (((firstI l x).getD 0:Nat):Int),.bool (firstI l x).isSome]) w:=by
 have hf:=keyI x l w;cases hl:firstI l x with
 | none=>rw [hl] at hf;simp [Instr.lookup,run_underlying Tryz.underlying111,MapKept.run_getObj_map h,chkI,hf,zintI,Result.andThen,Sem.run_bind]
 | some k=>rw [hl] at hf;simp [Instr.lookup,run_underlying Tryz.underlying111,MapKept.run_getObj_map h,chkI,hf,Result.andThen,Sem.run_bind]
theorem updI_run {w:World} {B:Nat} {l:List Int} (h:MpI w B l) (x:Int) (hn:firstI l x=none) :
  ∃ W,(Instr.mapUpdate 111 (.map (some B)) (zI x) (zI (l.length:Int))).run Tryz.prog w = .ok () W∧MpI W B (l++[x])∧(∀ G,G≠B→W.heap[G]?=w.heap[G]?)∧(∀ B0 w0,B0≤B→Below B0 w0 w→Below B0 w0 W)∧W.heap.size=w.heap.size∧w.grownBy W (some B):=by
 have hf:=keyI x l w;rw [hn] at hf;refine ⟨setBlock w B (.map ((entsI l 0).toArray.push ⟨zI x,zI (l.length:Int),l.length⟩) (l.length+1)),?_,?_,fun G hG=>heap_setBlock_other h _ hG,fun B0 w0 hB hb=>?_,by simp [setBlock],⟨rfl,rfl,rfl,by simp [setBlock],fun k hk hne=>heap_setBlock_other h _ (fun e=>hne (by rw [e]))⟩⟩
 ·simp [Instr.mapUpdate,run_underlying Tryz.underlying111,MapKept.run_getObj_map h,chkI,hf,MapKept.run_setObj_map _ h,Result.andThen,setBlock,Sem.run_bind]
 ·unfold MpI;rw [heap_setBlock_same h,entsI_app,List.length_append];simp [entI]
 ·refine ⟨hb.os,hb.tape,hb.output,by simp [setBlock];exact hb.size,fun k hk=>?_⟩;rw [heap_setBlock_other h _ (by omega)];exact hb.block k hk
theorem mkMapI (w:World):(Instr.makeMap 111 none).run Tryz.prog w = .ok (.map (some w.heap.size)) (w.alloc (.map #[] 0)):=by kernel_rfl
def mes (bk:List Cm):List Int:=bk.map fun c=>c.a.me
theorem mes_len (bk:List Cm):(mes bk).length=bk.length:=by simp [mes]
theorem first_some {bk:List Cm} {x:Int} {k:Nat} (h:firstI (mes bk) x=some k):FirstAt bk x k:=by
 induction bk generalizing k with
 | nil=>cases h
 | cons c bk ih=>
  unfold mes firstI at h;simp only [List.map_cons] at h;by_cases hx:x=c.a.me
  ·rw [if_pos hx] at h;cases h;exact ⟨by simp,hx.symm,fun j hj=>absurd hj (Nat.not_lt_zero _)⟩
  ·rw [if_neg hx] at h;cases hf:firstI (mes bk) x with
   | none=>rw [show firstI (List.map (fun c=>c.a.me) bk) x=none from hf] at h;cases h
   | some m=>
    rw [show firstI (List.map (fun c=>c.a.me) bk) x=some m from hf] at h;cases h;have:=ih hf
    exact ⟨by have:=this.1;simp;omega,this.2.1,fun j hj=>by
     cases j with
     | zero=>exact fun e=>hx e.symm
     | succ j=>exact this.2.2 j (by have:j+1<m+1:=hj;omega)⟩
theorem first_none {bk:List Cm} {x:Int} (h:firstI (mes bk) x=none):NoneAt bk x:=by
 induction bk with
 | nil=>intro j hj;cases hj
 | cons c bk ih=>
  unfold mes firstI at h;simp only [List.map_cons] at h;by_cases hx:x=c.a.me
  ·rw [if_pos hx] at h;cases h
  ·rw [if_neg hx] at h
   have hf:firstI (mes bk) x=none:=by
    cases hf:firstI (mes bk) x with
    | none=>rfl
    | some m=>rw [show firstI (List.map (fun c=>c.a.me) bk) x=some m from hf] at h;cases h
   intro j hj;cases j with
   | zero=>exact fun e=>hx e.symm
   | succ j=>exact ih hf j (by simpa using hj)
theorem mes_set {bk:List Cm} {k:Nat} {c:Cm} (h:c.a.me=(bk.getD k cm0).a.me):mes (bk.set k c)=mes bk:=by
 unfold mes;apply List.ext_getElem?;intro j;simp only [List.getElem?_map,List.getElem?_set];by_cases hj:k=j
 ·subst hj;rw [if_pos rfl];by_cases hl:k<bk.length
  ·rw [if_pos hl,List.getElem?_eq_getElem hl];simp only [Option.map_some,h,List.getD,List.getElem?_eq_getElem hl,Option.getD]
  ·rw [if_neg hl,List.getElem?_eq_none (by omega)]
 ·rw [if_neg hj]
end book
namespace acc
open tar (Du du0 Came RowD Ld PairT)
open Go.RowKit
def MayPost (w:World) (x:Ac) (e:Ending) (w':World):Prop:=∃ r,e = .returned (.bool r)∧(r=true↔AMay x)∧Below w.heap.size w w'
theorem pmay (x:Ac) (p:Option Addr) (len cap:Nat) (w:World) (h:Came w p len cap x.ds):Calls Tryz.prog 159 #[.agg #[zI x.me,zI x.rv,zI x.nx,zI x.mo,zI x.bo,zI x.fr,.slice p len cap]] w fun e w'=>MayPost w x e w':=by
 have HI0:Hid (∀ W,Calls Tryz.prog 69 #[zI 0,zI 49,zI x.me] W fun e w'=>e = .returned (.bool (decide (0≤x.me∧x.me≤49)))∧w'=W):=fun W=>awithin 0 49 x.me W;have HI1:Hid (∀ W,Calls Tryz.prog 69 #[zI 0,zI 15,zI x.rv] W fun e w'=>e = .returned (.bool (decide (0≤x.rv∧x.rv≤15)))∧w'=W):=fun W=>awithin 0 15 x.rv W;have HI2:Hid (∀ W,Calls Tryz.prog 69 #[zI 1,zI 1048576,zI x.nx] W fun e w'=>e = .returned (.bool (decide (1≤x.nx∧x.nx≤1048576)))∧w'=W):=fun W=>awithin 1 1048576 x.nx W;have HI3:Hid (∀ W,Calls Tryz.prog 69 #[zI 0,zI 2399,zI x.mo] W fun e w'=>e = .returned (.bool (decide (0≤x.mo∧x.mo≤2399)))∧w'=W):=fun W=>awithin 0 2399 x.mo W;have HI4:Hid (∀ W,Calls Tryz.prog 69 #[zI 0,zI 10000000,zI x.bo] W fun e w'=>e = .returned (.bool (decide (0≤x.bo∧x.bo≤10000000)))∧w'=W):=fun W=>awithin 0 10000000 x.bo W;have HI5:Hid (∀ W,Calls Tryz.prog 69 #[zI (-1),zI x.mo,zI x.fr] W fun e w'=>e = .returned (.bool (decide (-1≤x.fr∧x.fr≤x.mo)))∧w'=W):=fun W=>awithin (-1) x.mo x.fr W;obtain ⟨WW,HWW,HBK,HBA,-⟩:=sh1 w #[zI x.me,zI x.rv,zI x.nx,zI x.mo,zI x.bo,zI x.fr,.slice p len cap] 51;have HTO:Hid (Calls Tryz.prog 184 #[.slice p len cap] WW fun e w'=>tar.TwoPost WW (deb.OwedIs x.ds) e w'):=deb.ktotal _ p len cap x.ds (h.below HBA.o);have c6:WW.cell? ⟨w.heap.size,6,none⟩=some (.slice p len cap):=HBK.o.cell 6;clear h;go_enter Tryz.func159,Tryz.ntmps159;go_upto_region 1 with fail
 rw [HWW.o];clear HWW;go_wp2_with fail;refine HTO.o.mono ?_;rintro e w1 ⟨tt,f,rfl,hf,hb1⟩;have HB1:=shB HBA hb1;have HK1:=shN HBK hb1;have HF:Hid (f=0↔deb.Mays x.ds):=hf.1.ok;clear hf hb1 HTO HBA HBK c6;obtain ⟨c0,c1,c2,c3,c4,c5,c6⟩:=scl7 HK1;by_cases h0:f=0
 ·have HM:Hid (deb.Mays x.ds):=HF.o.1 h0;subst h0;by_cases g0:0≤x.me∧x.me≤49
  ·rw [decide_eq_true g0] at HI0;go_wp2_with fail;refine (HI0.o _).mono ?_;rintro e w2 ⟨rfl,hw2⟩;subst w2;by_cases g1:0≤x.rv∧x.rv≤15
   ·rw [decide_eq_true g1] at HI1;go_wp2_with fail;refine (HI1.o _).mono ?_;rintro e w2 ⟨rfl,hw2⟩;subst w2;by_cases g2:1≤x.nx∧x.nx≤1048576
    ·rw [decide_eq_true g2] at HI2;go_wp2_with fail;refine (HI2.o _).mono ?_;rintro e w2 ⟨rfl,hw2⟩;subst w2;by_cases g3:0≤x.mo∧x.mo≤2399
     ·rw [decide_eq_true g3] at HI3;go_wp2_with fail;refine (HI3.o _).mono ?_;rintro e w2 ⟨rfl,hw2⟩;subst w2;by_cases g4:0≤x.bo∧x.bo≤10000000
      ·rw [decide_eq_true g4] at HI4;go_wp2_with fail;refine (HI4.o _).mono ?_;rintro e w2 ⟨rfl,hw2⟩;subst w2;by_cases g5:-1≤x.fr∧x.fr≤x.mo
       ·rw [decide_eq_true g5] at HI5;go_wp2_with fail;refine (HI5.o _).mono ?_;rintro e w2 ⟨rfl,hw2⟩;subst w2;have HY:Hid (AMay x):=⟨HM.o,g0,g1,g2,g3,g4,g5⟩
        go_wp2_with fail;go_ret;exact ⟨true,rfl,⟨fun _=>HY.o,fun _=>rfl⟩,HB1.o⟩
       ·rw [decide_eq_false g5] at HI5;have HN:Hid (¬ AMay x):=fun h=>g5 h.2.2.2.2.2.2;clear g5;go_wp2_with fail;refine (HI5.o _).mono ?_;rintro e w2 ⟨rfl,hw2⟩;subst w2;go_wp2_with fail
        all_goals first
         | (rename_i q1 q2;exact absurd q1 (by simp [undef]))
         | (go_ret;exact ⟨false,rfl,⟨fun h=>absurd h (by decide),fun h=>absurd h HN.o⟩,HB1.o⟩)
      ·rw [decide_eq_false g4] at HI4;have HN:Hid (¬ AMay x):=fun h=>g4 h.2.2.2.2.2.1;clear g4;go_wp2_with fail;refine (HI4.o _).mono ?_;rintro e w2 ⟨rfl,hw2⟩;subst w2;go_wp2_with fail
       all_goals first
        | (rename_i q1 q2;exact absurd q1 (by simp [undef]))
        | (go_ret;exact ⟨false,rfl,⟨fun h=>absurd h (by decide),fun h=>absurd h HN.o⟩,HB1.o⟩)
     ·rw [decide_eq_false g3] at HI3;have HN:Hid (¬ AMay x):=fun h=>g3 h.2.2.2.2.1;clear g3;go_wp2_with fail;refine (HI3.o _).mono ?_;rintro e w2 ⟨rfl,hw2⟩;subst w2;go_wp2_with fail
      all_goals first
       | (rename_i q1 q2;exact absurd q1 (by simp [undef]))
       | (go_ret;exact ⟨false,rfl,⟨fun h=>absurd h (by decide),fun h=>absurd h HN.o⟩,HB1.o⟩)
    ·rw [decide_eq_false g2] at HI2;have HN:Hid (¬ AMay x):=fun h=>g2 h.2.2.2.1;clear g2;go_wp2_with fail;refine (HI2.o _).mono ?_;rintro e w2 ⟨rfl,hw2⟩;subst w2;go_wp2_with fail
     all_goals first
      | (rename_i q1 q2;exact absurd q1 (by simp [undef]))
      | (go_ret;exact ⟨false,rfl,⟨fun h=>absurd h (by decide),fun h=>absurd h HN.o⟩,HB1.o⟩)
   ·rw [decide_eq_false g1] at HI1;have HN:Hid (¬ AMay x):=fun h=>g1 h.2.2.1;clear g1;go_wp2_with fail;refine (HI1.o _).mono ?_;rintro e w2 ⟨rfl,hw2⟩;subst w2;go_wp2_with fail
    all_goals first
     | (rename_i q1 q2;exact absurd q1 (by simp [undef]))
     | (go_ret;exact ⟨false,rfl,⟨fun h=>absurd h (by decide),fun h=>absurd h HN.o⟩,HB1.o⟩)
  ·rw [decide_eq_false g0] at HI0;have HN:Hid (¬ AMay x):=fun h=>g0 h.2.1;clear g0;go_wp2_with fail;refine (HI0.o _).mono ?_;rintro e w2 ⟨rfl,hw2⟩;subst w2;go_wp2_with fail
   all_goals first
    | (rename_i q1 q2;exact absurd q1 (by simp [undef]))
    | (go_ret;exact ⟨false,rfl,⟨fun h=>absurd h (by decide),fun h=>absurd h HN.o⟩,HB1.o⟩)
 ·have d0:(f == 0)=false:=by simpa using h0
  have HN:Hid (¬ AMay x):=fun h=>h0 (HF.o.2 h.1);clear h0;go_wp2_with fail
  all_goals first
   | (rename_i q1 q2;exact absurd q1 (by simp [undef]))
   | (go_ret;exact ⟨false,rfl,⟨fun h=>absurd h (by decide),fun h=>absurd h HN.o⟩,HB1.o⟩)
end acc
end Go.Proofs.YtnpblpbohcegoaaGreatDoor
