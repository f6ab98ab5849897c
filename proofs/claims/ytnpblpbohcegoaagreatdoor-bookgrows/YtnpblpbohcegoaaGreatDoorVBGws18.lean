import Derived.Test.YtnpblpbohcegoaaGreatDoorVBGws14
import Derived.Test.YtnpblpbohcegoaaGreatDoorVBGws16
import Derived.Test.YtnpblpbohcegoaaGreatDoorVBGws17
set_option linter.unusedVariables false
set_option linter.unusedSimpArgs false
set_option maxHeartbeats 4000000
set_option maxRecDepth 100000
namespace Go.Proofs.YtnpblpbohcegoaaGreatDoor
namespace rcp
open Go.RowKit
def Rc.cs (r:Rc):Array Value:=#[zI r.me,zI r.id,zI r.te,zI r.de,zI r.fe,zI r.pr,zI r.ch,zI r.un,.string ⟨r.tk.toArray⟩]
def Rc.v (r:Rc):Value:= .agg r.cs
end rcp
namespace acc
open tar (Du du0 Came RowD Ld PairT)
open Go.RowKit
theorem rest_bd {a:Ac} {t:Tm} {te m:Int} (h:Ready a t m) (h0:1≤te) (h1:te≤100000000):(0≤paid a t te m∧paid a t te m≤te)∧(0≤fee t te∧fee t te≤100100000)∧rest a t te m=te - paid a t te m - fee t te:=by
 obtain ⟨a1,⟨b1,⟨c1,c2⟩,⟨d1,d2⟩,⟨e1,e2⟩,_⟩,r⟩:=h;have hs:=mays_sum (rolled_may a1 r).1;have h2:=rec_bd (te:=te) (db:=t.db) (by omega) h1 e1 e2;have h3:=rec_bd (te:=te) (db:=t.fb) (by omega) h1 d1 d2;refine ⟨⟨?_,?_⟩,⟨?_,?_⟩,rfl⟩
 ·show 0≤min (te*t.db / 10000) _;omega
 ·show min (te*t.db / 10000) _≤te;omega
 ·show 0≤t.ff+te*t.fb / 10000;omega
 ·show t.ff+te*t.fb / 10000≤_;omega
end acc
namespace vnd
open book (Ev ev0 Cm cm0 So so0 Sees)
open acc (Ac Tm Bi)
open ora (Pr)
open cell (Wr RowU RowW)
open rcp (Rc rc0)
open Go.RowKit
def KvReg:Prop:=∀ (W:World) (t:Tm) (pt:Option Addr) (lt ct:Nat) (a:Option Addr) (n cap:Nat) (c:List Int) (me:Int),acc.TCame W t pt lt ct→Dk W a n cap c→(Lit.int .i64 me).wf=true→Calls Tryz.prog 34 #[t.v pt lt ct,.slice a n cap,zI me] W fun e w'=>WrGot W (RegIs t c me) e w'
end vnd
namespace book
open Go.RowKit cell
def DecGot (w:World) (l:List Int) (e:Ending) (w':World):Prop:=∃ v f,e = .returned (.tuple #[Ev.v v,zI f])∧DecIs l v f∧Below w.heap.size w w'
def KDec:Prop:=∀ (W:World) (a:Option Addr) (n cap:Nat) (l:List Int),RowU W a n l→(a=none→cap=0)→n≤cap→n*4≤140737488351232→(∀ x∈l,0≤x∧x<4294967296)→Calls Tryz.prog 36 #[.slice a n cap] W fun e w'=>DecGot W l e w'
def cellsE:List Ev→List Value
 | []=>[]
 | x :: l=>x.cl++cellsE l
theorem cellsE_len (l:List Ev):(cellsE l).length=l.length*13:=by
 induction l with
 | nil=>rfl
 | cons e l ih=>rw [cellsE,List.length_append,ih,List.length_cons];show 13+_=_;omega
theorem oneE (l:List Ev):∀ u∈cellsE l,u.oneCell'=true:=by
 induction l with
 | nil=>intro u hu;cases hu
 | cons e l ih=>
  intro u hu;rw [cellsE] at hu;rcases List.mem_append.1 hu with hu | hu
  ·simp only [Ev.cl,List.mem_cons,List.not_mem_nil,or_false] at hu;rcases hu with rfl | rfl | rfl | rfl | rfl | rfl | rfl | rfl | rfl | rfl | rfl | rfl | rfl <;> rfl
  ·exact ih u hu
theorem cellsE_at (l:List Ev) (k j:Nat) (hk:k<l.length) (hj:j<13):(cellsE l)[k*13+j]?=(l.getD k ev0).cl[j]?:=by
 induction l generalizing k with
 | nil=>simp at hk
 | cons x l ih=>
  have h8:x.cl.length=13:=rfl;cases k with
  | zero=>rw [Nat.zero_mul,Nat.zero_add,cellsE,List.getElem?_append_left (by omega)];rfl
  | succ k=>
   rw [show (k+1)*13+j=x.cl.length+(k*13+j) by omega,cellsE,List.getElem?_append_right (by omega),Nat.add_sub_cancel_left];exact ih k (by simpa using hk)
structure ECame (w:World) (a:Option Addr) (n cap:Nat) (l:List Ev):Prop where
 row:RowE w a n l
 nil:a=none→cap=0
 room:n≤cap
 bytes:n*104≤140737488351232
 wf:∀ v∈l,wf13 v
theorem evI:(Tryz.prog.info? 72).map (fun i=>(i.zero,i.size,i.bytes))=some (some (.agg ev0.cl.toArray),13,104):=by kernel_rfl
open acc (Ac Tm Bi APost BPost OweIs SellIs GrantIs RekeyIs)
theorem lo_upd {w W:World} {base g:Nat} {cs:Array Value} {t:TypeId} {v:Value} {l:List So} (h:Lo w base v l) (hU:Upd w W g cs t) (hg:∀ k,v.ownBlock=some k→k≠g):Lo W base v l:=by
 refine ⟨h.1,?_⟩;rcases h.2 with hn | ⟨g',cap,cur,hv,hb,hc,rest⟩
 ·exact .inl hn
 ·exact .inr ⟨g',cap,cur,hv,hb,by rw [hU.oth g' (hg g' (by rw [hv];rfl))];exact hc,rest⟩
open acc (TFault TRight OpenIs)
theorem lc_upd2 {w W:World} {base g:Nat} {cs:Array Value} {t:TypeId} {v:Value} {l:List Cu} (h:Lc w base v l) (hU:Upd w W g cs t) (hg:g<base):Lc W base v l:=by
 refine ⟨h.1,?_⟩;rcases h.2 with hn | ⟨g',cap,cur,hv,hb,hc,rest⟩
 ·exact .inl hn
 ·exact .inr ⟨g',cap,cur,hv,hb,by rw [hU.oth g' (by omega)];exact hc,rest⟩
theorem Holds.upd {w W:World} {base g:Nat} {cs:Array Value} {t:TypeId} {V:Value} {xs:List Cu} {bk:List Cm} (h:Holds w base V xs bk) (hU:Upd w W g cs t) (hg:g<base):Holds W base V xs bk:=
 ⟨lc_upd2 h.row hU hg,h.len,fun i hi=>⟨(h.has i hi).num,⟨acc_upd (h.has i hi).ds.came hU (fun hn y hy q=>by have:=(h.has i hi).ds.new hn y hy;omega),(h.has i hi).ds.new⟩,lo_upd (h.has i hi).so hU (fun k hk q=>by have:=(World.ownsRow.lt (h.has i hi).so k hk).1;omega)⟩,h.off,h.self,h.apart⟩
theorem blk_kept {w w':World} {own:Option Nat} {g:Nat} {cs:Array Value} {ty:TypeId} (h:Blk w g cs ty) (hg:w.grownBy w' own) (hne:some g≠own):Blk w' g cs ty:=by
 show w'.heap[g]?=_;rw [hg.block g h.lt hne];exact h
def BookPost (w:World) (t:Tm) (l:List Ev) (e:Ending) (w':World):Prop:=∃ p m cap xs bk at_ f,e = .returned (.tuple #[.agg #[.slice p m cap],zI at_,zI f])∧BookIs t l bk at_ f∧Sees w' p m xs bk∧m≤120∧Below w.heap.size w w'
theorem getD_mem {bk:List Cm} {j:Nat} (h:j<bk.length):bk.getD j cm0∈bk:=by
 have e:bk.getD j cm0=bk[j]:=by simp [List.getD,List.getElem?_eq_getElem h]
 rw [e];exact List.getElem_mem _
theorem sees_nil (w:World):Sees w none 0 [] []:=⟨⟨rfl,.inl rfl⟩,rfl,(fun i hi=>by cases hi),(fun i hi=>by cases hi),(fun i hi=>by cases hi)⟩
theorem states_small {t:acc.Tm} {l:List Ev} {k:Nat} {st:Nat→List Cm} (h0:st 0=[]) (h:∀ i,i<k→StepIs t (st i) (l.getD i ev0) (st (i+1)) 0):∀ i,i≤k→Small (st i) i
 | 0,_=>by rw [h0];exact Small.zero
 | i+1,hk=>step_small (h i (by omega)) (states_small h0 h i (by omega))
theorem book_small {t:acc.Tm} {l:List Ev} {bk:List Cm} {at_ f:Int} (h:BookIs t l bk at_ f):∀ c∈bk,c.so.length≤1000000:=by
 rcases h with ⟨_,_,rfl,_⟩ | ⟨_,_,rfl,_⟩ | ⟨_,q,k,st,s0,s1,s2⟩
 ·intro c hc;cases hc
 ·intro c hc;cases hc
 ·rcases s2 with ⟨e,rfl,_⟩ | ⟨_,_,_,rfl,_⟩
  ·intro c hc;have:=((states_small s0 s1 k (Nat.le_refl _)).2 c hc).1;omega
  ·intro c hc;cases hc
end book
namespace vnd
open book (Ev ev0 EMay evL Cm cm0 So so0 BookIs FirstAt NoneAt Tells billOf soldOf StepIs HapIs)
open acc (Ac Tm Bi SellIs OweIs)
theorem set_other (l:List Ev) (i j:Nat) (v:Ev) (h:j≠i):(l.set i v).getD j ev0=l.getD j ev0:=by simp [List.getD,Ne.symm h]
theorem set_here (l:List Ev) (i:Nat) (v:Ev) (h:i<l.length):(l.set i v).getD i ev0=v:=by simp [List.getD,h]
end vnd
namespace acc
open tar (Du)
open Go.RowKit
def KcSell:Prop:=∀ (W:World) (x:Ac) (p:Option Addr) (len cap:Nat) (t:Tm) (pt:Option Addr) (lt ct:Nat) (te m:Int),ACame W x p len cap→TCame W t pt lt ct→(Lit.int .i64 te).wf=true→(Lit.int .i64 m).wf=true→Calls Tryz.prog 81 #[x.v p len cap,t.v pt lt ct,zI te,zI m] W fun e w'=>BPost W (SellIs x t te m) e w'
end acc
namespace book
open Go.RowKit
theorem eqI (d:Nat) (a b:Int) (w:World):(Op.equalIn (d+1) 3 (zI a) (zI b)).run Tryz.prog w = .ok (a == b) w:=run_equalIn_int w d _ _ _ a b Tryz.underlying3
theorem eqBi_f0 (a0 a1 a2 a3 a4 a5 a6:Int) (w:World):(part 3 #[zI a0,zI a1,zI a2,zI a3,zI a4,zI a5,zI a6] 0).run Tryz.prog w = .ok (zI a0) w:=by kernel_rfl
theorem eqBi_f1 (a0 a1 a2 a3 a4 a5 a6:Int) (w:World):(part 3 #[zI a0,zI a1,zI a2,zI a3,zI a4,zI a5,zI a6] 1).run Tryz.prog w = .ok (zI a1) w:=by kernel_rfl
theorem eqBi_f2 (a0 a1 a2 a3 a4 a5 a6:Int) (w:World):(part 3 #[zI a0,zI a1,zI a2,zI a3,zI a4,zI a5,zI a6] 2).run Tryz.prog w = .ok (zI a2) w:=by kernel_rfl
theorem eqBi_f3 (a0 a1 a2 a3 a4 a5 a6:Int) (w:World):(part 3 #[zI a0,zI a1,zI a2,zI a3,zI a4,zI a5,zI a6] 3).run Tryz.prog w = .ok (zI a3) w:=by kernel_rfl
theorem eqBi_f4 (a0 a1 a2 a3 a4 a5 a6:Int) (w:World):(part 3 #[zI a0,zI a1,zI a2,zI a3,zI a4,zI a5,zI a6] 4).run Tryz.prog w = .ok (zI a4) w:=by kernel_rfl
theorem eqBi_f5 (a0 a1 a2 a3 a4 a5 a6:Int) (w:World):(part 3 #[zI a0,zI a1,zI a2,zI a3,zI a4,zI a5,zI a6] 5).run Tryz.prog w = .ok (zI a5) w:=by kernel_rfl
theorem eqBi_f6 (a0 a1 a2 a3 a4 a5 a6:Int) (w:World):(part 3 #[zI a0,zI a1,zI a2,zI a3,zI a4,zI a5,zI a6] 6).run Tryz.prog w = .ok (zI a6) w:=by kernel_rfl
theorem eqBi (d:Nat) (a0 a1 a2 a3 a4 a5 a6 b0 b1 b2 b3 b4 b5 b6:Int) (w:World):(Op.equalIn (d+2) 68 (.agg #[zI a0,zI a1,zI a2,zI a3,zI a4,zI a5,zI a6]) (.agg #[zI b0,zI b1,zI b2,zI b3,zI b4,zI b5,zI b6])).run Tryz.prog w = .ok (decide (a0=b0∧a1=b1∧a2=b2∧a3=b3∧a4=b4∧a5=b5∧a6=b6)) w:=by
 rw [run_equalIn_agg w (d+1) 68 _ _ (by kernel_rfl) (by kernel_rfl)];simp only [Program.fieldsOf,Tryz.underlying68,Op.eqFields,Sem.run_bind,Sem.run_ite,eqBi_f0,eqBi_f1,eqBi_f2,eqBi_f3,eqBi_f4,eqBi_f5,eqBi_f6,Result.andThen_ok,eqI];by_cases h0:a0=b0
 case neg=>simp [h0]
 subst h0;by_cases h1:a1=b1
 case neg=>simp [h1]
 subst h1;by_cases h2:a2=b2
 case neg=>simp [h2]
 subst h2;by_cases h3:a3=b3
 case neg=>simp [h3]
 subst h3;by_cases h4:a4=b4
 case neg=>simp [h4]
 subst h4;by_cases h5:a5=b5
 case neg=>simp [h5]
 subst h5;by_cases h6:a6=b6
 case neg=>simp [h6]
 subst h6;simp
theorem eqDe_f0 (a0 a1:Int) (w:World):(part 3 #[zI a0,zI a1] 0).run Tryz.prog w = .ok (zI a0) w:=by kernel_rfl
theorem eqDe_f1 (a0 a1:Int) (w:World):(part 3 #[zI a0,zI a1] 1).run Tryz.prog w = .ok (zI a1) w:=by kernel_rfl
theorem eqDe (d:Nat) (a0 a1 b0 b1:Int) (w:World):(Op.equalIn (d+2) 70 (.agg #[zI a0,zI a1]) (.agg #[zI b0,zI b1])).run Tryz.prog w = .ok (decide (a0=b0∧a1=b1)) w:=by
 rw [run_equalIn_agg w (d+1) 70 _ _ (by kernel_rfl) (by kernel_rfl)];simp only [Program.fieldsOf,Tryz.underlying70,Op.eqFields,Sem.run_bind,Sem.run_ite,eqDe_f0,eqDe_f1,Result.andThen_ok,eqI];by_cases h0:a0=b0
 case neg=>simp [h0]
 subst h0;by_cases h1:a1=b1
 case neg=>simp [h1]
 subst h1;simp
theorem eqEv_f0 (a0 a1 a2 a3 a4 a5 a6 a7 a8 a9 a10 a11 a12:Int) (w:World):(part 3 #[zI a0,zI a1,zI a2,zI a3,zI a4,zI a5,zI a6,zI a7,zI a8,zI a9,zI a10,zI a11,zI a12] 0).run Tryz.prog w = .ok (zI a0) w:=by kernel_rfl
theorem eqEv_f1 (a0 a1 a2 a3 a4 a5 a6 a7 a8 a9 a10 a11 a12:Int) (w:World):(part 3 #[zI a0,zI a1,zI a2,zI a3,zI a4,zI a5,zI a6,zI a7,zI a8,zI a9,zI a10,zI a11,zI a12] 1).run Tryz.prog w = .ok (zI a1) w:=by kernel_rfl
theorem eqEv_f2 (a0 a1 a2 a3 a4 a5 a6 a7 a8 a9 a10 a11 a12:Int) (w:World):(part 3 #[zI a0,zI a1,zI a2,zI a3,zI a4,zI a5,zI a6,zI a7,zI a8,zI a9,zI a10,zI a11,zI a12] 2).run Tryz.prog w = .ok (zI a2) w:=by kernel_rfl
theorem eqEv_f3 (a0 a1 a2 a3 a4 a5 a6 a7 a8 a9 a10 a11 a12:Int) (w:World):(part 68 #[zI a0,zI a1,zI a2,zI a3,zI a4,zI a5,zI a6,zI a7,zI a8,zI a9,zI a10,zI a11,zI a12] 3).run Tryz.prog w = .ok (.agg #[zI a3,zI a4,zI a5,zI a6,zI a7,zI a8,zI a9]) w:=by kernel_rfl
theorem eqEv_f10 (a0 a1 a2 a3 a4 a5 a6 a7 a8 a9 a10 a11 a12:Int) (w:World):(part 3 #[zI a0,zI a1,zI a2,zI a3,zI a4,zI a5,zI a6,zI a7,zI a8,zI a9,zI a10,zI a11,zI a12] 10).run Tryz.prog w = .ok (zI a10) w:=by kernel_rfl
theorem eqEv_f11 (a0 a1 a2 a3 a4 a5 a6 a7 a8 a9 a10 a11 a12:Int) (w:World):(part 70 #[zI a0,zI a1,zI a2,zI a3,zI a4,zI a5,zI a6,zI a7,zI a8,zI a9,zI a10,zI a11,zI a12] 11).run Tryz.prog w = .ok (.agg #[zI a11,zI a12]) w:=by kernel_rfl
theorem eqEv (d:Nat) (a0 a1 a2 a3 a4 a5 a6 a7 a8 a9 a10 a11 a12 b0 b1 b2 b3 b4 b5 b6 b7 b8 b9 b10 b11 b12:Int) (w:World):(Op.equalIn (d+3) 72 (.agg #[zI a0,zI a1,zI a2,zI a3,zI a4,zI a5,zI a6,zI a7,zI a8,zI a9,zI a10,zI a11,zI a12]) (.agg #[zI b0,zI b1,zI b2,zI b3,zI b4,zI b5,zI b6,zI b7,zI b8,zI b9,zI b10,zI b11,zI b12])).run Tryz.prog w = .ok (decide (a0=b0∧a1=b1∧a2=b2∧a3=b3∧a4=b4∧a5=b5∧a6=b6∧a7=b7∧a8=b8∧a9=b9∧a10=b10∧a11=b11∧a12=b12)) w:=by
 rw [run_equalIn_agg w (d+2) 72 _ _ (by kernel_rfl) (by kernel_rfl)];simp only [Program.fieldsOf,Tryz.underlying72,Op.eqFields,Sem.run_bind,Sem.run_ite,eqEv_f0,eqEv_f1,eqEv_f2,eqEv_f3,eqEv_f10,eqEv_f11,Result.andThen_ok,eqI,eqBi,eqDe];by_cases h0:a0=b0
 case neg=>simp [h0]
 subst h0;by_cases h1:a1=b1
 case neg=>simp [h1]
 subst h1;by_cases h2:a2=b2
 case neg=>simp [h2]
 subst h2;by_cases h3:a3=b3∧a4=b4∧a5=b5∧a6=b6∧a7=b7∧a8=b8∧a9=b9
 case neg=>
  have h3d:=decide_eq_false h3;have hx:¬ (a0=a0∧a1=a1∧a2=a2∧a3=b3∧a4=b4∧a5=b5∧a6=b6∧a7=b7∧a8=b8∧a9=b9∧a10=b10∧a11=b11∧a12=b12):=fun h=>h3 ⟨h.2.2.2.1,h.2.2.2.2.1,h.2.2.2.2.2.1,h.2.2.2.2.2.2.1,h.2.2.2.2.2.2.2.1,h.2.2.2.2.2.2.2.2.1,h.2.2.2.2.2.2.2.2.2.1⟩;simp only [h3d,decide_eq_false hx];simp;intro e3 e4 e5 e6 e7 e8 e9;exact absurd ⟨e3,e4,e5,e6,e7,e8,e9⟩ h3
 obtain ⟨rfl,rfl,rfl,rfl,rfl,rfl,rfl⟩:=h3;by_cases h10:a10=b10
 case neg=>simp [h10]
 subst h10;by_cases h11:a11=b11
 case neg=>simp [h11]
 subst h11;by_cases h12:a12=b12
 case neg=>simp [h12]
 subst h12;simp
end book
namespace acc
open tar (Du)
open Go.RowKit
def KcOpen:Prop:=∀ (W:World) (m:Int),(Lit.int .i64 m).wf=true→Calls Tryz.prog 115 #[zI m] W fun e w'=>APost W (OpenIs m) e w'
open tar (du0 Came RowD Ld PairT)
theorem open_may {m:Int} (h:0≤m∧m≤49):AMay ⟨m,0,1,0,0,-1,[]⟩:=by
 unfold AMay deb.Mays deb.DFits;simp;omega
theorem kopen:KcOpen:=by
 intro w m hm;have HPM:Hid (∀ W,Calls Tryz.prog 159 #[.agg #[zI m,zI 0,zI 1,zI 0,zI 0,zI (-1),zS]] W fun e w'=>MayPost W ⟨m,0,1,0,0,-1,[]⟩ e w'):=fun W=>pmay ⟨m,0,1,0,0,-1,[]⟩ none 0 0 W (deb.came_nil W);clear hm;obtain ⟨W0,HWW,H0r,H0n,H0B,-⟩:=sh2 w #[zI 0,zI 0,zI 0,zI 0,zI 0,zI 0,zS] 51 #[zI m,zI 0,zI 1,zI 0,zI 0,zI (-1),zS] 51;go_enter Tryz.func115,Tryz.ntmps115;go_upto_region 2 with fail
 rw [HWW.o];clear HWW
 go_wp2_with (first
  | (refine zqw rfl rfl rfl H0r zqu51 ?_)
  | (refine zqw rfl rfl rfl H0n zqu51 ?_)
  | fail)
 refine (HPM.o _).mono ?_;rintro e w1 ⟨r,rfl,hr,hb1⟩;have H1r:=shN H0r hb1;have H1n:=shN H0n hb1;have H1B:=shB H0B hb1;have hsw1:W0.heap.size≤w1.heap.size:=hb1.size;clear hb1 H0r H0n H0B;clear HPM;cases r with
 | false=>
  have HV:Hid (OpenIs m ac0 2):= .inr ⟨fun hh=>Bool.noConfusion (hr.2 (open_may hh)),rfl,rfl⟩;clear hr
  go_wp2_with (first
   | (refine zql rfl rfl rfl rfl zqu51 (by simp [Value.oneCell']) H1r rfl ?_)
   | (refine zqw rfl rfl rfl H1r zqu51 ?_)
   | (refine zqw rfl rfl rfl H1n zqu51 ?_)
   | fail)
  intro w1a hU;have H2r:Hid (Blk w1a (w.heap.size) #[zI 0,zI 0,zI 0,zI 0,zI 0,zI 0,zS] 51):=hU.blk;have H2n:=shK hU H1n (by omega);have H2B:=shV hU H1B (by omega);have hsw1a:w1a.heap.size=w1.heap.size:=hU.size;clear hU H1r H1n H1B;have Rr0:Hid (w1a.cell? ⟨w.heap.size,0,none⟩=some (zI 0)):=H2r.o.cell 0;have Rr1:Hid (w1a.cell? ⟨w.heap.size,1,none⟩=some (zI 0)):=H2r.o.cell 1;have Rr2:Hid (w1a.cell? ⟨w.heap.size,2,none⟩=some (zI 0)):=H2r.o.cell 2;have Rr3:Hid (w1a.cell? ⟨w.heap.size,3,none⟩=some (zI 0)):=H2r.o.cell 3;have Rr4:Hid (w1a.cell? ⟨w.heap.size,4,none⟩=some (zI 0)):=H2r.o.cell 4;have Rr5:Hid (w1a.cell? ⟨w.heap.size,5,none⟩=some (zI 0)):=H2r.o.cell 5;have Rr6:Hid (w1a.cell? ⟨w.heap.size,6,none⟩=some (zS)):=H2r.o.cell 6;go_wp2_with fail;exact bodyPost_ret (v:= .tuple #[.agg #[zI 0,zI 0,zI 0,zI 0,zI 0,zI 0,zS],zI 2]) (by simp [results,Tryz.results115,Rr0.o,Rr1.o,Rr2.o,Rr3.o,Rr4.o,Rr5.o,Rr6.o,go_sem]) rfl ⟨ac0,none,0,0,_,rfl,HV.o,deb.fresh_nil _ _,H2B.o⟩
 | true=>
  have HV:Hid (OpenIs m ⟨m,0,1,0,0,-1,[]⟩ 0):= .inl ⟨(hr.1 rfl).2.1,rfl,rfl⟩;clear hr
  go_wp2_with (first
   | (refine zql rfl rfl rfl rfl zqu51 (by simp [Value.oneCell']) H1r rfl ?_)
   | (refine zqw rfl rfl rfl H1r zqu51 ?_)
   | (refine zqw rfl rfl rfl H1n zqu51 ?_)
   | fail)
  intro w1a hU;have H2r:Hid (Blk w1a (w.heap.size) #[zI m,zI 0,zI 1,zI 0,zI 0,zI (-1),zS] 51):=hU.blk;have H2n:=shK hU H1n (by omega);have H2B:=shV hU H1B (by omega);have hsw1a:w1a.heap.size=w1.heap.size:=hU.size;clear hU H1r H1n H1B;obtain ⟨Rr0,Rr1,Rr2,Rr3,Rr4,Rr5,Rr6⟩:=shc7 H2r;go_wp2_with fail;exact bodyPost_ret (v:= .tuple #[.agg #[zI m,zI 0,zI 1,zI 0,zI 0,zI (-1),zS],zI 0]) (by simp [results,Tryz.results115,Rr0.o,Rr1.o,Rr2.o,Rr3.o,Rr4.o,Rr5.o,Rr6.o,go_sem]) rfl ⟨⟨m,0,1,0,0,-1,[]⟩,none,0,0,_,rfl,HV.o,deb.fresh_nil _ _,H2B.o⟩
end acc
namespace vnd
open book (Ev ev0 Cm cm0 So so0 Sees)
open acc (Ac Tm Bi)
open ora (Pr)
open cell (Wr RowU)
open rcp (Rc rc0)
open Go.RowKit
def KvLoad:Prop:=∀ (W:World) (t:Tm) (pt:Option Addr) (lt ct:Nat) (a:Option Addr) (n cap:Nat) (c:List Int),acc.TCame W t pt lt ct→Dk W a n cap c→Calls Tryz.prog 15 #[t.v pt lt ct,.slice a n cap] W fun e w'=>LoadPost W t c e w'
end vnd
namespace words
open Go.RowKit
theorem cutWord_any (B:Nat) (n:Int) (w:World) (hc:w.cell? ⟨B,0,none⟩=some (.int .u64 n)) (hf:w.frozen? ⟨B,0,none⟩=false) :
  Calls Tryz.prog 131 #[.pointer (some ⟨B,0,none⟩)] w fun e w'=>e = .returned (.int .u32 (n % 4294967296))∧w'=w.setCell ⟨B,0,none⟩ (.int .u64 (n / 4294967296)):=by
 go_enter Tryz.func131,Tryz.ntmps131;go_wp2;go_ret;exact ⟨rfl,rfl⟩
theorem timesStep_any (B M:Nat) (n x m:Int) (w:World) (hc:w.cell? ⟨B,0,none⟩=some (.int .u64 n)) (hf:w.frozen? ⟨B,0,none⟩=false) (hm:w.cell? ⟨M,0,none⟩=some (.int .u32 m)) (h0:0≤n) (h1:n<4294967296) (x0:0≤x) (x1:x<4294967296) (m0:0≤m) (m1:m<4294967296) :
  Calls Tryz.prog 130 #[.int .u32 x,.pointer (some ⟨B,0,none⟩),.pointer (some ⟨M,0,none⟩)] w fun e w'=>e = .returned (.int .u32 ((n+x*m) % 4294967296))∧Acc w w' B (.int .u64 ((n+x*m) / 4294967296)):=by
 have hA:Acc w w B (.int .u64 n):=Acc.refl hc hf;have HA:Hid (Acc w w B (.int .u64 n)):=hA;obtain ⟨p1,p2⟩:=prod_bd x0 x1 m0 m1;clear hA;go_enter Tryz.func130,Tryz.ntmps130;go_wp2_with fail;refine (cutWord_any B (n+x*m) _ (by apply World.cell?_setCell_same;exact hc) (by rw [World.frozen?_setCell];exact hf)).mono ?_;rintro e w' ⟨rfl,rfl⟩;go_wp2_with fail;go_ret;exact ⟨rfl,(HA.o.set _).set _⟩
end words
namespace met
open Go.RowKit ora
def Alive (w:World) (a:Option Addr):Prop:=∀ y,a=some y→y.block<w.heap.size
theorem Alive.none (w:World):Alive w none:=fun y h=>by cases h
end met
namespace rct
open Go.RowKit
theorem met_tail {P:Program} {x:String × DataW Unit} {rest:List (String × DataW Unit)} {W:World} (h:laidMet P (x :: rest) W):laidMet P rest W:=by
 obtain ⟨ps,hv,hn,hc⟩:=h;obtain ⟨g',t',cs,fuel,p,q,hg',ht',hvar,hd,hr,rfl⟩:=hv;exact ⟨q,hr,(List.nodup_append.1 hn).2.1,fun b off hm=>hc b off (List.mem_append_right _ hm)⟩
end rct
end Go.Proofs.YtnpblpbohcegoaaGreatDoor
