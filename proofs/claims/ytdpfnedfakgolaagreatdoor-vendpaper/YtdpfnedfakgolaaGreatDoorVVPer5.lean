import Derived.Test.YtdpfnedfakgolaaGreatDoorVVPer3
import Derived.Test.YtdpfnedfakgolaaGreatDoorVVPer4
set_option linter.unusedVariables false
set_option linter.unusedSimpArgs false
set_option maxHeartbeats 4000000
set_option maxRecDepth 100000
namespace Go.Proofs.YtdpfnedfakgolaaGreatDoor
namespace acc
open tar (Du du0 Right MostOf cost)
open deb (sumD recK ageAll)
structure Ac where
 me:Int
 rv:Int
 nx:Int
 mo:Int
 bo:Int
 fr:Int
 ds:List Du
def ac0:Ac:=⟨0,0,0,0,0,0,[]⟩
structure Tm where
 ts:List Du
 ff:Int
 fb:Int
 db:Int
 al:Int
structure Bi where
 id:Int
 te:Int
 de:Int
 fe:Int
 pr:Int
 ch:Int
 un:Int
def bi0:Bi:=⟨0,0,0,0,0,0,0⟩
def AMay (a:Ac):Prop:=deb.Mays a.ds∧(0≤a.me∧a.me≤49)∧(0≤a.rv∧a.rv≤15)∧(1≤a.nx∧a.nx≤1048576)∧(0≤a.mo∧a.mo≤2399)∧(0≤a.bo∧a.bo≤10000000)∧-1≤a.fr∧a.fr≤a.mo
def TOk (t:Tm):Prop:=(0≤t.ff∧t.ff≤100000)∧(0≤t.fb∧t.fb≤10000)∧(0≤t.db∧t.db≤10000)∧0≤t.al∧t.al≤2097151
def TRight (t:Tm):Prop:=Right t.ts∧TOk t
def TFault (t:Tm) (e:Int):Prop:=(¬ Right t.ts∧tar.FaultIs t.ts e)∨(Right t.ts∧¬ TOk t∧e=2)∨(TRight t∧e=0)
theorem TFault.one {t:Tm} {e f:Int} (h:TFault t e) (h':TFault t f):e=f:=by
 rcases h with ⟨a,b⟩ | ⟨a,b,rfl⟩ | ⟨⟨a,b⟩,rfl⟩ <;> rcases h' with ⟨a',b'⟩ | ⟨a',b',rfl⟩ | ⟨⟨a',b'⟩,rfl⟩ <;> first | rfl | exact b.one b' | contradiction
theorem TFault.ok {t:Tm} {e:Int} (h:TFault t e):e=0↔TRight t:=by
 rcases h with ⟨a,b⟩ | ⟨a,b,rfl⟩ | ⟨h,rfl⟩
 ·exact ⟨fun h=>absurd (b.ok.1 h) a,fun h=>absurd h.1 a⟩
 ·exact ⟨fun h=>absurd h (by decide),fun h=>absurd h.2 b⟩
 ·exact ⟨fun _=>h,fun _=>rfl⟩
def OpenIs (m:Int) (b:Ac) (e:Int):Prop:=((0≤m∧m≤49)∧b=⟨m,0,1,0,0,-1,[]⟩∧e=0)∨(¬ (0≤m∧m≤49)∧b=ac0∧e=2)
theorem OpenIs.one {m e e':Int} {b b':Ac} (h:OpenIs m b e) (h':OpenIs m b' e'):b=b'∧e=e':=by
 rcases h with ⟨a,rfl,rfl⟩ | ⟨a,rfl,rfl⟩ <;> rcases h' with ⟨a',rfl,rfl⟩ | ⟨a',rfl,rfl⟩ <;> first | exact ⟨rfl,rfl⟩ | contradiction
def rolled (a:Ac) (m:Int):Ac:=if m=a.mo then a else ⟨a.me,a.rv,a.nx,m,0,a.fr,ageAll a.ds (m - a.mo).toNat⟩
def RMay (a:Ac) (m:Int):Prop:=(0≤m∧m≤2399)∧a.mo≤m
def RErr (a:Ac) (m e:Int):Prop:=(¬ (0≤m∧m≤2399)∧e=2)∨((0≤m∧m≤2399)∧m<a.mo∧e=23)
theorem RErr.one {a:Ac} {m e f:Int} (h:RErr a m e) (h':RErr a m f):e=f:=by
 rcases h with ⟨p,rfl⟩ | ⟨p,q,rfl⟩ <;> rcases h' with ⟨p',rfl⟩ | ⟨p',q',rfl⟩ <;> first | rfl | contradiction
theorem RErr.ne {a:Ac} {m e:Int} (h:RErr a m e):e≠0:=by rcases h with ⟨_,rfl⟩ | ⟨_,_,rfl⟩ <;> decide
theorem rolled_may {a:Ac} {m:Int} (h:AMay a) (hr:RMay a m):AMay (rolled a m):=by
 obtain ⟨h1,h2,h3,h4,h5,h6,h7⟩:=h;obtain ⟨⟨r1,r2⟩,r3⟩:=hr;unfold rolled;by_cases e:m=a.mo
 ·rw [if_pos e];exact ⟨h1,h2,h3,h4,h5,h6,h7⟩
 ·rw [if_neg e];exact ⟨deb.ageAll_mays h1 _,h2,h3,h4,⟨r1,r2⟩,⟨(by decide:(0:Int)≤0),(by decide:(0:Int)≤10000000)⟩,h7.1,by show a.fr≤m;omega⟩
theorem rolled_same (a:Ac) (m:Int):(rolled a m).me=a.me∧(rolled a m).rv=a.rv∧(rolled a m).nx=a.nx∧(rolled a m).mo=m∧(rolled a m).fr=a.fr:=by
 unfold rolled;by_cases e:m=a.mo
 ·rw [if_pos e];exact ⟨rfl,rfl,rfl,e.symm,rfl⟩
 ·rw [if_neg e];exact ⟨rfl,rfl,rfl,rfl,rfl⟩
def share (t:Tm) (te:Int):Int:=te*t.db / 10000
def paid (a:Ac) (t:Tm) (te m:Int):Int:=min (share t te) (sumD (rolled a m).ds)
def fee (t:Tm) (te:Int):Int:=t.ff+te*t.fb / 10000
def rest (a:Ac) (t:Tm) (te m:Int):Int:=te - paid a t te m - fee t te
def Ready (a:Ac) (t:Tm) (m:Int):Prop:=AMay a∧TRight t∧RMay a m
def Refused (a:Ac) (t:Tm) (m e:Int):Prop:=(¬ AMay a∧e=5)∨(AMay a∧¬ TRight t∧TFault t e)∨(AMay a∧TRight t∧¬ RMay a m∧RErr a m e)
theorem Refused.one {a:Ac} {t:Tm} {m e f:Int} (h:Refused a t m e) (h':Refused a t m f):e=f:=by
 rcases h with ⟨p,rfl⟩ | ⟨p,q,r⟩ | ⟨p,q,r,s⟩ <;> rcases h' with ⟨p',rfl⟩ | ⟨p',q',r'⟩ | ⟨p',q',r',s'⟩ <;> first | rfl | exact r.one r' | exact s.one s' | contradiction
theorem Refused.not {a:Ac} {t:Tm} {m e:Int} (h:Refused a t m e):¬ Ready a t m:=fun hr=>by
 rcases h with ⟨p,_⟩ | ⟨_,q,_⟩ | ⟨_,_,r,_⟩
 ·exact p hr.1
 ·exact q hr.2.1
 ·exact r hr.2.2
def TenOk (a:Ac) (t:Tm) (te m:Int):Prop:=(1≤te∧te≤100000000)∧0≤rest a t te m∧¬ MostOf t.ts (rolled a m).bo (rest a t te m) 0
def sold (a:Ac) (t:Tm) (te m u:Int):Ac:=⟨a.me,a.rv,a.nx+1,m,(rolled a m).bo+u,a.fr,recK (rolled a m).ds (share t te) (rolled a m).ds.length⟩
def bill (a:Ac) (t:Tm) (te m u:Int):Bi:=⟨a.nx,te,paid a t te m,fee t te,cost t.ts (rolled a m).bo ((rolled a m).bo+u),rest a t te m - cost t.ts (rolled a m).bo ((rolled a m).bo+u),u⟩
def SellIs (a:Ac) (t:Tm) (te m:Int) (b:Ac) (l:Bi) (e:Int):Prop:=
 (Refused a t m e∧b=ac0∧l=bi0)∨(Ready a t m∧¬ TenOk a t te m∧e=19∧b=ac0∧l=bi0)∨(Ready a t m∧TenOk a t te m∧¬ a.nx≤1048575∧e=20∧b=ac0∧l=bi0)∨(Ready a t m∧TenOk a t te m∧a.nx≤1048575∧e=0∧∃ u,MostOf t.ts (rolled a m).bo (rest a t te m) u∧b=sold a t te m u∧l=bill a t te m u)
theorem SellIs.one {a:Ac} {t:Tm} {te m e e':Int} {b b':Ac} {l l':Bi} (h:SellIs a t te m b l e) (h':SellIs a t te m b' l' e'):b=b'∧l=l'∧e=e':=by
 rcases h with ⟨p,rfl,rfl⟩ | ⟨p,q,rfl,rfl,rfl⟩ | ⟨p,q,r,rfl,rfl,rfl⟩ | ⟨p,q,r,rfl,u,hu,rfl,rfl⟩ <;> rcases h' with ⟨p',rfl,rfl⟩ | ⟨p',q',rfl,rfl,rfl⟩ | ⟨p',q',r',rfl,rfl,rfl⟩ | ⟨p',q',r',rfl,u',hu',rfl,rfl⟩ <;> first | exact ⟨rfl,rfl,rfl⟩ | exact ⟨rfl,rfl,p.one p'⟩ | exact absurd p' p.not | exact absurd p p'.not | contradiction | skip
 obtain rfl:=hu.one p.2.1.1 (rolled_may p.1 p.2.2).2.2.2.2.2.1.1 hu';exact ⟨rfl,rfl,rfl⟩
def granted (a:Ac) (m:Int):Ac:=⟨a.me,a.rv,a.nx+1,m,(rolled a m).bo,m,(rolled a m).ds⟩
def GrantIs (a:Ac) (t:Tm) (m:Int) (b:Ac) (l:Bi) (e:Int):Prop:=
 (Refused a t m e∧b=ac0∧l=bi0)∨(Ready a t m∧t.al=0∧e=22∧b=ac0∧l=bi0)∨(Ready a t m∧¬ t.al=0∧a.fr=m∧e=21∧b=ac0∧l=bi0)∨(Ready a t m∧¬ t.al=0∧¬ a.fr=m∧¬ a.nx≤1048575∧e=20∧b=ac0∧l=bi0)∨(Ready a t m∧¬ t.al=0∧¬ a.fr=m∧a.nx≤1048575∧e=0∧b=granted a m∧l=⟨a.nx,0,0,0,0,0,t.al⟩)
theorem GrantIs.one {a:Ac} {t:Tm} {m e e':Int} {b b':Ac} {l l':Bi} (h:GrantIs a t m b l e) (h':GrantIs a t m b' l' e'):b=b'∧l=l'∧e=e':=by
 rcases h with ⟨p,rfl,rfl⟩ | ⟨p,q,rfl,rfl,rfl⟩ | ⟨p,q,r,rfl,rfl,rfl⟩ | ⟨p,q,r,s,rfl,rfl,rfl⟩ | ⟨p,q,r,s,rfl,rfl,rfl⟩ <;> rcases h' with ⟨p',rfl,rfl⟩ | ⟨p',q',rfl,rfl,rfl⟩ | ⟨p',q',r',rfl,rfl,rfl⟩ | ⟨p',q',r',s',rfl,rfl,rfl⟩ | ⟨p',q',r',s',rfl,rfl,rfl⟩ <;> first | exact ⟨rfl,rfl,rfl⟩ | exact ⟨rfl,rfl,p.one p'⟩ | exact absurd p' p.not | exact absurd p p'.not | contradiction
def OweIs (a:Ac) (d:Du) (b:Ac) (e:Int):Prop:=
 (¬ AMay a∧b=ac0∧e=5)∨(AMay a∧¬ ((1≤d.a∧d.a≤1000000000)∧0≤d.b∧d.b≤10000)∧b=ac0∧e=2)∨(AMay a∧((1≤d.a∧d.a≤1000000000)∧0≤d.b∧d.b≤10000)∧¬ a.ds.length<8∧b=ac0∧e=16)∨(AMay a∧((1≤d.a∧d.a≤1000000000)∧0≤d.b∧d.b≤10000)∧a.ds.length<8∧b=⟨a.me,a.rv,a.nx,a.mo,a.bo,a.fr,a.ds++[d]⟩∧e=0)
theorem OweIs.one {a:Ac} {d:Du} {e e':Int} {b b':Ac} (h:OweIs a d b e) (h':OweIs a d b' e'):b=b'∧e=e':=by
 rcases h with ⟨p,rfl,rfl⟩ | ⟨p,q,rfl,rfl⟩ | ⟨p,q,r,rfl,rfl⟩ | ⟨p,q,r,rfl,rfl⟩ <;> rcases h' with ⟨p',rfl,rfl⟩ | ⟨p',q',rfl,rfl⟩ | ⟨p',q',r',rfl,rfl⟩ | ⟨p',q',r',rfl,rfl⟩ <;> first | exact ⟨rfl,rfl⟩ | contradiction
def RekeyIs (a:Ac) (b:Ac) (l:Bi) (e:Int):Prop:=
 (¬ AMay a∧b=ac0∧l=bi0∧e=5)∨(AMay a∧¬ a.rv<15∧b=ac0∧l=bi0∧e=24)∨(AMay a∧a.rv<15∧¬ a.nx≤1048575∧b=ac0∧l=bi0∧e=20)∨(AMay a∧a.rv<15∧a.nx≤1048575∧b=⟨a.me,a.rv+1,a.nx+1,a.mo,a.bo,a.fr,a.ds⟩∧l=⟨a.nx,0,0,0,0,0,0⟩∧e=0)
theorem RekeyIs.one {a:Ac} {e e':Int} {b b':Ac} {l l':Bi} (h:RekeyIs a b l e) (h':RekeyIs a b' l' e'):b=b'∧l=l'∧e=e':=by
 rcases h with ⟨p,rfl,rfl,rfl⟩ | ⟨p,q,rfl,rfl,rfl⟩ | ⟨p,q,r,rfl,rfl,rfl⟩ | ⟨p,q,r,rfl,rfl,rfl⟩ <;> rcases h' with ⟨p',rfl,rfl,rfl⟩ | ⟨p',q',rfl,rfl,rfl⟩ | ⟨p',q',r',rfl,rfl,rfl⟩ | ⟨p',q',r',rfl,rfl,rfl⟩ <;> first | exact ⟨rfl,rfl,rfl⟩ | contradiction
open tar (Came)
open Go.RowKit
def Ac.cs (x:Ac) (p:Option Addr) (len cap:Nat):Array Value:=#[zI x.me,zI x.rv,zI x.nx,zI x.mo,zI x.bo,zI x.fr,.slice p len cap]
def Ac.v (x:Ac) (p:Option Addr) (len cap:Nat):Value:= .agg (x.cs p len cap)
def Tm.v (t:Tm) (p:Option Addr) (len cap:Nat):Value:= .agg #[.slice p len cap,zI t.ff,zI t.fb,zI t.db,zI t.al]
def Bi.v (b:Bi):Value:= .agg #[zI b.id,zI b.te,zI b.de,zI b.fe,zI b.pr,zI b.ch,zI b.un]
def wf6 (x:Ac):Prop:=(Lit.int .i64 x.me).wf=true∧(Lit.int .i64 x.rv).wf=true∧(Lit.int .i64 x.nx).wf=true∧(Lit.int .i64 x.mo).wf=true∧(Lit.int .i64 x.bo).wf=true∧(Lit.int .i64 x.fr).wf=true
def wf4 (t:Tm):Prop:=(Lit.int .i64 t.ff).wf=true∧(Lit.int .i64 t.fb).wf=true∧(Lit.int .i64 t.db).wf=true∧(Lit.int .i64 t.al).wf=true
structure ACame (w:World) (x:Ac) (p:Option Addr) (len cap:Nat):Prop where
 ds:Came w p len cap x.ds
 wf:wf6 x
structure TCame (w:World) (t:Tm) (p:Option Addr) (len cap:Nat):Prop where
 ts:Came w p len cap t.ts
 wf:wf4 t
theorem ACame.below {w w':World} {x:Ac} {p:Option Addr} {len cap:Nat} (h:ACame w x p len cap) (hb:Below w.heap.size w w'):ACame w' x p len cap:=⟨h.ds.below hb,h.wf⟩
theorem TCame.below {w w':World} {t:Tm} {p:Option Addr} {len cap:Nat} (h:TCame w t p len cap) (hb:Below w.heap.size w w'):TCame w' t p len cap:=⟨h.ts.below hb,h.wf⟩
def APost (w:World) (R:Ac→Int→Prop) (e:Ending) (w':World):Prop:=∃ b p len cap f,e = .returned (.tuple #[Ac.v b p len cap,zI f])∧R b f∧deb.Fresh w' w.heap.size p len cap b.ds∧Below w.heap.size w w'
def BPost (w:World) (R:Ac→Bi→Int→Prop) (e:Ending) (w':World):Prop:=∃ b l p len cap f,e = .returned (.tuple #[Ac.v b p len cap,Bi.v l,zI f])∧R b l f∧deb.Fresh w' w.heap.size p len cap b.ds∧Below w.heap.size w w'
end acc
section
open Go.RowKit
theorem wp_runOp {P:Program} {o:Oper} {a:Act} {w w':World} {v:Value} {K:Act→World→Prop} {Q:Exit→Act→World→Prop} (d:Nat) (hd:o.dst=some d) (hrun:(execOp a.eval o).run P w = .ok (.value v) w') (h:K (a.put (some d) v) w'):o.wp P a w K Q:=by
 rw [← hd] at h;unfold Oper.wp;rw [hrun,Oper.upon_value];exact h
theorem wp_callOp {P:Program} {o:Oper} {a:Act} {w:World} {f:FuncId} {args:Array Value} {R:Ending→World→Prop} {K:Act→World→Prop} {Q:Exit→Act→World→Prop} (d:Nat) (hd:o.dst=some d) (hrun:(execOp a.eval o).run P w = .ok (.enter f args) w) (hc:Calls P f args w R)
  (h:∀ e w',R e w'→∃ v,e = .returned v∧K (a.put (some d) v) w'):o.wp P a w K Q:=by
 rw [← hd] at h;unfold Oper.wp;rw [hrun,Oper.upon_enter];refine hc.mono fun e w' hr=>?_;obtain ⟨v,rfl,hk⟩:=h e w' hr;exact hk
end
namespace token
open Go.ChangeShapes Go.WideShapes Go.ChangeAt Go.RowKit Go.Deep
def Eight (w:World) (g:Nat) (a0 a1 a2 a3 a4 a5 a6 a7:Int):Prop:=
 ∃ t fr,w.heap[g]?=some (.cells #[zI a0,zI a1,zI a2,zI a3,zI a4,zI a5,zI a6,zI a7] t fr)
structure TTab (w:World):Prop where
 places:Eight w 0 57 3 37 20 16 21 0 16
 amounts:Eight w 1 1 2097151 0 0 1 15 0 0
theorem Eight.lt {w:World} {g:Nat} {a0 a1 a2 a3 a4 a5 a6 a7:Int} (h:Eight w g a0 a1 a2 a3 a4 a5 a6 a7):g<w.heap.size:=by
 obtain ⟨t,fr,h⟩:=h;by_cases hh:g<w.heap.size
 ·exact hh
 ·rw [Array.getElem?_eq_none (by omega)] at h;cases h
theorem Eight.below {w w':World} {g:Nat} {a0 a1 a2 a3 a4 a5 a6 a7:Int} (h:Eight w g a0 a1 a2 a3 a4 a5 a6 a7) (hb:Below w.heap.size w w'):Eight w' g a0 a1 a2 a3 a4 a5 a6 a7:=by
 have hl:=h.lt;obtain ⟨t,fr,h⟩:=h;exact ⟨t,fr,by rw [hb.block g hl];exact h⟩
theorem TTab.below {w w':World} (h:TTab w) (hb:Below w.heap.size w w'):TTab w':=⟨h.places.below hb,h.amounts.below hb⟩
theorem list8 {α:Type} (l:List α) (h:l.length=8):∃ a b c d e f g i,l=[a,b,c,d,e,f,g,i]:=by
 match l,h with
 | [a,b,c,d,e,f,g,i],_=>exact ⟨a,b,c,d,e,f,g,i,rfl⟩
theorem two_of {H:Type} {enc:TypeId × Value→H} {P:Program} {w:World} {base:Nat} {spare:Nat→Bool} {held:Bool} {fuel:Nat} {t e:TypeId} {f0 f1:Field} {c0 c1:Value} {a0 a1:Int} {p:List MemPlace}
  (ht:P.underlying t=some (.struct #[f0,f1])) (hone:oneCellFields P #[f0,f1]=true) (he:P.underlying e=some (.int .i64)) (e0:f0.type=e) (e1:f1.type=e)
  (h:DataW.trod enc P w base spare held fuel t [c0,c1]=some (.agg [.lit (.int .i64 a0),.lit (.int .i64 a1)],p)):c0=zI a0∧c1=zI a1:=by
 obtain ⟨y0,y1,n,hx,_,h0,h1⟩:=trod_struct2 ht h;obtain ⟨o0,k0⟩:=hone_of hone 0 f0 rfl;obtain ⟨o1,k1⟩:=hone_of hone 1 f1 rfl;rw [o0,k0,e0] at h0;rw [o1,k1,e1] at h1;obtain ⟨x0,u0,rfl,_⟩:=DataW.trod_int he h0;obtain ⟨x1,u1,rfl,_⟩:=DataW.trod_int he h1;simp at u0 u1 hx;obtain ⟨⟨rfl,rfl⟩,_⟩:=hx;exact ⟨u0,u1⟩
theorem trod_array4w {H:Type} {enc:TypeId × Value→H} {P:Program} {w:World} {base:Nat} {spare:Nat→Bool} {held:Bool} {t e:TypeId} {fuel:Nat} {cs:List Value} {x:DataW H × List MemPlace} (ht:P.underlying t=some (.array 4 e)) (hce:P.cellsOf e=2) (hct:P.cellsOf t=8)
  (h:DataW.trod enc P w base spare held fuel t cs=some x) :
  cs.length=8∧∃ y0 y1 y2 y3 n,x=(.agg [y0.1,y1.1,y2.1,y3.1],y0.2++(y1.2++(y2.2++y3.2)))∧DataW.trod enc P w base spare held n e (cs.take 2)=some y0∧DataW.trod enc P w base spare held n e ((cs.drop 2).take 2)=some y1∧DataW.trod enc P w base spare held n e ((cs.drop 4).take 2)=some y2∧DataW.trod enc P w base spare held n e ((cs.drop 6).take 2)=some y3:=by
 cases fuel with
 | zero=>simp [DataW.trod] at h
 | succ n=>
  unfold DataW.trod at h;rw [ht] at h;have r4:List.range 4=[0,1,2,3]:=rfl;simp [r4,hce,hct] at h;obtain ⟨hl,h⟩:=h;refine ⟨hl,?_⟩;cases h0:DataW.trod enc P w base spare held n e (cs.take 2) with
  | none=>simp [h0] at h
  | some y0=>
   cases h1:DataW.trod enc P w base spare held n e ((cs.drop 2).take 2) with
   | none=>simp [h0,h1] at h
   | some y1=>
    cases h2:DataW.trod enc P w base spare held n e ((cs.drop 4).take 2) with
    | none=>simp [h0,h1,h2] at h
    | some y2=>
     cases h3:DataW.trod enc P w base spare held n e ((cs.drop 6).take 2) with
     | none=>simp [h0,h1,h2,h3] at h
     | some y3=>
      simp [h0,h1,h2,h3] at h;exact ⟨y0,y1,y2,y3,n,by rw [← h],h0,h1,h2,h3⟩
theorem eight_of {W:World} {name:String} {rest:List (String × DataW Unit)} {g:Nat} {t e z:TypeId} {f0 f1:Field} {a0 a1 a2 a3 a4 a5 a6 a7:Int}
  (hg:Tryz.prog.globalNamed name=some g) (hty:(Tryz.prog.globals[g]?).map (·.type)=some t) (ht:Tryz.prog.underlying t=some (.array 4 e)) (hce:Tryz.prog.cellsOf e=2) (hct:Tryz.prog.cellsOf t=8)
  (hs:Tryz.prog.underlying e=some (.struct #[f0,f1])) (hone:oneCellFields Tryz.prog #[f0,f1]=true) (hz:Tryz.prog.underlying z=some (.int .i64)) (e0:f0.type=z) (e1:f1.type=z)
  (h:laidMet Tryz.prog ((name,.agg [.agg [.lit (.int .i64 a0),.lit (.int .i64 a1)],.agg [.lit (.int .i64 a2),.lit (.int .i64 a3)],.agg [.lit (.int .i64 a4),.lit (.int .i64 a5)],.agg [.lit (.int .i64 a6),.lit (.int .i64 a7)]]) :: rest) W):Eight W g a0 a1 a2 a3 a4 a5 a6 a7:=by
 obtain ⟨ps,⟨g',t',cs,fuel,p,q,hg',ht',hvar,hd,_,_⟩,_⟩:=h;obtain rfl:=Option.some.inj (hg.symm.trans hg');obtain rfl:=Option.some.inj (hty.symm.trans ht');obtain ⟨hl,y0,y1,y2,y3,n,hx,h0,h1,h2,h3⟩:=trod_array4w ht hce hct hd;simp only [Prod.mk.injEq,DataW.agg.injEq,List.cons.injEq,and_true] at hx;obtain ⟨⟨x0,x1,x2,x3⟩,_⟩:=hx;obtain ⟨y0,q0⟩:=y0;obtain ⟨y1,q1⟩:=y1;obtain ⟨y2,q2⟩:=y2;obtain ⟨y3,q3⟩:=y3;simp only at x0 x1 x2 x3;subst x0 x1 x2 x3;obtain ⟨c0,c1,c2,c3,c4,c5,c6,c7,hcs⟩:=list8 _ hl;rw [hcs] at h0 h1 h2 h3;obtain ⟨rfl,rfl⟩:=two_of hs hone hz e0 e1 h0;obtain ⟨rfl,rfl⟩:=two_of hs hone hz e0 e1 h1;obtain ⟨rfl,rfl⟩:=two_of hs hone hz e0 e1 h2;obtain ⟨rfl,rfl⟩:=two_of hs hone hz e0 e1 h3;unfold World.var? at hvar;rw [hg] at hvar;simp only [Option.bind_some] at hvar;split at hvar
 ·rename_i cs' t' fr hc
  have hcs':=Option.some.inj hvar;refine ⟨t',fr,?_⟩;rw [hc,hcs']
  congr 2
  first
  | (cases cs;simp_all)
  | simp_all
 ·cases hvar
end token
namespace ora
open Go.RowKit
open Go.ChangeMaps (setBlock heap_setBlock_same heap_setBlock_other)
def ent (p:Pr) (i:Nat):MapEntry:={ key:= .agg #[zI p.m,zI p.r,zI p.b],val:=zI p.t,born:=i }
def ents:List Pr→Nat→List MapEntry
 | [],_=>[]
 | p :: l,i=>ent p i :: ents l (i+1)
theorem ents_app (l:List Pr) (p:Pr) (i:Nat):ents (l++[p]) i=ents l i++[ent p (i+l.length)]:=by
 induction l generalizing i with
 | nil=>rfl
 | cons x l ih=>simp only [List.cons_append,ents,ih,List.length_cons];rw [show i+1+l.length=i+(l.length+1) by omega]
def Mp (w:World) (B:Nat) (l:List Pr):Prop:=w.heap[B]?=some (.map (ents l 0).toArray l.length)
theorem Mp.lt {w:World} {B:Nat} {l:List Pr} (h:Mp w B l):B<w.heap.size:=by
 unfold Mp at h;by_cases hh:B<w.heap.size
 ·exact hh
 ·rw [Array.getElem?_eq_none (by omega)] at h;cases h
theorem Mp.below {w w':World} {B:Nat} {l:List Pr} (h:Mp w B l) (hb:Below w.heap.size w w'):Mp w' B l:=by
 have hl:=h.lt;unfold Mp at *;rw [hb.block B hl];exact h
theorem Mp.new (w:World):Mp (w.alloc (.map #[] 0)) w.heap.size []:=by
 show (w.heap.push _)[w.heap.size]?=_;rw [Array.getElem?_push_size];rfl
def look:List Pr→Int→Int→Int→Option Int
 | [],_,_,_=>none
 | p :: l,m,r,b=>if m=p.m∧r=p.r∧b=p.b then some p.t else look l m r b
theorem look_no {l:List Pr} {m r b:Int} (h:No l m r b):look l m r b=none:=by
 induction l with
 | nil=>rfl
 | cons p l ih=>
  have h0:=h 0 (by simp);rw [look,if_neg (fun e=>h0 ⟨e.1.symm,e.2.1.symm,e.2.2.symm⟩)];exact ih fun j hj=>h (j+1) (by simpa using hj)
theorem look_at {l:List Pr} {m r b:Int} {i:Nat} (h:At l m r b i):look l m r b=some (l.getD i pr0).t:=by
 induction l generalizing i with
 | nil=>exact absurd h.lt (Nat.not_lt_zero _)
 | cons p l ih=>
  cases i with
  | zero=>
   have h0:=h.is;rw [look,if_pos ⟨h0.1.symm,h0.2.1.symm,h0.2.2.symm⟩];rfl
  | succ i=>
   have h0:=h.first 0 (by omega);rw [look,if_neg (fun e=>h0 ⟨e.1.symm,e.2.1.symm,e.2.2.symm⟩)];exact ih ⟨by have:=h.lt;simpa using this,h.is,fun j hj=>h.first (j+1) (by omega)⟩
theorem look_take {l:List Pr} {m r b:Int} {k:Nat} (hk:k≤l.length):look (l.take k) m r b=none↔∀ j,j<k→¬ (l.getD j pr0).key m r b:=by
 have hg:∀ j,j<k→(l.take k).getD j pr0=l.getD j pr0:=fun j hj=>by simp [List.getD,List.getElem?_take,hj]
 rcases find_or (l.take k) m r b with ⟨i,hi⟩ | hn
 ·constructor
  ·intro h;rw [look_at hi] at h;cases h
  ·intro h;have hl:=hi.lt;rw [List.length_take] at hl;have:=hi.is;rw [hg i (by omega)] at this;exact absurd this (h i (by omega))
 ·constructor
  ·intro _ j hj;have:=hn j (by rw [List.length_take];omega)
   rwa [hg j hj] at this
  ·intro _;exact look_no hn
theorem skq (d:Nat) (a b:Int) (w:World):(Op.equalIn (d+1) 3 (zI a) (zI b)).run Tryz.prog w = .ok (a == b) w:=run_equalIn_int w d _ _ _ a b Tryz.underlying3
theorem sk0 (s t c:Int) (w:World):(part 3 #[zI s,zI t,zI c] 0).run Tryz.prog w = .ok (zI s) w:=by kernel_rfl
theorem sk1 (s t c:Int) (w:World):(part 3 #[zI s,zI t,zI c] 1).run Tryz.prog w = .ok (zI t) w:=by kernel_rfl
theorem sk2 (s t c:Int) (w:World):(part 3 #[zI s,zI t,zI c] 2).run Tryz.prog w = .ok (zI c) w:=by kernel_rfl
theorem eqSub (m r b:Int) (p:Pr) (w:World) :
  (Op.equal 106 (.agg #[zI m,zI r,zI b]) (.agg #[zI p.m,zI p.r,zI p.b])).run Tryz.prog w = .ok (decide (m=p.m∧r=p.r∧b=p.b)) w:=by
 unfold Op.equal;rw [show Op.maxDepth=9999+1 from rfl,run_equalIn_agg w 9999 106 _ _ (by kernel_rfl) (by kernel_rfl)];simp only [Program.fieldsOf,Tryz.underlying106,Op.eqFields,Sem.run_bind,Sem.run_ite];by_cases h1:m=p.m <;> by_cases h2:r=p.r <;> by_cases h3:b=p.b <;> simp [sk0,sk1,sk2,show (9999:Nat)=9998+1 from rfl,skq,h1,h2,h3]
theorem chk (em:Bool) (m r b:Int) (w:World):(Instr.checkKey em 10000 106 (.agg #[zI m,zI r,zI b])).run Tryz.prog w = .ok () w:=by kernel_rfl
theorem asking (m r b:Int) (w:World):∀ (l:List Pr) (i j:Nat),(look l m r b=none→(Instr.findAsking 106 (.agg #[zI m,zI r,zI b]) (ents l i) j).run Tryz.prog w = .ok none w) ∧
  ∀ t,look l m r b=some t→∃ q,(Instr.findAsking 106 (.agg #[zI m,zI r,zI b]) (ents l i) j).run Tryz.prog w = .ok (some (q,zI t)) w
 | [],i,j=>⟨fun _=>rfl,fun t h=>by cases h⟩
 | p :: l,i,j=>by
  have ih:=asking m r b w l (i+1) (j+1);unfold look;by_cases hp:m=p.m∧r=p.r∧b=p.b
  ·refine ⟨fun h=>(by rw [if_pos hp] at h;cases h),fun t h=>⟨j,?_⟩⟩;rw [if_pos hp] at h;cases h;simp [ents,Instr.findAsking,ent,eqSub,hp,Sem.run_bind]
  ·rw [if_neg hp]
   have e:∀ X,(Instr.findAsking 106 (.agg #[zI m,zI r,zI b]) (ents (p :: l) i) j).run Tryz.prog w=X↔(Instr.findAsking 106 (.agg #[zI m,zI r,zI b]) (ents l (i+1)) (j+1)).run Tryz.prog w=X:=fun X=>by
    simp [ents,Instr.findAsking,ent,eqSub,hp,Sem.run_bind]
   exact ⟨fun h=>(e _).2 (ih.1 h),fun t h=>(ih.2 t h).imp fun q hq=>(e _).2 hq⟩
theorem finding (m r b:Int) (w:World) (l:List Pr):(look l m r b=none→(Instr.findKey 106 (.agg #[zI m,zI r,zI b]) (ents l 0)).run Tryz.prog w = .ok none w) ∧
  ∀ t,look l m r b=some t→∃ q,(Instr.findKey 106 (.agg #[zI m,zI r,zI b]) (ents l 0)).run Tryz.prog w = .ok (some (q,zI t)) w:=by
 cases l with
 | nil=>exact ⟨fun _=>by simp [Instr.findKey,ents,Instr.findNow,run_underlying Tryz.underlying106,Sem.run_bind],fun t h=>by cases h⟩
 | cons p l=>
  have e:(Instr.findKey 106 (.agg #[zI m,zI r,zI b]) (ents (p :: l) 0)).run Tryz.prog w=(Instr.findAsking 106 (.agg #[zI m,zI r,zI b]) (ents (p :: l) 0)).run Tryz.prog w:=by
   simp [Instr.findKey,ents,Instr.findNow,Instr.sameNow,run_underlying Tryz.underlying106,Sem.run_bind]
  rw [e];exact asking m r b w (p :: l) 0 0
theorem zint (w:World):(zeroValue 3).run Tryz.prog w = .ok (zI 0) w:=by kernel_rfl
theorem look_run {w:World} {B:Nat} {l:List Pr} (h:Mp w B l) (m r b:Int) :
  (Instr.lookup 101 (.map (some B)) (.agg #[zI m,zI r,zI b]) true).run Tryz.prog w = .ok (.tuple #[zI ((look l m r b).getD 0),.bool (look l m r b).isSome]) w:=by
 have hf:=finding m r b w l;cases hl:look l m r b with
 | none=>simp [Instr.lookup,run_underlying Tryz.underlying101,MapKept.run_getObj_map h,chk,hf.1 hl,zint,Result.andThen,Sem.run_bind]
 | some t=>
  obtain ⟨q,hq⟩:=hf.2 t hl;simp [Instr.lookup,run_underlying Tryz.underlying101,MapKept.run_getObj_map h,chk,hq,Result.andThen,Sem.run_bind]
theorem look_nil (w:World) (m r b:Int) :
  (Instr.lookup 101 (.map none) (.agg #[zI m,zI r,zI b]) true).run Tryz.prog w = .ok (.tuple #[zI 0,.bool false]) w:=by kernel_rfl
theorem upd_run {w:World} {B:Nat} {l:List Pr} (h:Mp w B l) (m r b t:Int) (hn:look l m r b=none) :
  ∃ W,(Instr.mapUpdate 101 (.map (some B)) (.agg #[zI m,zI r,zI b]) (zI t)).run Tryz.prog w = .ok () W∧Mp W B (l++[⟨m,r,b,t⟩])∧(∀ G,G≠B→W.heap[G]?=w.heap[G]?)∧(∀ B0 w0,B0≤B→Below B0 w0 w→Below B0 w0 W)∧W.heap.size=w.heap.size:=by
 have hf:=(finding m r b w l).1 hn;refine ⟨setBlock w B (.map ((ents l 0).toArray.push ⟨.agg #[zI m,zI r,zI b],zI t,l.length⟩) (l.length+1)),?_,?_,fun G hG=>heap_setBlock_other h _ hG,fun B0 w0 hB hb=>?_,by simp [setBlock]⟩
 ·simp [Instr.mapUpdate,run_underlying Tryz.underlying101,MapKept.run_getObj_map h,chk,hf,MapKept.run_setObj_map _ h,Result.andThen,setBlock,Sem.run_bind]
 ·unfold Mp;rw [heap_setBlock_same h,ents_app,List.length_append];simp [ent]
 ·refine ⟨hb.os,hb.tape,hb.output,by simp [setBlock];exact hb.size,fun k hk=>?_⟩;rw [heap_setBlock_other h _ (by omega)];exact hb.block k hk
theorem run_mkMap (w:World) (n:Int):(Instr.makeMap 101 (some (zI n))).run Tryz.prog w = .ok (.map (some w.heap.size)) (w.alloc (.map #[] 0)):=by kernel_rfl
end ora
namespace book
open Go.RowKit
def Ev.v (x:Ev):Value:= .agg #[zI x.kd,zI x.me,zI x.mo,zI x.id,zI x.te,zI x.de,zI x.fe,zI x.pr,zI x.ch,zI x.un,zI x.tg,zI x.ow,zI x.bp]
def Ev.cs (x:Ev):Array Value:=#[zI x.kd,zI x.me,zI x.mo,zI x.id,zI x.te,zI x.de,zI x.fe,zI x.pr,zI x.ch,zI x.un,zI x.tg,zI x.ow,zI x.bp]
def wf13 (x:Ev):Prop:=(Lit.int .i64 x.kd).wf=true∧(Lit.int .i64 x.me).wf=true∧(Lit.int .i64 x.mo).wf=true∧(Lit.int .i64 x.id).wf=true∧(Lit.int .i64 x.te).wf=true∧(Lit.int .i64 x.de).wf=true∧(Lit.int .i64 x.fe).wf=true∧(Lit.int .i64 x.pr).wf=true∧(Lit.int .i64 x.ch).wf=true∧(Lit.int .i64 x.un).wf=true∧(Lit.int .i64 x.tg).wf=true∧(Lit.int .i64 x.ow).wf=true∧(Lit.int .i64 x.bp).wf=true
theorem wf_may {x:Ev} (h:EMay x):wf13 x:=by
 have hh:=may_word h
 have q:∀ z,0≤z∧z<4294967296→(Lit.int .i64 z).wf=true:=fun z hz=>by
  simp only [Lit.wf,Bool.and_eq_true,decide_eq_true_eq];rw [show IntKind.i64.min=-9223372036854775808 from by decide,show IntKind.i64.max=9223372036854775807 from by decide];omega
 exact ⟨q _ (hh _ (by simp [evL])),q _ (hh _ (by simp [evL])),q _ (hh _ (by simp [evL])),q _ (hh _ (by simp [evL])),q _ (hh _ (by simp [evL])),q _ (hh _ (by simp [evL])),q _ (hh _ (by simp [evL])),q _ (hh _ (by simp [evL])),q _ (hh _ (by simp [evL])),q _ (hh _ (by simp [evL])),q _ (hh _ (by simp [evL])),q _ (hh _ (by simp [evL])),q _ (hh _ (by simp [evL]))⟩
end book
namespace acc
open tar (Du du0 Came RowD Ld PairT)
open Go.RowKit
theorem awithin (lo hi n:Int) (w:World):Calls Tryz.prog 114 #[zI lo,zI hi,zI n] w fun e w'=>e = .returned (.bool (decide (lo≤n∧n≤hi)))∧w'=w:=by
 by_cases h1:lo≤n
 ·by_cases h2:n≤hi
  ·have h3:decide (lo≤n∧n≤hi)=true:=by simp;omega
   rw [h3];clear h3;go_enter Tryz.func114,Tryz.ntmps114;go_wp2;go_ret;exact ⟨rfl,rfl⟩
  ·have h3:decide (lo≤n∧n≤hi)=false:=by simp;omega
   have h4:decide (n≤hi)=false:=by simp;omega
   rw [h3];clear h3 h2;go_enter Tryz.func114,Tryz.ntmps114;go_wp2;go_ret;exact ⟨rfl,rfl⟩
 ·have h3:decide (lo≤n∧n≤hi)=false:=by simp;omega
  have h4:decide (lo≤n)=false:=by simp;omega
  rw [h3];clear h3 h1;go_enter Tryz.func114,Tryz.ntmps114;go_wp2;go_ret;exact ⟨rfl,rfl⟩
end acc
namespace deb
open tar (Du du0 Came RowD Ld ErrPost TwoPost PairT)
open Go.RowKit
theorem grow_more {b x:Int} (hx:0≤x) (hx1:x≤1000000000) (hb:0≤b):grow b x=x+min (x*b / 10000) (1000000000 - x):=by
 unfold grow;have:=Int.mul_nonneg hx hb;generalize x*b=p at *;omega
theorem pgrowth (x b:Int) (w:World) (hx:0≤x∧x≤1000000000) (hb:0≤b∧b≤10000):Calls Tryz.prog 155 #[.agg #[zI x,zI b]] w fun e w'=>e = .returned (zI (min (x*b / 10000) (1000000000 - x)))∧Below w.heap.size w w':=by
 have HPA:Hid (∀ W,Calls Tryz.prog 124 #[zI x,zI b] W fun e w'=>e = .returned (.tuple #[zI (x*b / 10000),zI 0])∧Below W.heap.size W w'):=fun W=>cents.part_yes x b W hx.1 (by omega) hb.1 hb.2;have HBX:Hid (Blk (w.alloc (.cells #[zI x,zI b] 83)) w.heap.size #[zI x,zI b] 83):=Blk.new w _ _;have HBW:Hid (Below w.heap.size w (w.alloc (.cells #[zI x,zI b] 83))):=(Below.refl _ _).alloc (Nat.le_refl _) _;obtain ⟨hx0,hx1⟩:=hx;clear hb;have hmin:=tar.run_min (x*b / 10000) (1000000000 - x) _ rfl;generalize x*b / 10000=q at *;generalize min q (1000000000 - x)=m at *;go_enter Tryz.func155,Tryz.ntmps155;go_wp2_with fail;refine (HPA.o _).mono ?_;rintro e w1 ⟨rfl,hb1⟩;have HB1:=shB HBW hb1;have c0:w1.cell? ⟨w.heap.size,0,none⟩=some (zI x):=(HBX.o.next hb1).cell 0;have c1:w1.cell? ⟨w.heap.size,1,none⟩=some (zI b):=(HBX.o.next hb1).cell 1;clear hb1 HPA HBX HBW;go_wp2_with fail;go_ret;exact ⟨rfl,HB1.o⟩
end deb
namespace tar
open Go.RowKit
theorem pwithin (lo hi n:Int) (w:World):Calls Tryz.prog 135 #[zI lo,zI hi,zI n] w fun e w'=>e = .returned (.bool (decide (lo≤n∧n≤hi)))∧w'=w:=by
 by_cases h1:lo≤n
 ·by_cases h2:n≤hi
  ·have h3:decide (lo≤n∧n≤hi)=true:=by simp;omega
   rw [h3];clear h3;go_enter Tryz.func135,Tryz.ntmps135;go_wp2;go_ret;exact ⟨rfl,rfl⟩
  ·have h3:decide (lo≤n∧n≤hi)=false:=by simp;omega
   have h4:decide (n≤hi)=false:=by simp;omega
   rw [h3];clear h3 h2;go_enter Tryz.func135,Tryz.ntmps135;go_wp2;go_ret;exact ⟨rfl,rfl⟩
 ·have h3:decide (lo≤n∧n≤hi)=false:=by simp;omega
  have h4:decide (lo≤n)=false:=by simp;omega
  rw [h3];clear h3 h1;go_enter Tryz.func135,Tryz.ntmps135;go_wp2;go_ret;exact ⟨rfl,rfl⟩
open Classical in
theorem prises (b off k cap:Nat) (ls:List Du) (w1:World) (hs1:1≤k) (hs2:k≤8) (hlen:ls.length=k) (hbl:b<w1.heap.size) (hc:∀ i,i<k→w1.cell? ⟨b,off+i*2,none⟩=some (zI (ls.getD i du0).a)∧w1.cell? ⟨b,off+i*2+1,none⟩=some (zI (ls.getD i du0).b)):Calls Tryz.prog 136 #[.slice (some ⟨b,off,none⟩) k cap] w1 fun e w'=>e = .returned (.bool (decide (Rises ls)))∧Below w1.heap.size w1 w':=by
 have HC:Hid (∀ i,i<k→w1.cell? ⟨b,off+i*2,none⟩=some (zI (ls.getD i du0).a)∧w1.cell? ⟨b,off+i*2+1,none⟩=some (zI (ls.getD i du0).b)):=hc;have HLEN:Hid (ls.length=k):=hlen;have hnm:k≤9223372036854775807:=by omega
 clear hc hlen;go_enter Tryz.func136,Tryz.ntmps136;go_wp2_with fail;go_loopw [3] (fun x wr2=>∃ j:Nat,1≤j∧j≤k∧x=zI (j:Int)∧(∀ i,1≤i→i<j→(ls.getD (i - 1) du0).a<(ls.getD i du0).a)∧Below w1.heap.size w1 wr2) (fun x _=>k - (intOf x).toNat)
 case atStart=>exact ⟨1,Nat.le_refl _,hs1,rfl,fun i h1 h2=>absurd h2 (by omega),Below.refl _ _⟩
 case round=>
  obtain ⟨j,hj1,hj,rfl,hf,hb⟩:=hrel;have HF:Hid (∀ i,1≤i→i<j→(ls.getD (i - 1) du0).a<(ls.getD i du0).a):=hf;have HB:Hid (Below w1.heap.size w1 wr):=hb;by_cases hlt2:j<k
  ·have hdl2:decide ((j:Int)<(k:Int))=true:=by simp;omega
   have c0:wr.cell? ⟨b,off+j*2,none⟩=some (zI (ls.getD j du0).a):=(hb.cell (p:=⟨b,off+j*2,none⟩) hbl).trans (HC.o j hlt2).1;have c1:wr.cell? ⟨b,off+(j - 1)*2,none⟩=some (zI (ls.getD (j - 1) du0).a):=(hb.cell (p:=⟨b,off+(j - 1)*2,none⟩) hbl).trans (HC.o (j - 1) (by omega)).1;have hs2':wr.drew.cell? ⟨b,off+j*2,none⟩=some (zI (ls.getD j du0).a):=c0;have HBD:Hid (Below w1.heap.size w1 wr.drew):=hb.drew;have hsub:((j:Int) - 1)=((j - 1:Nat):Int):=by omega
   have hjm:j - 1<k:=by omega
   clear hb hf;by_cases hle:(ls.getD j du0).a≤(ls.getD (j - 1) du0).a
   ·have hde:decide ((ls.getD j du0).a≤(ls.getD (j - 1) du0).a)=true:=decide_eq_true hle
    have HN:Hid (decide (Rises ls)=false):=decide_eq_false fun h=>by
     have:=h j hj1 (by rw [HLEN.o];exact hlt2);omega
    clear hle;generalize (ls.getD j du0).a=x at *;generalize (ls.getD (j - 1) du0).a=y at *;generalize j - 1=j1 at *;go_wp2_with fail;go_region
    all_goals go_wp2_with fail
    go_ret;exact ⟨by rw [HN.o];rfl,HBD.o⟩
   ·have hde:decide ((ls.getD j du0).a≤(ls.getD (j - 1) du0).a)=false:=decide_eq_false hle
    have HF2:Hid (∀ i,1≤i→i<j+1→(ls.getD (i - 1) du0).a<(ls.getD i du0).a):=fun i h1 h2=>by
     by_cases e:i=j
     ·subst e;omega
     ·exact HF.o i h1 (by omega)
    clear hle;generalize (ls.getD j du0).a=x at *;generalize (ls.getD (j - 1) du0).a=y at *;generalize j - 1=j1 at *;go_wp2_with fail;go_region
    all_goals go_wp2_with fail
    go_roundw
    case rel=>exact ⟨j+1,by omega,by omega,by go_num,HF2.o,HBD.o⟩
    case measure=>simp [intOf];omega
  ·obtain rfl:j=k:=by omega
   have hdl2:decide ((j:Int)<(j:Int))=false:=by simp
   have HR:Hid (decide (Rises ls)=true):=decide_eq_true fun i h1 h2=>HF.o i h1 (by rw [HLEN.o] at h2;exact h2);clear hb hf;go_wp2_with fail;go_ret;exact ⟨by rw [HR.o];rfl,HB.o⟩
end tar
namespace acc
open tar (Du)
open Go.RowKit
def KcSell:Prop:=∀ (W:World) (x:Ac) (p:Option Addr) (len cap:Nat) (t:Tm) (pt:Option Addr) (lt ct:Nat) (te m:Int),ACame W x p len cap→TCame W t pt lt ct→(Lit.int .i64 te).wf=true→(Lit.int .i64 m).wf=true→Calls Tryz.prog 52 #[x.v p len cap,t.v pt lt ct,zI te,zI m] W fun e w'=>BPost W (SellIs x t te m) e w'
end acc
namespace rct
open Go.RowKit
theorem met_tail {P:Program} {x:String × DataW Unit} {rest:List (String × DataW Unit)} {W:World} (h:laidMet P (x :: rest) W):laidMet P rest W:=by
 obtain ⟨ps,hv,hn,hc⟩:=h;obtain ⟨g',t',cs,fuel,p,q,hg',ht',hvar,hd,hr,rfl⟩:=hv;exact ⟨q,hr,(List.nodup_append.1 hn).2.1,fun b off hm=>hc b off (List.mem_append_right _ hm)⟩
end rct
end Go.Proofs.YtdpfnedfakgolaaGreatDoor
