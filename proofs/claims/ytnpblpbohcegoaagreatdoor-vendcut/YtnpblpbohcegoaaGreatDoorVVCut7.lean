import Derived.Test.YtnpblpbohcegoaaGreatDoorVVCut6
set_option linter.unusedVariables false
set_option linter.unusedSimpArgs false
set_option maxHeartbeats 4000000
set_option maxRecDepth 100000
namespace Go.Proofs.YtnpblpbohcegoaaGreatDoor
namespace book
structure So where
 id:Int
 cl:Int
 am:Int
 tg:Int
 rv:Int
def so0:So:=⟨0,0,0,0,0⟩
open acc (Ac Tm Bi TFault TRight OweIs SellIs GrantIs RekeyIs)
structure Cm where
 a:Ac
 so:List So
def cm0:Cm:=⟨acc.ac0,[]⟩
def billOf (v:Ev):Bi:=⟨v.id,v.te,v.de,v.fe,v.pr,v.ch,v.un⟩
def soldOf (c:Cm) (v:Ev):So:=if v.kd=4 then ⟨v.id,2,c.a.rv+1,v.tg,c.a.rv⟩ else ⟨v.id,0,v.un,v.tg,c.a.rv⟩
def Tells (t:Tm) (c:Cm) (v:Ev) (b:Ac) (l:Bi) (e:Int):Prop:=(v.kd=2∧SellIs c.a t v.te v.mo b l e)∨(v.kd=3∧GrantIs c.a t v.mo b l e)∨(v.kd=4∧RekeyIs c.a b l e)
theorem Tells.one {t:Tm} {c:Cm} {v:Ev} {b b':Ac} {l l':Bi} {e e':Int} (h:Tells t c v b l e) (h':Tells t c v b' l' e'):b=b'∧l=l'∧e=e':=by
 rcases h with ⟨p,q⟩ | ⟨p,q⟩ | ⟨p,q⟩ <;> rcases h' with ⟨p',q'⟩ | ⟨p',q'⟩ | ⟨p',q'⟩ <;> first | exact q.one q' | omega
def HapIs (t:Tm) (c:Cm) (v:Ev) (c':Cm) (f:Int):Prop:=
 (v.kd=5∧∃ b,OweIs c.a ⟨v.ow,v.bp⟩ b f∧(f=0→c'=⟨b,c.so⟩)) ∨
 (v.kd≠5∧∃ b l e,Tells t c v b l e∧((e≠0∧f=e)∨(e=0∧l≠billOf v∧f=8)∨(e=0∧l=billOf v∧f=0∧c'=⟨b,c.so++[soldOf c v]⟩)))
theorem HapIs.one {t:Tm} {c c' d':Cm} {v:Ev} {f g:Int} (h:HapIs t c v c' f) (h':HapIs t c v d' g):f=g∧(f=0→c'=d'):=by
 rcases h with ⟨p,b,q,r⟩ | ⟨p,b,l,e,q,r⟩ <;> rcases h' with ⟨p',b',q',r'⟩ | ⟨p',b',l',e',q',r'⟩
 ·obtain ⟨rfl,rfl⟩:=q.one q';exact ⟨rfl,fun h=>(r h).trans (r' h).symm⟩
 ·exact absurd p p'
 ·exact absurd p' p
 ·obtain ⟨rfl,rfl,rfl⟩:=q.one q';rcases r with ⟨x,rfl⟩ | ⟨x,y,rfl⟩ | ⟨x,y,rfl,z⟩ <;> rcases r' with ⟨x',rfl⟩ | ⟨x',y',rfl⟩ | ⟨x',y',rfl,z'⟩ <;> first | exact ⟨rfl,fun h=>absurd h x⟩ | exact ⟨rfl,fun h=>absurd h (by decide)⟩ | exact ⟨rfl,fun _=>z.trans z'.symm⟩ | contradiction
def FirstAt (bk:List Cm) (me:Int) (k:Nat):Prop:=k<bk.length∧(bk.getD k cm0).a.me=me∧∀ j,j<k→(bk.getD j cm0).a.me≠me
def NoneAt (bk:List Cm) (me:Int):Prop:=∀ j,j<bk.length→(bk.getD j cm0).a.me≠me
theorem FirstAt.one {bk:List Cm} {me:Int} {k k':Nat} (h:FirstAt bk me k) (h':FirstAt bk me k'):k=k':=by
 rcases Nat.lt_trichotomy k k' with c | c | c
 ·exact absurd h.2.1 (h'.2.2 k c)
 ·exact c
 ·exact absurd h'.2.1 (h.2.2 k' c)
theorem FirstAt.some {bk:List Cm} {me:Int} {k:Nat} (h:FirstAt bk me k):¬ NoneAt bk me:=fun hn=>hn k h.1 h.2.1
def StepIs (t:Tm) (bk:List Cm) (v:Ev) (bk':List Cm) (f:Int):Prop:=
 (¬ EMay v∧f=5)∨(EMay v∧v.kd=1∧¬ NoneAt bk v.me∧f=21)∨(EMay v∧v.kd=1∧NoneAt bk v.me∧f=0∧bk'=bk++[⟨⟨v.me,0,1,0,0,-1,[]⟩,[]⟩]) ∨
 (EMay v∧v.kd≠1∧NoneAt bk v.me∧f=18)∨(EMay v∧v.kd≠1∧∃ k c',FirstAt bk v.me k∧HapIs t (bk.getD k cm0) v c' f∧(f=0→bk'=bk.set k c'))
theorem StepIs.one {t:Tm} {bk b b':List Cm} {v:Ev} {f f':Int} (h:StepIs t bk v b f) (h':StepIs t bk v b' f'):f=f'∧(f=0→b=b'):=by
 rcases h with ⟨p,rfl⟩ | ⟨p,q,r,rfl⟩ | ⟨p,q,r,rfl,s⟩ | ⟨p,q,r,rfl⟩ | ⟨p,q,k,c,hk,hh,hs⟩ <;> rcases h' with ⟨p',rfl⟩ | ⟨p',q',r',rfl⟩ | ⟨p',q',r',rfl,s'⟩ | ⟨p',q',r',rfl⟩ | ⟨p',q',k',c',hk',hh',hs'⟩ <;> first | contradiction | exact ⟨rfl,fun h=>absurd h (by decide)⟩ | exact ⟨rfl,fun _=>s.trans s'.symm⟩ | exact absurd r hk'.some | exact absurd r' hk.some | skip
 obtain rfl:=hk.one hk';obtain ⟨rfl,e⟩:=hh.one hh';exact ⟨rfl,fun h=>by rw [hs h,hs' h,e h]⟩
def BookIs (t:Tm) (l:List Ev) (bk:List Cm) (at_ f:Int):Prop:=
 (TFault t f∧f≠0∧bk=[]∧at_=0)∨(TRight t∧120<l.length∧bk=[]∧at_=0∧f=1) ∨
 (TRight t∧l.length≤120∧∃ (k:Nat) (st:Nat→List Cm),st 0=[]∧(∀ i,i<k→StepIs t (st i) (l.getD i ev0) (st (i+1)) 0) ∧
  ((k=l.length∧bk=st k∧at_=0∧f=0)∨(k<l.length∧(∃ x,StepIs t (st k) (l.getD k ev0) x f)∧f≠0∧bk=[]∧at_=(k:Int))))
theorem states_one {t:Tm} {l:List Ev} {k k':Nat} {st st':Nat→List Cm} (h0:st 0=[]) (h0':st' 0=[]) (h:∀ i,i<k→StepIs t (st i) (l.getD i ev0) (st (i+1)) 0) (h':∀ i,i<k'→StepIs t (st' i) (l.getD i ev0) (st' (i+1)) 0):∀ i,i≤k→i≤k'→st i=st' i
 | 0,_,_=>h0.trans h0'.symm
 | i+1,hk,hk'=>by
  have ih:=states_one h0 h0' h h' i (by omega) (by omega);have q:=h i (by omega);have q':=h' i (by omega);rw [ih] at q;exact (q.one q').2 rfl
theorem BookIs.one {t:Tm} {l:List Ev} {b b':List Cm} {a a' f f':Int} (h:BookIs t l b a f) (h':BookIs t l b' a' f'):b=b'∧a=a'∧f=f':=by
 rcases h with ⟨p,q,rfl,rfl⟩ | ⟨p,q,rfl,rfl,rfl⟩ | ⟨p,q,k,st,s0,s1,s2⟩ <;> rcases h' with ⟨p',q',rfl,rfl⟩ | ⟨p',q',rfl,rfl,rfl⟩ | ⟨p',q',k',st',s0',s1',s2'⟩
 ·exact ⟨rfl,rfl,p.one p'⟩
 ·exact absurd (p.ok.2 p') q
 ·exact absurd (p.ok.2 p') q
 ·exact absurd (p'.ok.2 p) q'
 ·exact ⟨rfl,rfl,rfl⟩
 ·omega
 ·exact absurd (p'.ok.2 p) q'
 ·omega
 ·have same:=states_one s0 s0' s1 s1';rcases s2 with ⟨e,rfl,rfl,rfl⟩ | ⟨e,⟨x,hx⟩,hf,rfl,rfl⟩ <;> rcases s2' with ⟨e',rfl,rfl,rfl⟩ | ⟨e',⟨x',hx'⟩,hf',rfl,rfl⟩
  ·have:k=k':=by omega
   subst this;exact ⟨same k (Nat.le_refl _) (Nat.le_refl _),rfl,rfl⟩
  ·have q:=s1 k' (by omega);rw [same k' (by omega) (Nat.le_refl _)] at q;exact absurd ((q.one hx').1.symm) hf'
  ·have q:=s1' k (by omega);rw [← same k (Nat.le_refl _) (by omega)] at q;exact absurd ((q.one hx).1.symm) hf
  ·rcases Nat.lt_trichotomy k k' with c | c | c
   ·have q:=s1' k c;rw [← same k (Nat.le_refl _) (by omega)] at q;exact absurd ((q.one hx).1.symm) hf
   ·subst c;rw [same k (Nat.le_refl _) (Nat.le_refl _)] at hx;exact ⟨rfl,rfl,(hx.one hx').1⟩
   ·have q:=s1 k' c;rw [same k' (by omega) (Nat.le_refl _)] at q;exact absurd ((q.one hx').1.symm) hf'
theorem run_more {t:Tm} {l:List Ev} {k:Nat} {st:Nat→List Cm} {bk:List Cm} (h:∀ i,i<k→StepIs t (st i) (l.getD i ev0) (st (i+1)) 0) (hs:StepIs t (st k) (l.getD k ev0) bk 0):∃ st':Nat→List Cm,st' 0=st 0∧st' (k+1)=bk∧(∀ i,i<k+1→StepIs t (st' i) (l.getD i ev0) (st' (i+1)) 0):=by
 refine ⟨fun i=>if i≤k then st i else bk,if_pos (Nat.zero_le _),if_neg (by omega),fun i hi=>?_⟩;show StepIs t (if i≤k then st i else bk) _ (if i+1≤k then st (i+1) else bk) 0;by_cases e:i=k
 ·subst e;rw [if_pos (Nat.le_refl _),if_neg (by omega)];exact hs
 ·rw [if_pos (by omega),if_pos (by omega)];exact h i (by omega)
end book
section
open Go.RowKit
theorem wp_runOp {P:Program} {o:Oper} {a:Act} {w w':World} {v:Value} {K:Act→World→Prop} {Q:Exit→Act→World→Prop} (d:Nat) (hd:o.dst=some d) (hrun:(execOp a.eval o).run P w = .ok (.value v) w') (h:K (a.put (some d) v) w'):o.wp P a w K Q:=by
 rw [← hd] at h;unfold Oper.wp;rw [hrun,Oper.upon_value];exact h
theorem wp_callOp {P:Program} {o:Oper} {a:Act} {w:World} {f:FuncId} {args:Array Value} {R:Ending→World→Prop} {K:Act→World→Prop} {Q:Exit→Act→World→Prop} (d:Nat) (hd:o.dst=some d) (hrun:(execOp a.eval o).run P w = .ok (.enter f args) w) (hc:Calls P f args w R)
  (h:∀ e w',R e w'→∃ v,e = .returned v∧K (a.put (some d) v) w'):o.wp P a w K Q:=by
 rw [← hd] at h;unfold Oper.wp;rw [hrun,Oper.upon_enter];refine hc.mono fun e w' hr=>?_;obtain ⟨v,rfl,hk⟩:=h e w' hr;exact hk
end
namespace deb
open tar (Du du0 Came RowD Ld PairT wp_pairs)
open Go.RowKit
theorem seI (d:Nat) (a b:Int) (w:World):(Op.equalIn (d+1) 3 (zI a) (zI b)).run Tryz.prog w = .ok (a == b) w:=run_equalIn_int w d _ _ _ a b Tryz.underlying3
theorem sf0 (s c:Int) (w:World):(part 3 #[zI s,zI c] 0).run Tryz.prog w = .ok (zI s) w:=by kernel_rfl
theorem sf1 (s c:Int) (w:World):(part 3 #[zI s,zI c] 1).run Tryz.prog w = .ok (zI c) w:=by kernel_rfl
theorem eqDebt (s t b c:Int) (w:World) :
  (Op.equalIn 10000 70 (.agg #[zI s,zI b]) (.agg #[zI t,zI c])).run Tryz.prog w = .ok (s == t && b == c) w:=by
 rw [show (10000:Nat)=9999+1 from rfl,run_equalIn_agg w 9999 70 _ _ (by kernel_rfl) (by kernel_rfl)];simp only [Program.fieldsOf,Tryz.underlying70,Op.eqFields,Sem.run_bind,Sem.run_ite];by_cases h1:(s == t)=true <;> by_cases h2:(b == c)=true <;> simp [sf0,sf1,show (9999:Nat)=9998+1 from rfl,seI,h1,h2]
end deb
namespace words
open Go.RowKit
abbrev wv (w:W3):Value:= .agg #[.int .u32 w.a,.int .u32 w.b,.int .u32 w.c]
end words
namespace ora
open Go.RowKit
open Go.ChangeMaps (setBlock heap_setBlock_same heap_setBlock_other)
def ent (p:Pr) (i:Nat):MapEntry:={ key:= .agg #[zI p.m,zI p.r,zI p.b],val:=zI p.t,born:=i }
def ents:List Pr→Nat→List MapEntry
 | [],_=>[]
 | p :: l,i=>ent p i :: ents l (i+1)
theorem ents_app (l:List Pr) (p:Pr) (i:Nat):ents (l++[p]) i=ents l i++[ent p (i+l.length)]:=by
 induction l generalizing i with
 | nil=>rfl
 | cons x l ih=>simp only [List.cons_append,ents,ih,List.length_cons];rw [show i+1+l.length=i+(l.length+1) by omega]
def Mp (w:World) (B:Nat) (l:List Pr):Prop:=w.heap[B]?=some (.map (ents l 0).toArray l.length)
theorem Mp.lt {w:World} {B:Nat} {l:List Pr} (h:Mp w B l):B<w.heap.size:=by
 unfold Mp at h;by_cases hh:B<w.heap.size
 ·exact hh
 ·rw [Array.getElem?_eq_none (by omega)] at h;cases h
theorem Mp.below {w w':World} {B:Nat} {l:List Pr} (h:Mp w B l) (hb:Below w.heap.size w w'):Mp w' B l:=by
 have hl:=h.lt;unfold Mp at *;rw [hb.block B hl];exact h
theorem Mp.new (w:World):Mp (w.alloc (.map #[] 0)) w.heap.size []:=by
 show (w.heap.push _)[w.heap.size]?=_;rw [Array.getElem?_push_size];rfl
def look:List Pr→Int→Int→Int→Option Int
 | [],_,_,_=>none
 | p :: l,m,r,b=>if m=p.m∧r=p.r∧b=p.b then some p.t else look l m r b
theorem look_no {l:List Pr} {m r b:Int} (h:No l m r b):look l m r b=none:=by
 induction l with
 | nil=>rfl
 | cons p l ih=>
  have h0:=h 0 (by simp);rw [look,if_neg (fun e=>h0 ⟨e.1.symm,e.2.1.symm,e.2.2.symm⟩)];exact ih fun j hj=>h (j+1) (by simpa using hj)
theorem look_at {l:List Pr} {m r b:Int} {i:Nat} (h:At l m r b i):look l m r b=some (l.getD i pr0).t:=by
 induction l generalizing i with
 | nil=>exact absurd h.lt (Nat.not_lt_zero _)
 | cons p l ih=>
  cases i with
  | zero=>
   have h0:=h.is;rw [look,if_pos ⟨h0.1.symm,h0.2.1.symm,h0.2.2.symm⟩];rfl
  | succ i=>
   have h0:=h.first 0 (by omega);rw [look,if_neg (fun e=>h0 ⟨e.1.symm,e.2.1.symm,e.2.2.symm⟩)];exact ih ⟨by have:=h.lt;simpa using this,h.is,fun j hj=>h.first (j+1) (by omega)⟩
theorem look_take {l:List Pr} {m r b:Int} {k:Nat} (hk:k≤l.length):look (l.take k) m r b=none↔∀ j,j<k→¬ (l.getD j pr0).key m r b:=by
 have hg:∀ j,j<k→(l.take k).getD j pr0=l.getD j pr0:=fun j hj=>by simp [List.getD,List.getElem?_take,hj]
 rcases find_or (l.take k) m r b with ⟨i,hi⟩ | hn
 ·constructor
  ·intro h;rw [look_at hi] at h;cases h
  ·intro h;have hl:=hi.lt;rw [List.length_take] at hl;have:=hi.is;rw [hg i (by omega)] at this;exact absurd this (h i (by omega))
 ·constructor
  ·intro _ j hj;have:=hn j (by rw [List.length_take];omega)
   rwa [hg j hj] at this
  ·intro _;exact look_no hn
theorem skq (d:Nat) (a b:Int) (w:World):(Op.equalIn (d+1) 3 (zI a) (zI b)).run Tryz.prog w = .ok (a == b) w:=run_equalIn_int w d _ _ _ a b Tryz.underlying3
theorem sk0 (s t c:Int) (w:World):(part 3 #[zI s,zI t,zI c] 0).run Tryz.prog w = .ok (zI s) w:=by kernel_rfl
theorem sk1 (s t c:Int) (w:World):(part 3 #[zI s,zI t,zI c] 1).run Tryz.prog w = .ok (zI t) w:=by kernel_rfl
theorem sk2 (s t c:Int) (w:World):(part 3 #[zI s,zI t,zI c] 2).run Tryz.prog w = .ok (zI c) w:=by kernel_rfl
theorem eqSub (m r b:Int) (p:Pr) (w:World) :
  (Op.equal 282 (.agg #[zI m,zI r,zI b]) (.agg #[zI p.m,zI p.r,zI p.b])).run Tryz.prog w = .ok (decide (m=p.m∧r=p.r∧b=p.b)) w:=by
 unfold Op.equal;rw [show Op.maxDepth=9999+1 from rfl,run_equalIn_agg w 9999 282 _ _ (by kernel_rfl) (by kernel_rfl)];simp only [Program.fieldsOf,Tryz.underlying282,Op.eqFields,Sem.run_bind,Sem.run_ite];by_cases h1:m=p.m <;> by_cases h2:r=p.r <;> by_cases h3:b=p.b <;> simp [sk0,sk1,sk2,show (9999:Nat)=9998+1 from rfl,skq,h1,h2,h3]
theorem chk (em:Bool) (m r b:Int) (w:World):(Instr.checkKey em 10000 282 (.agg #[zI m,zI r,zI b])).run Tryz.prog w = .ok () w:=by kernel_rfl
theorem asking (m r b:Int) (w:World):∀ (l:List Pr) (i j:Nat),(look l m r b=none→(Instr.findAsking 282 (.agg #[zI m,zI r,zI b]) (ents l i) j).run Tryz.prog w = .ok none w) ∧
  ∀ t,look l m r b=some t→∃ q,(Instr.findAsking 282 (.agg #[zI m,zI r,zI b]) (ents l i) j).run Tryz.prog w = .ok (some (q,zI t)) w
 | [],i,j=>⟨fun _=>rfl,fun t h=>by cases h⟩
 | p :: l,i,j=>by
  have ih:=asking m r b w l (i+1) (j+1);unfold look;by_cases hp:m=p.m∧r=p.r∧b=p.b
  ·refine ⟨fun h=>(by rw [if_pos hp] at h;cases h),fun t h=>⟨j,?_⟩⟩;rw [if_pos hp] at h;cases h;simp [ents,Instr.findAsking,ent,eqSub,hp,Sem.run_bind]
  ·rw [if_neg hp]
   have e:∀ X,(Instr.findAsking 282 (.agg #[zI m,zI r,zI b]) (ents (p :: l) i) j).run Tryz.prog w=X↔(Instr.findAsking 282 (.agg #[zI m,zI r,zI b]) (ents l (i+1)) (j+1)).run Tryz.prog w=X:=fun X=>by
    simp [ents,Instr.findAsking,ent,eqSub,hp,Sem.run_bind]
   exact ⟨fun h=>(e _).2 (ih.1 h),fun t h=>(ih.2 t h).imp fun q hq=>(e _).2 hq⟩
theorem finding (m r b:Int) (w:World) (l:List Pr):(look l m r b=none→(Instr.findKey 282 (.agg #[zI m,zI r,zI b]) (ents l 0)).run Tryz.prog w = .ok none w) ∧
  ∀ t,look l m r b=some t→∃ q,(Instr.findKey 282 (.agg #[zI m,zI r,zI b]) (ents l 0)).run Tryz.prog w = .ok (some (q,zI t)) w:=by
 cases l with
 | nil=>exact ⟨fun _=>by simp [Instr.findKey,ents,Instr.findNow,run_underlying Tryz.underlying282,Sem.run_bind],fun t h=>by cases h⟩
 | cons p l=>
  have e:(Instr.findKey 282 (.agg #[zI m,zI r,zI b]) (ents (p :: l) 0)).run Tryz.prog w=(Instr.findAsking 282 (.agg #[zI m,zI r,zI b]) (ents (p :: l) 0)).run Tryz.prog w:=by
   simp [Instr.findKey,ents,Instr.findNow,Instr.sameNow,run_underlying Tryz.underlying282,Sem.run_bind]
  rw [e];exact asking m r b w (p :: l) 0 0
theorem zint (w:World):(zeroValue 3).run Tryz.prog w = .ok (zI 0) w:=by kernel_rfl
theorem look_run {w:World} {B:Nat} {l:List Pr} (h:Mp w B l) (m r b:Int) :
  (Instr.lookup 275 (.map (some B)) (.agg #[zI m,zI r,zI b]) true).run Tryz.prog w = .ok (.tuple #[zI ((look l m r b).getD 0),.bool (look l m r b).isSome]) w:=by
 have hf:=finding m r b w l;cases hl:look l m r b with
 | none=>simp [Instr.lookup,run_underlying Tryz.underlying275,MapKept.run_getObj_map h,chk,hf.1 hl,zint,Result.andThen,Sem.run_bind]
 | some t=>
  obtain ⟨q,hq⟩:=hf.2 t hl;simp [Instr.lookup,run_underlying Tryz.underlying275,MapKept.run_getObj_map h,chk,hq,Result.andThen,Sem.run_bind]
theorem upd_run {w:World} {B:Nat} {l:List Pr} (h:Mp w B l) (m r b t:Int) (hn:look l m r b=none) :
  ∃ W,(Instr.mapUpdate 275 (.map (some B)) (.agg #[zI m,zI r,zI b]) (zI t)).run Tryz.prog w = .ok () W∧Mp W B (l++[⟨m,r,b,t⟩])∧(∀ G,G≠B→W.heap[G]?=w.heap[G]?)∧(∀ B0 w0,B0≤B→Below B0 w0 w→Below B0 w0 W)∧W.heap.size=w.heap.size:=by
 have hf:=(finding m r b w l).1 hn;refine ⟨setBlock w B (.map ((ents l 0).toArray.push ⟨.agg #[zI m,zI r,zI b],zI t,l.length⟩) (l.length+1)),?_,?_,fun G hG=>heap_setBlock_other h _ hG,fun B0 w0 hB hb=>?_,by simp [setBlock]⟩
 ·simp [Instr.mapUpdate,run_underlying Tryz.underlying275,MapKept.run_getObj_map h,chk,hf,MapKept.run_setObj_map _ h,Result.andThen,setBlock,Sem.run_bind]
 ·unfold Mp;rw [heap_setBlock_same h,ents_app,List.length_append];simp [ent]
 ·refine ⟨hb.os,hb.tape,hb.output,by simp [setBlock];exact hb.size,fun k hk=>?_⟩;rw [heap_setBlock_other h _ (by omega)];exact hb.block k hk
theorem run_mkMap (w:World) (n:Int):(Instr.makeMap 275 (some (zI n))).run Tryz.prog w = .ok (.map (some w.heap.size)) (w.alloc (.map #[] 0)):=by kernel_rfl
end ora
namespace disk
open Go.RowKit cell
theorem clone_any (x:Addr) (len cap:Nat) (zs:List Int) (w:World) (hr:RowU w (some x) len zs) (hl:len≤100000) :
  Calls Tryz.prog 64 #[.slice (some x) len cap] w fun e w'=>GaveU w zs e w':=by
 obtain ⟨i0,hi,hz0,hz1,hz2⟩:=info_parts info_u32;obtain ⟨hz,hr⟩:=hr;have hown:(w.alloc (.cells #[] 99)).ownsRow w.heap.size 99 1 (.slice (some ⟨w.heap.size,0,none⟩) 0 0) 0 []:=World.ownsRow_lit w #[] 0 (Nat.le_refl _) (by unfold maxLen;omega) rfl;have HO:Hid ((w.alloc (.cells #[] 99)).ownsRow w.heap.size 99 1 (.slice (some ⟨w.heap.size,0,none⟩) 0 0) 0 []):=hown;have HSZ:Hid (w.heap.size≤(w.alloc (.cells #[] 99)).heap.size):=alloc_le (Nat.le_refl _) _;clear hown;have heq:∀ W:World,(binOp BinOp.eql 25 (.slice (some x) len cap) (zS)).run Tryz.prog W = .ok (.bool false) W:=fun W=>by kernel_rfl
 go_enter Tryz.func64,Tryz.ntmps64
 go_wp2_with (first
  | (at_builtin;refine wpList_append_own _ rfl _ _ 25 rfl w.heap.size 99 i0 (.int .u32 0) 1 4 Tryz.underlying25 hi hz0 hz1 hz2 rfl (by decide) _ _ _ rfl HO.o x len cap (zs.map (.int .u32)) rfl ?c0 ?c1 ?c2 ?c3 ?c4 HSZ.o ?_)
  | go_in)
 case c0=>simp [hz]
 case c1=>
  intro j u hu;rcases hr with h | ⟨b,off,h,hc⟩
  ·rw [List.getElem?_eq_none (by simp;omega)] at hu;cases hu
  ·obtain rfl:=Option.some.inj h;by_cases hj:j<zs.length
   ·simp [List.getElem?_eq_getElem hj] at hu;subst hu;have:=hc j (by omega);rw [Addr.add_lit,World.cell?_alloc_lt w _ _ (World.block_lt_of_cell? w _ this)];simpa [List.getD,List.getElem?_eq_getElem hj] using this
   ·rw [List.getElem?_eq_none (by simp;omega)] at hu;cases hu
 case c2=>intro u hu;obtain ⟨z,_,rfl⟩:=List.mem_map.1 hu;rfl
 case c3=>unfold maxLen;omega
 case c4=>omega
 intro v' w' hown hg _;have HW:Hid (Ws w' w.heap.size v' zs):=by show w'.ownsRow _ _ _ _ _ _;rw [hz];simpa using hown
 have HG:Hid (Below w.heap.size w w'):=own_bel HO.o hg ((Below.refl _ _).alloc (Nat.le_refl _) _) (Nat.le_refl _) HSZ.o;clear hown hg;go_wp2;go_ret;exact GaveU.mk HW.o HG.o
theorem step_sli {P:Program} {T S:TypeId} (hP:SliT P T S) {w:World} {ops:Array Oper} {o:Oper} {a:Act} {K:Act→World→Prop} {Q:Exit→Act→World→Prop} {E:Prop} (hgd:o.guard=none) (s x:Operand)
  (ho:o.op = .call { callee:= .builtin .append,args:=#[s,x],argTypes:=#[S,S] })
  (base G:Nat) (v:Value) (l:List Sli) (r:Sli) (hs:a.eval s=v) (hx:a.eval x = .slice (some ⟨G,0,none⟩) 1 1) (hv:Lr T w base v l) (hu:w.cell? ⟨G,0,none⟩=some r.v) (hn:l.length≤1000000) (hbase:base≤w.heap.size)
  (h:∀ v' w',Lr T w' base v' (l++[r])→w.grownBy w' v.ownBlock→(v'.ownBlock=v.ownBlock∨v'.ownBlock=some w.heap.size)→K (a.put o.dst v') w'):if Region.wanted o (yielded ops a.tmps)=true then Oper.wp P o a w K Q else E:=by
 have hw:Region.wanted o (yielded ops a.tmps)=true:=by simp [Region.wanted,hgd]
 rw [if_pos hw];obtain ⟨i0,hi,hz0,hz1,hz2⟩:=info_parts hP.info
 obtain ⟨v',w',hr,h2,h3,_,h4⟩:=run_append_own_at (P:=P) w base S o.type T i0 (sl0.v) 1 24 hP.under hi hz0 hz1 hz2 rfl (by decide) v l.length (cellsR l) hv ⟨G,0,none⟩ 1 1 (cellsR [r]) rfl (by
  intro j u hj
  match j,hj with
  | 0,hj=>simp [cellsR] at hj;subst hj;simpa [Addr.add] using hu
  | j+1,hj=>simp [cellsR] at hj) (oneR [r]) (by unfold maxLen;omega) (by omega) hbase
 unfold Oper.wp execOp;simp only [ho,resolve,invoke,builtin,Sem.run_bind,Sem.run_pure,Result.andThen_ok,List.map_toArray,List.map_cons,List.map_nil,hs,hx,hr];refine h v' w' ?_ h3 h4;unfold Lr;rw [List.length_append];unfold cellsR at *;rw [List.map_append];exact h2
theorem wp_letOne {P:Program} {o:Oper} {a:Act} {w:World} {K:Act→World→Prop} {Q:Exit→Act→World→Prop} (ty:TypeId) (x y:Operand) (ho:o.op = .store ty x y)
  (g:Nat) (hx:a.eval x = .pointer (some ⟨g,0,none⟩)) (v:Value) (hy:a.eval y=v) (hv:v.cells=#[v]) (hi:(P.info? ty).map (·.size)=some 1) (h1:v.oneCell'=true)
  (u:Value) (t:TypeId) (hB:Blk w g #[u] t) (hd:o.dst=none)
  (h:∀ W,Upd w W g #[v] t→K a W):o.wp P a w K Q:=by
 have hs:=run_storeVar_let (P:=P) (w:=w) (g:=g) (off:=0) (ty:=ty) (t:=t) (v:=v) (cells:=#[v]) (cs:=#[u]) hv (by simpa using hi) (by simpa using h1) hB (by simp);have hu:=upd_cells g t [v] 0 w #[u] hB;unfold Oper.wp execOp;simp only [ho,hx,hy,Instr.storeAt,Instr.sureAddr,Sem.run_bind,Sem.run_pure,Result.andThen_ok,hs];have:=h _ hu;have e:a.put o.dst undef=a:=by rw [hd];rfl
 rw [← e] at this;exact this
structure Box (w:World) (L:Nat) (V:Value) (sl:List Sli) (zs:List (List Int)) (W:World):Prop where
 blk:Blk W L #[V] 104
 row:Lr 25 W (L+1) V sl
 recs:Recs W V.ownBlock sl zs
 new:∀ i,i<sl.length→((sl.getD i sl0).n≤100000∧(sl.getD i sl0).n≤(sl.getD i sl0).c∧((sl.getD i sl0).a=none→(sl.getD i sl0).c=0))∧∀ x,(sl.getD i sl0).a=some x→L+1≤x.block
 bel:Below L w W
theorem Box.next {w:World} {L:Nat} {V:Value} {sl:List Sli} {zs:List (List Int)} {W W':World} (h:Box w L V sl zs W) (hb:Below W.heap.size W W'):Box w L V sl zs W':=
 ⟨h.blk.next hb,h.row.next hb,h.recs.below hb,h.new,h.bel.trans (hb.mono (Nat.le_of_lt h.blk.lt))⟩
theorem Box.far {w:World} {L:Nat} {V:Value} {sl:List Sli} {zs:List (List Int)} {W:World} (h:Box w L V sl zs W):some L≠V.ownBlock:=own_far h.row (Nat.lt_succ_self _)
theorem Box.kept {w:World} {L:Nat} {V:Value} {sl:List Sli} {zs:List (List Int)} {W W':World} (h:Box w L V sl zs W) (hg:W.grownBy W' V.ownBlock):Blk W' L #[V] 104:=by
 have h1:W.heap[L]?=_:=h.blk;show W'.heap[L]?=_;rw [hg.block L h.blk.lt h.far];exact h1
theorem lr_upd {T t:TypeId} {w W:World} {L:Nat} {cs:Array Value} {v:Value} {l:List Sli} (h:Lr T w (L+1) v l) (hU:Upd w W L cs t):Lr T W (L+1) v l:=by
 refine ⟨h.1,?_⟩;rcases h.2 with hn | ⟨g,cap,cur,hv,hg,hc,rest⟩
 ·exact .inl hn
 ·exact .inr ⟨g,cap,cur,hv,hg,hU.keep hc (by omega),rest⟩
theorem snoc_at (sl:List Sli) (r:Sli) (i:Nat) (hi:i<(sl++[r]).length):(i<sl.length∧(sl++[r]).getD i sl0=sl.getD i sl0)∨(i=sl.length∧(sl++[r]).getD i sl0=r):=by
 by_cases h1:i<sl.length
 ·exact .inl ⟨h1,by simp [List.getD,List.getElem?_append_left h1]⟩
 ·have hi':i=sl.length:=by simp at hi;omega
  exact .inr ⟨hi',by rw [hi'];simp [List.getD]⟩
theorem box_step {w U W3 W4:World} {L:Nat} {V v:Value} {sl:List Sli} {r:Sli} {zs:List (List Int)} {R:List Int} (hB:Box w L V sl zs U) {g off:Nat} (ha:r.a=some ⟨g,off,none⟩) (hg:g<U.heap.size) (hne:some g≠V.ownBlock) (hL:L+1≤g) (hrow:RowU U r.a r.n R) (hn:r.n≤100000∧r.n≤r.c∧(r.a=none→r.c=0))
  (h3:Lr 25 W3 (L+1) v (sl++[r])) (hgr:U.grownBy W3 V.ownBlock) (ho:v.ownBlock=V.ownBlock∨v.ownBlock=some U.heap.size) (hU:Upd W3 W4 L #[v] 104):Box w L v (sl++[r]) (zs++[R]) W4:=by
 have hnew:∀ i,i<(sl++[r]).length→(((sl++[r]).getD i sl0).n≤100000∧((sl++[r]).getD i sl0).n≤((sl++[r]).getD i sl0).c∧(((sl++[r]).getD i sl0).a=none→((sl++[r]).getD i sl0).c=0))∧∀ x,((sl++[r]).getD i sl0).a=some x→L+1≤x.block:=fun i hi=>by
  rcases snoc_at sl r i hi with ⟨h1,e⟩ | ⟨_,e⟩
  ·rw [e];exact hB.new i h1
  ·rw [e];refine ⟨hn,fun x hx=>?_⟩;rw [ha] at hx;cases hx;exact hL
 have hrc:Recs W3 v.ownBlock (sl++[r]) (zs++[R]):=(hB.recs.snoc (s:=r) (z:=R) ⟨⟨g,off,ha,hg,hne⟩,hrow⟩).grown hgr ho;refine ⟨hU.blk,lr_upd h3 hU,⟨hrc.1,fun i hi=>?_⟩,hnew,?_⟩
 ·obtain ⟨⟨b,o,e1,e2,e3⟩,e4⟩:=hrc.2 i hi;have hLb:=(hnew i hi).2 _ e1;refine ⟨⟨b,o,e1,by rw [hU.size];exact e2,e3⟩,e4.1,?_⟩;rcases e4.2 with h0 | ⟨b',o',e5,hc⟩
  ·exact .inl h0
  ·rw [e1] at e5;cases e5;exact .inr ⟨b,o,e1,fun j hj=>(hU.cell ⟨b,o+j,none⟩ (by show b≠L;simp only at hLb;omega) rfl).trans (hc j hj)⟩
 ·refine hU.bel _ _ (Nat.le_refl _) ?_;exact own_bel hB.row hgr hB.bel (Nat.le_succ _) (Nat.le_of_lt hB.blk.lt)
theorem Box.reads {w:World} {L:Nat} {V:Value} {sl:List Sli} {zs:List (List Int)} {W:World} (h:Box w L V sl zs W):∃ a cap,V = .slice a zs.length cap∧ReadsF W L a zs.length zs:=by
 obtain ⟨a,cap,hv⟩:=h.row.len;have hl:=h.recs.1;refine ⟨a,cap,by rw [← hl];exact hv,rfl,?_⟩;by_cases h0:zs.length=0
 ·exact .inl h0
 ·obtain ⟨g,cap2,hv2,hge,lg,_,hc⟩:=h.row.row (by rw [hl];omega);rw [hv] at hv2;injection hv2 with ea _ _
  refine .inr ⟨g,0,ea,by omega,lg,fun i hi=>?_⟩;have hi':i<sl.length:=by rw [hl];exact hi
  refine ⟨sl.getD i sl0,by rw [Nat.zero_add];exact hc i hi',(h.recs.2 i hi').2,(h.new i hi').1,fun x hx=>?_⟩;have:=(h.new i hi').2 x hx;omega
end disk
namespace acc
open tar (Du du0 Came RowD Ld PairT)
open Go.RowKit
theorem awithin (lo hi n:Int) (w:World):Calls Tryz.prog 69 #[zI lo,zI hi,zI n] w fun e w'=>e = .returned (.bool (decide (lo≤n∧n≤hi)))∧w'=w:=by
 by_cases h1:lo≤n
 ·by_cases h2:n≤hi
  ·have h3:decide (lo≤n∧n≤hi)=true:=by simp;omega
   rw [h3];clear h3;go_enter Tryz.func69,Tryz.ntmps69;go_wp2;go_ret;exact ⟨rfl,rfl⟩
  ·have h3:decide (lo≤n∧n≤hi)=false:=by simp;omega
   have h4:decide (n≤hi)=false:=by simp;omega
   rw [h3];clear h3 h2;go_enter Tryz.func69,Tryz.ntmps69;go_wp2;go_ret;exact ⟨rfl,rfl⟩
 ·have h3:decide (lo≤n∧n≤hi)=false:=by simp;omega
  have h4:decide (lo≤n)=false:=by simp;omega
  rw [h3];clear h3 h1;go_enter Tryz.func69,Tryz.ntmps69;go_wp2;go_ret;exact ⟨rfl,rfl⟩
def KcCheck:Prop:=∀ (W:World) (t:Tm) (pt:Option Addr) (lt ct:Nat),TCame W t pt lt ct→Calls Tryz.prog 37 #[t.v pt lt ct] W fun e w'=>tar.ErrPost W (TFault t) e w'
end acc
namespace disk
open Go.RowKit cell
def KAppend:Prop:=∀ (W:World) (a:Option Addr) (n cap:Nat) (c:List Int) (b:Option Addr) (m cap2:Nat) (r:List Int),RowU W a n c→(a=none→cap=0)→n≤cap→n*4≤140737488351232→(∀ x∈c,0≤x∧x<4294967296)→RowU W b m r→(b=none→cap2=0)→m≤cap2→m*4≤140737488351232→(∀ x∈r,0≤x∧x<4294967296)→Calls Tryz.prog 108 #[.slice a n cap,.slice b m cap2] W fun e w'=>AppGot W c r e w'
end disk
end Go.Proofs.YtnpblpbohcegoaaGreatDoor
namespace Go.Proofs
open Go.Shelf
def Tryz.lays105_ren : Go.Shelf.Ren := ⟨fun | 105 => 54 | 212 => 89 | 99 => 90 | 165 => 91 | 166 => 92 | 170 => 93 | 169 => 94 | 263 => 135 | 264 => 136 | 206 => 137 | 240 => 138 | 241 => 139 | 276 => 171 | 277 => 172 | n => n, fun | 9 => 9 | 3 => 3 | 4 => 4 | 20 => 20 | 0 => 0 | 46 => 178 | 109 => 179 | 5 => 5 | 72 => 184 | 76 => 185 | 51 => 99 | 146 => 233 | 53 => 223 | 148 => 235 | 70 => 182 | 37 => 177 | 75 => 148 | 127 => 237 | 164 => 263 | 80 => 139 | n => n, fun | n => n⟩
theorem Tryz.lays105 : Go.Proofs.Lays.n105 Tryz.prog Tryz.lays105_ren := {
 mixed := by kernel_rfl
 f99 := Tryz.func90.trans (congrArg some (by kernel_rfl))
 f105 := Tryz.func54.trans (congrArg some (by kernel_rfl))
 f165 := Tryz.func91.trans (congrArg some (by kernel_rfl))
 f166 := Tryz.func92.trans (congrArg some (by kernel_rfl))
 f169 := Tryz.func94.trans (congrArg some (by kernel_rfl))
 f170 := Tryz.func93.trans (congrArg some (by kernel_rfl))
 f206 := Tryz.func137.trans (congrArg some (by kernel_rfl))
 f212 := Tryz.func89.trans (congrArg some (by kernel_rfl))
 f240 := Tryz.func138.trans (congrArg some (by kernel_rfl))
 f241 := Tryz.func139.trans (congrArg some (by kernel_rfl))
 f263 := Tryz.func135.trans (congrArg some (by kernel_rfl))
 f264 := Tryz.func136.trans (congrArg some (by kernel_rfl))
 f276 := Tryz.func171.trans (congrArg some (by kernel_rfl))
 f277 := Tryz.func172.trans (congrArg some (by kernel_rfl))
 t0 := Tryz.underlying0
 a0 := Tryz.isAgg0
 z0 := Tryz.sizeOf0
 v0 := Tryz.zeroValue0
 t3 := Tryz.underlying3
 a3 := Tryz.isAgg3
 z3 := Tryz.sizeOf3
 v3 := Tryz.zeroValue3
 t4 := Tryz.underlying4
 a4 := Tryz.isAgg4
 z4 := Tryz.sizeOf4
 v4 := Tryz.zeroValue4
 t5 := Tryz.underlying5
 a5 := Tryz.isAgg5
 z5 := Tryz.sizeOf5
 v5 := Tryz.zeroValue5
 t9 := Tryz.underlying9
 a9 := Tryz.isAgg9
 z9 := Tryz.sizeOf9
 v9 := Tryz.zeroValue9
 t20 := Tryz.underlying20
 a20 := Tryz.isAgg20
 z20 := Tryz.sizeOf20
 v20 := Tryz.zeroValue20
 t37 := Tryz.underlying177
 a37 := Tryz.isAgg177
 z37 := Tryz.sizeOf177
 v37 := Tryz.zeroValue177
 t46 := Tryz.underlying178
 a46 := Tryz.isAgg178
 z46 := Tryz.sizeOf178
 v46 := Tryz.zeroValue178
 t51 := Tryz.underlying99
 a51 := Tryz.isAgg99
 z51 := Tryz.sizeOf99
 v51 := Tryz.zeroValue99
 t53 := Tryz.underlying223
 a53 := Tryz.isAgg223
 z53 := Tryz.sizeOf223
 v53 := Tryz.zeroValue223
 t70 := Tryz.underlying182
 a70 := Tryz.isAgg182
 z70 := Tryz.sizeOf182
 v70 := Tryz.zeroValue182
 t72 := Tryz.underlying184
 a72 := Tryz.isAgg184
 z72 := Tryz.sizeOf184
 v72 := Tryz.zeroValue184
 t75 := Tryz.underlying148
 a75 := Tryz.isAgg148
 z75 := Tryz.sizeOf148
 v75 := Tryz.zeroValue148
 t76 := Tryz.underlying185
 a76 := Tryz.isAgg185
 z76 := Tryz.sizeOf185
 v76 := Tryz.zeroValue185
 t109 := Tryz.underlying179
 a109 := Tryz.isAgg179
 z109 := Tryz.sizeOf179
 v109 := Tryz.zeroValue179
 t127 := Tryz.underlying237
 a127 := Tryz.isAgg237
 z127 := Tryz.sizeOf237
 v127 := Tryz.zeroValue237
 t146 := Tryz.underlying233
 a146 := Tryz.isAgg233
 z146 := Tryz.sizeOf233
 v146 := Tryz.zeroValue233
 t148 := Tryz.underlying235
 a148 := Tryz.isAgg235
 z148 := Tryz.sizeOf235
 v148 := Tryz.zeroValue235
 t164 := Tryz.underlying263
 a164 := Tryz.isAgg263
 z164 := Tryz.sizeOf263
 v164 := Tryz.zeroValue263 }
theorem Tryz.Builder_Extra_105 : Builder.Extra Tryz.prog Tryz.lays105_ren := {
 sizeBuilder := by kernel_rfl
 liesBuilder := by kernel_rfl
 t5 := Tryz.underlying5
 a5 := Tryz.isAgg5
 z5 := Tryz.sizeOf5
 v5 := Tryz.zeroValue5
 infoByte := by kernel_rfl
 cellsByte := by kernel_rfl
 sizeByte := by kernel_rfl
 neB5 := by decide }
open Go.RowKit Go.Lib in
theorem Tryz.strings_Repeat (s : ByteArray) (c : Nat) (w : World) (hc : c ≤ 9223372036854775807) (hlen : s.size * c ≤ 140737488355328) :
  Calls Tryz.prog 54 #[.string s, .int .i64 c] w fun e w' => e = .returned (.string ⟨(Lib.repeatL s.data.toList c).toArray⟩) ∧ Below w.heap.size w w' := Any.strings_Repeat Tryz.lays105 Tryz.Builder_Extra_105 s c w hc hlen
end Go.Proofs
namespace Go.Proofs.YtnpblpbohcegoaaGreatDoor
end Go.Proofs.YtnpblpbohcegoaaGreatDoor
