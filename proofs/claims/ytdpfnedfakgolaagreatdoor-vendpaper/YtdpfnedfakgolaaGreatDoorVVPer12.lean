import Derived.Test.YtdpfnedfakgolaaGreatDoorVVPer7
import Derived.Test.YtdpfnedfakgolaaGreatDoorVVPer9
import Derived.Test.YtdpfnedfakgolaaGreatDoorVVPer10
import Derived.Test.YtdpfnedfakgolaaGreatDoorVVPer11
set_option linter.unusedVariables false
set_option linter.unusedSimpArgs false
set_option maxHeartbeats 4000000
set_option maxRecDepth 100000
namespace Go.Proofs.YtdpfnedfakgolaaGreatDoor
namespace book
open acc (Ac Tm Bi TFault TRight OweIs SellIs GrantIs RekeyIs)
structure Cm where
 a:Ac
 so:List So
def cm0:Cm:=⟨acc.ac0,[]⟩
def billOf (v:Ev):Bi:=⟨v.id,v.te,v.de,v.fe,v.pr,v.ch,v.un⟩
def soldOf (c:Cm) (v:Ev):So:=if v.kd=4 then ⟨v.id,2,c.a.rv+1,v.tg,c.a.rv⟩ else ⟨v.id,0,v.un,v.tg,c.a.rv⟩
def Tells (t:Tm) (c:Cm) (v:Ev) (b:Ac) (l:Bi) (e:Int):Prop:=(v.kd=2∧SellIs c.a t v.te v.mo b l e)∨(v.kd=3∧GrantIs c.a t v.mo b l e)∨(v.kd=4∧RekeyIs c.a b l e)
theorem Tells.one {t:Tm} {c:Cm} {v:Ev} {b b':Ac} {l l':Bi} {e e':Int} (h:Tells t c v b l e) (h':Tells t c v b' l' e'):b=b'∧l=l'∧e=e':=by
 rcases h with ⟨p,q⟩ | ⟨p,q⟩ | ⟨p,q⟩ <;> rcases h' with ⟨p',q'⟩ | ⟨p',q'⟩ | ⟨p',q'⟩ <;> first | exact q.one q' | omega
def HapIs (t:Tm) (c:Cm) (v:Ev) (c':Cm) (f:Int):Prop:=
 (v.kd=5∧∃ b,OweIs c.a ⟨v.ow,v.bp⟩ b f∧(f=0→c'=⟨b,c.so⟩)) ∨
 (v.kd≠5∧∃ b l e,Tells t c v b l e∧((e≠0∧f=e)∨(e=0∧l≠billOf v∧f=8)∨(e=0∧l=billOf v∧f=0∧c'=⟨b,c.so++[soldOf c v]⟩)))
theorem HapIs.one {t:Tm} {c c' d':Cm} {v:Ev} {f g:Int} (h:HapIs t c v c' f) (h':HapIs t c v d' g):f=g∧(f=0→c'=d'):=by
 rcases h with ⟨p,b,q,r⟩ | ⟨p,b,l,e,q,r⟩ <;> rcases h' with ⟨p',b',q',r'⟩ | ⟨p',b',l',e',q',r'⟩
 ·obtain ⟨rfl,rfl⟩:=q.one q';exact ⟨rfl,fun h=>(r h).trans (r' h).symm⟩
 ·exact absurd p p'
 ·exact absurd p' p
 ·obtain ⟨rfl,rfl,rfl⟩:=q.one q';rcases r with ⟨x,rfl⟩ | ⟨x,y,rfl⟩ | ⟨x,y,rfl,z⟩ <;> rcases r' with ⟨x',rfl⟩ | ⟨x',y',rfl⟩ | ⟨x',y',rfl,z'⟩ <;> first | exact ⟨rfl,fun h=>absurd h x⟩ | exact ⟨rfl,fun h=>absurd h (by decide)⟩ | exact ⟨rfl,fun _=>z.trans z'.symm⟩ | contradiction
def FirstAt (bk:List Cm) (me:Int) (k:Nat):Prop:=k<bk.length∧(bk.getD k cm0).a.me=me∧∀ j,j<k→(bk.getD j cm0).a.me≠me
def NoneAt (bk:List Cm) (me:Int):Prop:=∀ j,j<bk.length→(bk.getD j cm0).a.me≠me
theorem FirstAt.one {bk:List Cm} {me:Int} {k k':Nat} (h:FirstAt bk me k) (h':FirstAt bk me k'):k=k':=by
 rcases Nat.lt_trichotomy k k' with c | c | c
 ·exact absurd h.2.1 (h'.2.2 k c)
 ·exact c
 ·exact absurd h'.2.1 (h.2.2 k' c)
theorem FirstAt.some {bk:List Cm} {me:Int} {k:Nat} (h:FirstAt bk me k):¬ NoneAt bk me:=fun hn=>hn k h.1 h.2.1
def StepIs (t:Tm) (bk:List Cm) (v:Ev) (bk':List Cm) (f:Int):Prop:=
 (¬ EMay v∧f=5)∨(EMay v∧v.kd=1∧¬ NoneAt bk v.me∧f=21)∨(EMay v∧v.kd=1∧NoneAt bk v.me∧f=0∧bk'=bk++[⟨⟨v.me,0,1,0,0,-1,[]⟩,[]⟩]) ∨
 (EMay v∧v.kd≠1∧NoneAt bk v.me∧f=18)∨(EMay v∧v.kd≠1∧∃ k c',FirstAt bk v.me k∧HapIs t (bk.getD k cm0) v c' f∧(f=0→bk'=bk.set k c'))
theorem StepIs.one {t:Tm} {bk b b':List Cm} {v:Ev} {f f':Int} (h:StepIs t bk v b f) (h':StepIs t bk v b' f'):f=f'∧(f=0→b=b'):=by
 rcases h with ⟨p,rfl⟩ | ⟨p,q,r,rfl⟩ | ⟨p,q,r,rfl,s⟩ | ⟨p,q,r,rfl⟩ | ⟨p,q,k,c,hk,hh,hs⟩ <;> rcases h' with ⟨p',rfl⟩ | ⟨p',q',r',rfl⟩ | ⟨p',q',r',rfl,s'⟩ | ⟨p',q',r',rfl⟩ | ⟨p',q',k',c',hk',hh',hs'⟩ <;> first | contradiction | exact ⟨rfl,fun h=>absurd h (by decide)⟩ | exact ⟨rfl,fun _=>s.trans s'.symm⟩ | exact absurd r hk'.some | exact absurd r' hk.some | skip
 obtain rfl:=hk.one hk';obtain ⟨rfl,e⟩:=hh.one hh';exact ⟨rfl,fun h=>by rw [hs h,hs' h,e h]⟩
def BookIs (t:Tm) (l:List Ev) (bk:List Cm) (at_ f:Int):Prop:=
 (TFault t f∧f≠0∧bk=[]∧at_=0)∨(TRight t∧120<l.length∧bk=[]∧at_=0∧f=1) ∨
 (TRight t∧l.length≤120∧∃ (k:Nat) (st:Nat→List Cm),st 0=[]∧(∀ i,i<k→StepIs t (st i) (l.getD i ev0) (st (i+1)) 0) ∧
  ((k=l.length∧bk=st k∧at_=0∧f=0)∨(k<l.length∧(∃ x,StepIs t (st k) (l.getD k ev0) x f)∧f≠0∧bk=[]∧at_=(k:Int))))
theorem states_one {t:Tm} {l:List Ev} {k k':Nat} {st st':Nat→List Cm} (h0:st 0=[]) (h0':st' 0=[]) (h:∀ i,i<k→StepIs t (st i) (l.getD i ev0) (st (i+1)) 0) (h':∀ i,i<k'→StepIs t (st' i) (l.getD i ev0) (st' (i+1)) 0):∀ i,i≤k→i≤k'→st i=st' i
 | 0,_,_=>h0.trans h0'.symm
 | i+1,hk,hk'=>by
  have ih:=states_one h0 h0' h h' i (by omega) (by omega);have q:=h i (by omega);have q':=h' i (by omega);rw [ih] at q;exact (q.one q').2 rfl
theorem BookIs.one {t:Tm} {l:List Ev} {b b':List Cm} {a a' f f':Int} (h:BookIs t l b a f) (h':BookIs t l b' a' f'):b=b'∧a=a'∧f=f':=by
 rcases h with ⟨p,q,rfl,rfl⟩ | ⟨p,q,rfl,rfl,rfl⟩ | ⟨p,q,k,st,s0,s1,s2⟩ <;> rcases h' with ⟨p',q',rfl,rfl⟩ | ⟨p',q',rfl,rfl,rfl⟩ | ⟨p',q',k',st',s0',s1',s2'⟩
 ·exact ⟨rfl,rfl,p.one p'⟩
 ·exact absurd (p.ok.2 p') q
 ·exact absurd (p.ok.2 p') q
 ·exact absurd (p'.ok.2 p) q'
 ·exact ⟨rfl,rfl,rfl⟩
 ·omega
 ·exact absurd (p'.ok.2 p) q'
 ·omega
 ·have same:=states_one s0 s0' s1 s1';rcases s2 with ⟨e,rfl,rfl,rfl⟩ | ⟨e,⟨x,hx⟩,hf,rfl,rfl⟩ <;> rcases s2' with ⟨e',rfl,rfl,rfl⟩ | ⟨e',⟨x',hx'⟩,hf',rfl,rfl⟩
  ·have:k=k':=by omega
   subst this;exact ⟨same k (Nat.le_refl _) (Nat.le_refl _),rfl,rfl⟩
  ·have q:=s1 k' (by omega);rw [same k' (by omega) (Nat.le_refl _)] at q;exact absurd ((q.one hx').1.symm) hf'
  ·have q:=s1' k (by omega);rw [← same k (Nat.le_refl _) (by omega)] at q;exact absurd ((q.one hx).1.symm) hf
  ·rcases Nat.lt_trichotomy k k' with c | c | c
   ·have q:=s1' k c;rw [← same k (Nat.le_refl _) (by omega)] at q;exact absurd ((q.one hx).1.symm) hf
   ·subst c;rw [same k (Nat.le_refl _) (Nat.le_refl _)] at hx;exact ⟨rfl,rfl,(hx.one hx').1⟩
   ·have q:=s1 k' c;rw [same k' (by omega) (Nat.le_refl _)] at q;exact absurd ((q.one hx').1.symm) hf'
theorem run_more {t:Tm} {l:List Ev} {k:Nat} {st:Nat→List Cm} {bk:List Cm} (h:∀ i,i<k→StepIs t (st i) (l.getD i ev0) (st (i+1)) 0) (hs:StepIs t (st k) (l.getD k ev0) bk 0):∃ st':Nat→List Cm,st' 0=st 0∧st' (k+1)=bk∧(∀ i,i<k+1→StepIs t (st' i) (l.getD i ev0) (st' (i+1)) 0):=by
 refine ⟨fun i=>if i≤k then st i else bk,if_pos (Nat.zero_le _),if_neg (by omega),fun i hi=>?_⟩;show StepIs t (if i≤k then st i else bk) _ (if i+1≤k then st (i+1) else bk) 0;by_cases e:i=k
 ·subst e;rw [if_pos (Nat.le_refl _),if_neg (by omega)];exact hs
 ·rw [if_pos (by omega),if_pos (by omega)];exact h i (by omega)
end book
namespace disk
open Go.RowKit cell
def Wds (c:List Int):Prop:=∀ x∈c,0≤x∧x<4294967296
theorem wds_zero (n:Nat):Wds (List.replicate n 0):=fun x hx=>by
 rw [(List.mem_replicate.1 hx).2];decide
theorem wds_at {c:List Int} (h:Wds c) (j:Nat):0≤c.getD j 0∧c.getD j 0<4294967296:=by
 by_cases hj:j<c.length
 ·have e:c.getD j 0=c[j]:=by simp [List.getD,List.getElem?_eq_getElem hj]
  rw [e];exact h _ (List.getElem_mem hj)
 ·have e:c.getD j 0=0:=by simp [List.getD,List.getElem?_eq_none (Nat.le_of_not_lt hj)]
  rw [e];decide
theorem wds_set {c:List Int} (h:Wds c) (k:Nat) (x:Int) (hx:0≤x∧x<4294967296):Wds (c.set k x):=fun y hy=>by
 rcases List.mem_or_eq_of_mem_set hy with hy | rfl
 ·exact h y hy
 ·exact hx
def WrsOk (l:List Wr):Prop:=∀ e∈l,0≤e.d∧e.d<4294967296
theorem wds_wrt {c:List Int} (h:Wds c) (l:List Wr) (hl:WrsOk l):Wds (wrt c l):=by
 induction l generalizing c with
 | nil=>exact h
 | cons e l ih=>exact ih (wds_set h _ _ (hl e List.mem_cons_self)) fun x hx=>hl x (List.mem_cons_of_mem _ hx)
theorem wrs_put {r:List Int} (hr:Wds r) (a k:Nat):WrsOk (putW a r k):=by
 induction k with
 | zero=>intro e he;cases he
 | succ k ih=>
  intro e he;rcases List.mem_append.1 he with h | h
  ·exact ih e h
  ·rw [List.mem_singleton.1 h];exact wds_at hr k
theorem wrs_app {c r:List Int} (hr:Wds r) (hm:RMay r) (a:Nat):WrsOk (appW c a r):=by
 intro e he;unfold appW at he;rcases List.mem_append.1 he with h | h
 ·exact wrs_put hr a _ e h
 ·rcases List.mem_append.1 h with h | h
  ·unfold zeroW at h;split at h
   ·rw [List.mem_singleton.1 h];exact ⟨Int.le_refl _,by show (0:Int)<4294967296;decide⟩
   ·cases h
  ·rw [List.mem_singleton.1 h];have:=hm.2;exact ⟨by show (0:Int)≤(r.length:Int);omega,by show (r.length:Int)<_;omega⟩
theorem wrs_take {l:List Wr} (h:WrsOk l) (k:Nat):WrsOk (l.take k):=fun e he=>h e (List.mem_of_mem_take he)
theorem put_in {r:List Int} (a k n:Nat) (hn:a+k<n):cell.allN n (putW a r k)=true:=by
 induction k with
 | zero=>rfl
 | succ k ih=>exact cell.allN_snoc (ih (by omega)) ⟨by show (0:Int)≤((a+k+1:Nat):Int);omega,by show ((a+k+1:Nat):Int)<(n:Int);omega⟩
theorem app_in (c r:List Int) (a:Nat) (h:a+r.length<c.length):cell.allN c.length (appW c a r)=true:=by
 unfold appW;rw [← List.append_assoc];refine cell.allN_snoc ?_ ⟨by show (0:Int)≤(a:Int);omega,by show (a:Int)<(c.length:Int);omega⟩;unfold zeroW;split
 ·exact cell.allN_snoc (put_in a _ _ h) ⟨by show (0:Int)≤((a+r.length+1:Nat):Int);omega,by show ((a+r.length+1:Nat):Int)<(c.length:Int);omega⟩
 ·rw [List.append_nil];exact put_in a _ _ h
def Room (sl:List Sli):Prop:=∀ s∈sl,s.n≤s.c∧s.n≤20
theorem Room.at {sl:List Sli} (h:Room sl) (i:Nat) (hi:i<sl.length):(sl.getD i sl0).n≤(sl.getD i sl0).c∧(sl.getD i sl0).n≤20:=by
 have e:sl.getD i sl0=sl[i]:=by simp [List.getD,List.getElem?_eq_getElem hi]
 rw [e];exact h _ (List.getElem_mem hi)
end disk
section
open Go.RowKit
structure WQ (P : Program) (ops : Array Oper) (C : World → Prop) (Q : Act → Prop) (l : List Oper) (a : Act) : Prop where
 out : wpQuiet P ops C Q l a
theorem wq_nil {P : Program} {ops : Array Oper} {C : World → Prop} {Q : Act → Prop} {a : Act} (h : Q a) : WQ P ops C Q [] a := ⟨h⟩
theorem wq_step {P : Program} {ops : Array Oper} {C : World → Prop} {Q : Act → Prop} {a : Act} {o : Oper} {rest : List Oper}
  (h : ∀ K : Act → Prop, (∀ a, WQ P ops C Q rest a → K a) → if Region.wanted o (yielded ops a.tmps) then o.quiet P a C K else K (a.put o.dst undef)) : WQ P ops C Q (o :: rest) a :=
 ⟨wpQuiet_step fun K hK => h K fun a ha => hK a ha.out⟩
theorem wq_skip {P : Program} {ops : Array Oper} {C : World → Prop} {Q : Act → Prop} {a : Act} {o : Oper} {rest : List Oper} (hw : Region.wanted o (yielded ops a.tmps) = false) (h : WQ P ops C Q rest (a.put o.dst undef)) : WQ P ops C Q (o :: rest) a := by
 refine ⟨?_⟩
 unfold wpQuiet
 rw [if_neg (by rw [hw]; decide)]
 exact h.out
theorem wq_below {P : Program} {id : Nat} {Q : Exit → Act → World → Prop} {a : Act} {w : World} {l : List Oper} (hm : P.follows .mixedOrders = true) (hB : Region.lexB .any l.toArray = true)
  (h : WQ P l.toArray (fun w' => ∃ p : Regrown, w' = Sort.grow (redrawn w p.d) p.os) (fun a' => ∀ w', (∃ p : Regrown, w' = Sort.grow (redrawn w p.d) p.os) → Q .normal a' w') l a) : (Code.region id l.toArray true).wp P Q a w :=
 wp_region_quiet_below hm hB h.out
end
namespace book
open Go.RowKit
theorem bleft2 (kd me mo id te de fe pr ch un tg ow bp:Int) (w:World) (q2:(kd == 2)=true):Calls Tryz.prog 133 #[.agg #[zI kd,zI me,zI mo,zI id,zI te,zI de,zI fe,zI pr,zI ch,zI un,zI tg,zI ow,zI bp]] w fun e w'=>e = .returned (.agg #[zI 0,zI 0,zI 0,zI 0,zI 0,zI 0,zI 0,zI 0,zI 0,zI 0,zI 0,zI ow,zI bp])∧Below w.heap.size w w':=by
 go_enter Tryz.func133,Tryz.ntmps133;go_wp2;exact bodyPost_ret (v:= .agg #[zI 0,zI 0,zI 0,zI 0,zI 0,zI 0,zI 0,zI 0,zI 0,zI 0,zI 0,zI ow,zI bp]) (by simp [results,Tryz.results133,go_sem]) rfl ⟨rfl,bki.bel2 _ _ _⟩
theorem bleft3 (kd me mo id te de fe pr ch un tg ow bp:Int) (w:World) (q2:(kd == 2)=false) (q3:(kd == 3)=true):Calls Tryz.prog 133 #[.agg #[zI kd,zI me,zI mo,zI id,zI te,zI de,zI fe,zI pr,zI ch,zI un,zI tg,zI ow,zI bp]] w fun e w'=>e = .returned (.agg #[zI 0,zI 0,zI 0,zI 0,zI te,zI de,zI fe,zI pr,zI ch,zI 0,zI 0,zI ow,zI bp])∧Below w.heap.size w w':=by
 go_enter Tryz.func133,Tryz.ntmps133;go_wp2;exact bodyPost_ret (v:= .agg #[zI 0,zI 0,zI 0,zI 0,zI te,zI de,zI fe,zI pr,zI ch,zI 0,zI 0,zI ow,zI bp]) (by simp [results,Tryz.results133,go_sem]) rfl ⟨rfl,bki.bel2 _ _ _⟩
theorem bleft4 (kd me mo id te de fe pr ch un tg ow bp:Int) (w:World) (q2:(kd == 2)=false) (q3:(kd == 3)=false) (q4:(kd == 4)=true):Calls Tryz.prog 133 #[.agg #[zI kd,zI me,zI mo,zI id,zI te,zI de,zI fe,zI pr,zI ch,zI un,zI tg,zI ow,zI bp]] w fun e w'=>e = .returned (.agg #[zI 0,zI 0,zI mo,zI 0,zI te,zI de,zI fe,zI pr,zI ch,zI un,zI 0,zI ow,zI bp])∧Below w.heap.size w w':=by
 go_enter Tryz.func133,Tryz.ntmps133;go_wp2;exact bodyPost_ret (v:= .agg #[zI 0,zI 0,zI mo,zI 0,zI te,zI de,zI fe,zI pr,zI ch,zI un,zI 0,zI ow,zI bp]) (by simp [results,Tryz.results133,go_sem]) rfl ⟨rfl,bki.bel2 _ _ _⟩
theorem bleft5 (kd me mo id te de fe pr ch un tg ow bp:Int) (w:World) (q2:(kd == 2)=false) (q3:(kd == 3)=false) (q4:(kd == 4)=false) (q5:(kd == 5)=true):Calls Tryz.prog 133 #[.agg #[zI kd,zI me,zI mo,zI id,zI te,zI de,zI fe,zI pr,zI ch,zI un,zI tg,zI ow,zI bp]] w fun e w'=>e = .returned (.agg #[zI 0,zI 0,zI mo,zI id,zI te,zI de,zI fe,zI pr,zI ch,zI un,zI tg,zI 0,zI 0])∧Below w.heap.size w w':=by
 go_enter Tryz.func133,Tryz.ntmps133;go_wp2;exact bodyPost_ret (v:= .agg #[zI 0,zI 0,zI mo,zI id,zI te,zI de,zI fe,zI pr,zI ch,zI un,zI tg,zI 0,zI 0]) (by simp [results,Tryz.results133,go_sem]) rfl ⟨rfl,bki.bel2 _ _ _⟩
theorem bleft0 (kd me mo id te de fe pr ch un tg ow bp:Int) (w:World) (q2:(kd == 2)=false) (q3:(kd == 3)=false) (q4:(kd == 4)=false) (q5:(kd == 5)=false):Calls Tryz.prog 133 #[.agg #[zI kd,zI me,zI mo,zI id,zI te,zI de,zI fe,zI pr,zI ch,zI un,zI tg,zI ow,zI bp]] w fun e w'=>e = .returned (.agg #[zI 0,zI 0,zI mo,zI id,zI te,zI de,zI fe,zI pr,zI ch,zI un,zI tg,zI ow,zI bp])∧Below w.heap.size w w':=by
 go_enter Tryz.func133,Tryz.ntmps133;go_wp2;exact bodyPost_ret (v:= .agg #[zI 0,zI 0,zI mo,zI id,zI te,zI de,zI fe,zI pr,zI ch,zI un,zI tg,zI ow,zI bp]) (by simp [results,Tryz.results133,go_sem]) rfl ⟨rfl,bki.bel2 _ _ _⟩
theorem bleft (v:Ev) (w:World):Calls Tryz.prog 133 #[v.v] w fun e w'=>e = .returned (leftE v).v∧Below w.heap.size w w':=by
 obtain ⟨kd,me,mo,id,te,de,fe,pr,ch,un,tg,ow,bp⟩:=v;unfold leftE Ev.v;simp only;by_cases k2:kd=2
 ·rw [if_pos k2];exact bleft2 kd me mo id te de fe pr ch un tg ow bp w (by simpa using k2)
 rw [if_neg k2];by_cases k3:kd=3
 ·rw [if_pos k3];exact bleft3 kd me mo id te de fe pr ch un tg ow bp w (by simpa using k2) (by simpa using k3)
 rw [if_neg k3];by_cases k4:kd=4
 ·rw [if_pos k4];exact bleft4 kd me mo id te de fe pr ch un tg ow bp w (by simpa using k2) (by simpa using k3) (by simpa using k4)
 rw [if_neg k4];by_cases k5:kd=5
 ·rw [if_pos k5];exact bleft5 kd me mo id te de fe pr ch un tg ow bp w (by simpa using k2) (by simpa using k3) (by simpa using k4) (by simpa using k5)
 rw [if_neg k5];exact bleft0 kd me mo id te de fe pr ch un tg ow bp w (by simpa using k2) (by simpa using k3) (by simpa using k4) (by simpa using k5)
end book
namespace acc
open tar (Du du0 Came RowD Ld PairT)
open Go.RowKit
theorem kcheck:KcCheck:=by
 intro w t pt lt ct hc;have h:=hc.ts;unfold Tm.v;have HI0:Hid (∀ W,Calls Tryz.prog 114 #[zI 0,zI 100000,zI t.ff] W fun e w'=>e = .returned (.bool (decide (0≤t.ff∧t.ff≤100000)))∧w'=W):=fun W=>awithin 0 100000 t.ff W;have HI1:Hid (∀ W,Calls Tryz.prog 114 #[zI 0,zI 10000,zI t.fb] W fun e w'=>e = .returned (.bool (decide (0≤t.fb∧t.fb≤10000)))∧w'=W):=fun W=>awithin 0 10000 t.fb W;have HI2:Hid (∀ W,Calls Tryz.prog 114 #[zI 0,zI 10000,zI t.db] W fun e w'=>e = .returned (.bool (decide (0≤t.db∧t.db≤10000)))∧w'=W):=fun W=>awithin 0 10000 t.db W;have HI3:Hid (∀ W,Calls Tryz.prog 114 #[zI 0,zI 2097151,zI t.al] W fun e w'=>e = .returned (.bool (decide (0≤t.al∧t.al≤2097151)))∧w'=W):=fun W=>awithin 0 2097151 t.al W;obtain ⟨WW,HWW,HBK,HBA,-⟩:=sh1 w #[.slice pt lt ct,zI t.ff,zI t.fb,zI t.db,zI t.al] 30;have HTO:Hid (Calls Tryz.prog 113 #[.slice pt lt ct] WW fun e w'=>tar.ErrPost WW (tar.FaultIs t.ts) e w'):=tar.kcheck _ pt lt ct t.ts (h.below HBA.o);have c0:WW.cell? ⟨w.heap.size,0,none⟩=some (.slice pt lt ct):=HBK.o.cell 0;clear h hc;go_enter Tryz.func74,Tryz.ntmps74;go_upto_region 1 with fail
 rw [HWW.o];clear HWW;go_wp2_with fail;refine HTO.o.mono ?_;rintro e w1 ⟨f,rfl,hf,hb1⟩;have HB1:=shB HBA hb1;have HK1:=shN HBK hb1;have HF:Hid (tar.FaultIs t.ts f):=hf;clear hf hb1 HTO HBA HBK c0;obtain ⟨c0,c1,c2,c3,c4⟩:=scl5 HK1;by_cases h0:f=0
 ·have HR:Hid (tar.Right t.ts):=HF.o.ok.1 h0;subst h0;by_cases g0:0≤t.ff∧t.ff≤100000
  ·rw [decide_eq_true g0] at HI0;go_wp2_with fail;refine (HI0.o _).mono ?_;rintro e w2 ⟨rfl,hw2⟩;subst w2;by_cases g1:0≤t.fb∧t.fb≤10000
   ·rw [decide_eq_true g1] at HI1;go_wp2_with fail;refine (HI1.o _).mono ?_;rintro e w2 ⟨rfl,hw2⟩;subst w2;by_cases g2:0≤t.db∧t.db≤10000
    ·rw [decide_eq_true g2] at HI2;go_wp2_with fail;refine (HI2.o _).mono ?_;rintro e w2 ⟨rfl,hw2⟩;subst w2;by_cases g3:0≤t.al∧t.al≤2097151
     ·rw [decide_eq_true g3] at HI3;go_wp2_with fail;refine (HI3.o _).mono ?_;rintro e w2 ⟨rfl,hw2⟩;subst w2;have HV:Hid (TFault t 0):= .inr (.inr ⟨⟨HR.o,g0,g1,g2,g3⟩,rfl⟩);clear g0 g1 g2 g3;go_wp2_with fail;go_ret;exact ⟨0,rfl,HV.o,HB1.o⟩
     ·rw [decide_eq_false g3] at HI3;have HV:Hid (TFault t 2):= .inr (.inl ⟨HR.o,fun h=>g3 h.2.2.2,rfl⟩);clear g3;go_wp2_with fail;refine (HI3.o _).mono ?_;rintro e w2 ⟨rfl,hw2⟩;subst w2;go_wp2_with fail
      all_goals first
       | (rename_i q1 q2;exact absurd q1 (by simp [undef]))
       | (go_ret;exact ⟨2,rfl,HV.o,HB1.o⟩)
    ·rw [decide_eq_false g2] at HI2;have HV:Hid (TFault t 2):= .inr (.inl ⟨HR.o,fun h=>g2 h.2.2.1,rfl⟩);clear g2;go_wp2_with fail;refine (HI2.o _).mono ?_;rintro e w2 ⟨rfl,hw2⟩;subst w2;go_wp2_with fail
     all_goals first
      | (rename_i q1 q2;exact absurd q1 (by simp [undef]))
      | (go_ret;exact ⟨2,rfl,HV.o,HB1.o⟩)
   ·rw [decide_eq_false g1] at HI1;have HV:Hid (TFault t 2):= .inr (.inl ⟨HR.o,fun h=>g1 h.2.1,rfl⟩);clear g1;go_wp2_with fail;refine (HI1.o _).mono ?_;rintro e w2 ⟨rfl,hw2⟩;subst w2;go_wp2_with fail
    all_goals first
     | (rename_i q1 q2;exact absurd q1 (by simp [undef]))
     | (go_ret;exact ⟨2,rfl,HV.o,HB1.o⟩)
  ·rw [decide_eq_false g0] at HI0;have HV:Hid (TFault t 2):= .inr (.inl ⟨HR.o,fun h=>g0 h.1,rfl⟩);clear g0;go_wp2_with fail;refine (HI0.o _).mono ?_;rintro e w2 ⟨rfl,hw2⟩;subst w2;go_wp2_with fail
   all_goals first
    | (rename_i q1 q2;exact absurd q1 (by simp [undef]))
    | (go_ret;exact ⟨2,rfl,HV.o,HB1.o⟩)
 ·have d0:(f != 0)=true:=by simpa using h0
  have HV:Hid (TFault t f):= .inl ⟨fun h=>h0 (HF.o.ok.2 h),HF.o⟩;clear h0;go_wp2_with fail;go_ret;exact ⟨f,rfl,HV.o,HB1.o⟩
end acc
namespace deb
open tar (Du du0 Came RowD Ld ErrPost TwoPost PairT)
open Go.RowKit
theorem krec:KdRec:=by
 intro w a len cap ls t bp hcame ht0 hb0;have hr:=hcame.row;have HSH:Hid (Calls Tryz.prog 142 #[.slice a len cap,zI t,zI bp] w fun e w'=>SharePost ls t bp w e w'):=pshare a len cap ls t bp w hr hcame.most;have HROW0:Hid (RowD w a len ls):=hr;clear hcame hr ht0 hb0;go_enter Tryz.func123,Tryz.ntmps123;go_wp2_with fail;refine HSH.o.mono ?_;rintro e w1 ⟨s,f,rfl,hf,hb1⟩;have HB1:Hid (Below w.heap.size w w1):=hb1;clear hb1 HSH;rcases hf with ⟨hm,hf,rfl⟩ | ⟨hm,⟨ht,hse,hg⟩ | ⟨ht,rfl,rfl⟩⟩
 ·have hne:(f != 0)=true:=by simpa using fun h=>hm (hf.ok.1 h)
  have HN:Hid (¬ Mays ls):=hm;have HF:Hid (FaultIs ls f):=hf;clear hf hm;go_wp2_with fail;go_ret3;exact ⟨none,0,0,[],0,f,rfl,.inl ⟨HN.o,HF.o,rfl,rfl⟩,fresh_nil _ _,HB1.o⟩
 ·subst hg;have HT:Hid (TMay t bp):=ht;have hsb:=share_bd ht;rw [← hse] at hsb;have HSE:Hid (s=t*bp / 10000):=hse;have HM:Hid (Mays ls):=hm;have HROW:Hid (RowD w1 a len ls):=HROW0.o.below HB1.o;have HLEN:Hid (ls.length=len):=HROW.o.1;have hl8:len≤8:=by have:=hm.1;have:=HLEN.o;omega
  clear ht hse hm HROW0;go_wp2_with fail;go_loopw [11,12,29] (fun u v x wr=>∃ (k:Nat) (V:Value),k≤len∧x=zI (k:Int)∧v=zI (max 0 (s - sumK ls k))∧V=u∧Ld 83 wr w1.heap.size V (recK ls s k)∧Below w1.heap.size w1 wr) (fun _ _ x _=>len - (intOf x).toNat)
  case atStart=>exact ⟨0,_,Nat.zero_le _,rfl,by show _=Value.int .i64 (max 0 (s - 0));rw [show max 0 (s - 0)=s by omega],rfl,tar.Ld.zero _ _ _,Below.refl _ _⟩
  case round=>
   obtain ⟨k,V,hk,rfl,rfl,hV,hu,hb⟩:=hrel;subst hV;have HBW:Hid (Below w1.heap.size w1 wr):=hb;have HU:Hid (Ld 83 wr w1.heap.size V (recK ls s k)):=hu;have hsk:=sumK_bd HM.o k (by rw [HLEN.o];exact hk);by_cases hlt:k<len
   ·have hdl:decide ((k:Int)<(len:Int))=true:=by simp;omega
    obtain ⟨b,off,rfl,hbl,hc⟩:=HROW.o.at (by omega);have c0:wr.cell? ⟨b,off+k*2,none⟩=some (zI (ls.getD k du0).a):=(hb.cell (p:=⟨b,off+k*2,none⟩) hbl).trans (hc k hlt).1;have c1:wr.cell? ⟨b,off+k*2+1,none⟩=some (zI (ls.getD k du0).b):=(hb.cell (p:=⟨b,off+k*2+1,none⟩) hbl).trans (hc k hlt).2;have ho:=HM.o.2 k (by rw [HLEN.o];exact hlt);have ho1:=ho.1.1;have ho2:=ho.1.2;have HN:Hid (sumK ls k+(ls.getD k du0).a=sumK ls (k+1)):=(sumK_next ls k).symm;have HY:Hid (0<left (ls.getD k du0).a (sumK ls k+(ls.getD k du0).a) s→recK ls s (k+1)=recK ls s k++[⟨left (ls.getD k du0).a (sumK ls k+(ls.getD k du0).a) s,(ls.getD k du0).b⟩]):=recK_yes ls s k;have HZ:Hid (¬ 0<left (ls.getD k du0).a (sumK ls k+(ls.getD k du0).a) s→recK ls s (k+1)=recK ls s k):=recK_no ls s k;have hzl:(recK ls s k).length≤1000000:=by have:=recK_len ls s k;omega
    clear hc hb hu ho;generalize recK ls s k=Z at *;generalize hq1:sumK ls k=q at *;generalize (ls.getD k du0).a=x at *;generalize (ls.getD k du0).b=y at *;have HBX:Hid (Blk (wr.alloc (.cells #[zI x,zI y] 83)) wr.heap.size #[zI x,zI y] 83):=Blk.new wr _ _;generalize hR:max 0 (s - q)=R at *;have hR0:0≤R:=by omega
    have hR1:R≤100000000:=by omega
    have hmin:=tar.run_min R x _ rfl;generalize hp:min R x=p at *;have hp0:0≤p:=by omega
    have hp1:p≤x:=by omega
    have hp2:p≤R:=by omega
    by_cases hpos:0<x - p
    ·
     have HRN:Hid (R - p=max 0 (s - sumK ls (k+1))):=by show _=_;rw [← HN.o];omega
     have hd2:decide (0<x - p)=true:=decide_eq_true hpos;have hle:left x (q+x) s=x - p:=by unfold left;omega
     rw [hle] at HY;have HZ2:Hid (recK ls s (k+1)=Z++[⟨x - p,y⟩]):=HY.o hpos;clear HY HZ hle;clear hq1 hR hp hsk HN
     go_wp2_with (first
      | (refine wp_let1 rfl 3 _ _ rfl (wr.heap.size) 0 rfl .i64 (x - p) rfl (by kernel_rfl) #[zI x,zI y] 83 HBX.o (by simp) ?_)
      | fail)
     intro W1 hU1;have HX1:Hid (Blk W1 wr.heap.size #[zI (x - p),zI y] 83):=hU1.blk;have hbw:Below wr.heap.size wr W1:=hU1.bel _ _ (Nat.le_refl _) ((Below.refl _ _).alloc (Nat.le_refl _) _);have HBW1:=shB HBW hbw;have HU1:Hid (Ld 83 W1 w1.heap.size V Z):=HU.o.next hbw;have d0:W1.cell? ⟨wr.heap.size,0,none⟩=some (zI (x - p)):=HX1.o.cell 0;have d1:W1.cell? ⟨wr.heap.size,1,none⟩=some (zI y):=HX1.o.cell 1;clear hU1 hbw HBX HBW HU c0 c1;have HBA:Hid (Below w1.heap.size w1 (W1.alloc (.cells #[zI (x - p),zI y] 83))):=HBW1.o.alloc HBW1.o.size _;have HZA:Hid (Ld 83 (W1.alloc (.cells #[zI (x - p),zI y] 83)) w1.heap.size V Z):=HU1.o.alloc _;have HCA:Hid ((W1.alloc (.cells #[zI (x - p),zI y] 83)).cell? ⟨W1.heap.size,0,none⟩=some (zI (x - p))∧(W1.alloc (.cells #[zI (x - p),zI y] 83)).cell? ⟨W1.heap.size,1,none⟩=some (zI y)):=⟨(Blk.new W1 _ _).cell 0,(Blk.new W1 _ _).cell 1⟩
     go_wp2_with (first
      | (at_builtin;refine tar.wp_pair debtT rfl _ _ rfl w1.heap.size (W1.heap.size) V Z ⟨x - p,y⟩ rfl rfl HZA.o HCA.o hzl HBA.o.size ?_)
      | fail)
     intro v3 w3 h3 hg3;have HB3:Hid (Below w1.heap.size w1 w3):=tar.own_bel HZA.o hg3 HBA.o (Nat.le_refl _) HBA.o.size;have H3:Hid (Ld 83 w3 w1.heap.size v3 (Z++[⟨x - p,y⟩])):=h3;clear h3 hg3 HZA HCA HBA HU1 d0 d1;go_wp2_with fail;go_roundw
     case rel=>exact ⟨k+1,v3,by omega,by go_num,by rw [← HRN.o],by first | rfl | trivial,by rw [HZ2.o];exact H3.o,HB3.o⟩
     case measure=>simp [intOf];omega
    ·
     have HRN:Hid (R - p=max 0 (s - sumK ls (k+1))):=by show _=_;rw [← HN.o];omega
     have hd2:decide (0<x - p)=false:=decide_eq_false hpos;have hle:¬ 0<left x (q+x) s:=by unfold left;omega
     have HZ2:Hid (recK ls s (k+1)=Z):=HZ.o hle;clear HY HZ hle;clear hq1 hR hp hsk HN
     go_wp2_with (first
      | (refine wp_let1 rfl 3 _ _ rfl (wr.heap.size) 0 rfl .i64 (x - p) rfl (by kernel_rfl) #[zI x,zI y] 83 HBX.o (by simp) ?_)
      | fail)
     intro W1 hU1;have HX1:Hid (Blk W1 wr.heap.size #[zI (x - p),zI y] 83):=hU1.blk;have hbw:Below wr.heap.size wr W1:=hU1.bel _ _ (Nat.le_refl _) ((Below.refl _ _).alloc (Nat.le_refl _) _);have HBW1:=shB HBW hbw;have HU1:Hid (Ld 83 W1 w1.heap.size V Z):=HU.o.next hbw;have d0:W1.cell? ⟨wr.heap.size,0,none⟩=some (zI (x - p)):=HX1.o.cell 0;have d1:W1.cell? ⟨wr.heap.size,1,none⟩=some (zI y):=HX1.o.cell 1;clear hU1 hbw HBX HBW HU c0 c1;go_wp2_with fail;go_roundw
     case rel=>exact ⟨k+1,V,by omega,by go_num,by rw [← HRN.o],by first | rfl | trivial,by rw [HZ2.o];exact HU1.o,HBW1.o⟩
     case measure=>simp [intOf];omega
   ·obtain rfl:k=len:=by omega
    have hdl:decide ((k:Int)<(k:Int))=false:=by simp
    have HV:Hid (sumK ls k=sumD ls):=by have:=sumK_all ls;rw [HLEN.o] at this;exact this
    have HRE:Hid (recK ls s k=recK ls (t*bp / 10000) ls.length):=by show _=_;rw [HLEN.o,HSE.o]
    have hmz:Mays (recK ls s k):=⟨Nat.le_trans (recK_len ls s k) hl8,fits_mem fun d hd=>(recK_ok HM.o s k (by rw [HLEN.o];exact Nat.le_refl _) d hd).1⟩
    obtain ⟨a3,cap3,hv3,hcm⟩:=ld_fresh hu hmz;subst hv3;have HCM:Hid (Fresh wr w.heap.size a3 (recK ls s k).length cap3 (recK ls s k)):=hcm.low HB1.o.size;have HB9:Hid (Below w.heap.size w wr):=HB1.o.trans (HBW.o.mono HB1.o.size);have HP:Hid (s - max 0 (s - sumK ls k)=min (t*bp / 10000) (sumD ls)):=by show _=_;rw [← HSE.o,← HV.o];omega
    clear hb hu hmz hcm HU;generalize (recK ls s k).length=len3 at *;generalize recK ls s k=Z at *;generalize hq:max 0 (s - sumK ls k)=q at *;have hq0:0≤q:=by omega
    have hq1:q≤s:=by omega
    clear hq hsk;go_wp2_with fail;go_ret3;exact ⟨a3,len3,cap3,Z,s - q,0,rfl,.inr (.inr ⟨HM.o,HT.o,rfl,HRE.o,HP.o⟩),HCM.o,HB9.o⟩
 ·have HM:Hid (Mays ls):=hm;have HT:Hid (¬ TMay t bp):=ht;clear ht hm;go_wp2_with fail;go_ret3;exact ⟨none,0,0,[],0,2,rfl,.inr (.inl ⟨HM.o,HT.o,rfl,rfl,rfl⟩),fresh_nil _ _,HB1.o⟩
theorem ktotal:KdTotal:=by
 intro w a len cap ls hcame;have hr:=hcame.row;have HFA:Hid (Calls Tryz.prog 150 #[.slice a len cap] w fun e w'=>∃ f,e = .returned (zI f)∧FaultIs ls f∧Below w.heap.size w w'):=pcheck a len cap ls w hr hcame.most;have HOW:Hid (Mays ls→∀ W,Below w.heap.size w W→Calls Tryz.prog 151 #[.slice a len cap] W fun e w'=>e = .returned (zI (sumD ls))∧Below W.heap.size W w'):=fun hm W hW=>powed a len cap ls W (hr.below hW) hm;clear hcame hr;go_enter Tryz.func139,Tryz.ntmps139;go_wp2_with fail;refine HFA.o.mono ?_;rintro e w1 ⟨f,rfl,hf,hb1⟩;have HB1:Hid (Below w.heap.size w w1):=hb1;have HF:Hid (FaultIs ls f):=hf;clear hb1 HFA;by_cases h0:f=0
 ·subst h0;have hm:=hf.ok.1 rfl;have HO2:Hid (Calls Tryz.prog 151 #[.slice a len cap] w1 fun e w'=>e = .returned (zI (sumD ls))∧Below w1.heap.size w1 w'):=HOW.o hm w1 HB1.o;clear hf hm HOW;go_wp2_with fail;refine HO2.o.mono ?_;rintro e w2 ⟨rfl,hb2⟩;have HB2:=shB HB1 hb2;clear hb2 HO2;go_wp2_with fail;go_ret2;exact ⟨_,_,rfl,⟨HF.o,.inl ⟨rfl,rfl⟩⟩,HB2.o⟩
 ·have hne:(f != 0)=true:=by simpa using h0
  have HN:Hid (f≠0):=h0;clear hf h0 HOW;go_wp2_with fail;go_ret2;exact ⟨_,_,rfl,⟨HF.o,.inr ⟨HN.o,rfl⟩⟩,HB1.o⟩
end deb
end Go.Proofs.YtdpfnedfakgolaaGreatDoor
