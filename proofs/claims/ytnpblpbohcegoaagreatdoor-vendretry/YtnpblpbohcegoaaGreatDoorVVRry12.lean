import Derived.Test.YtnpblpbohcegoaaGreatDoorVVRry9
import Derived.Test.YtnpblpbohcegoaaGreatDoorVVRry11
set_option linter.unusedVariables false
set_option linter.unusedSimpArgs false
set_option maxHeartbeats 4000000
set_option maxRecDepth 100000
namespace Go.Proofs.YtnpblpbohcegoaaGreatDoor
namespace vnd
open disk (RepIs AppIs May repD lenAt)
open book (Ev ev0 EMay evL evOf EncIs DecIs Cm cm0 So so0 BookIs FirstAt NoneAt Tells billOf soldOf)
open acc (Ac Tm Bi SellIs GrantIs RekeyIs OweIs)
open ora (Pr IssueIs)
open cell (Wr)
open rcp (Rc rc0)
open token (Tok fmtL)
def DecOk (z:List Int):Prop:=z.length=13∧EMay (evOf z)
theorem DecOk.zero {z:List Int} {v:Ev} {e:Int} (h:DecOk z) (hd:DecIs z v e):e=0∧v=evOf z:=by
 rcases hd with ⟨p,_⟩ | ⟨_,q,_⟩ | ⟨_,_,r,s⟩
 ·exact absurd h.1 p
 ·exact absurd h.2 q
 ·exact ⟨s,r⟩
theorem dec_ok {z:List Int} {v:Ev} (hd:DecIs z v 0):DecOk z∧v=evOf z:=by
 rcases hd with ⟨_,_,r⟩ | ⟨_,_,_,r⟩ | ⟨p,q,r,_⟩
 ·cases r
 ·cases r
 ·exact ⟨⟨p,q⟩,r⟩
theorem dec_no {z:List Int} {v:Ev} {e:Int} (hd:DecIs z v e) (h:e≠0):v=ev0:=by
 rcases hd with ⟨_,r,_⟩ | ⟨_,_,r,_⟩ | ⟨_,_,_,r⟩
 ·exact r
 ·exact r
 ·exact absurd r h
def KeptIs (c:List Int) (l:List Ev) (e:Int):Prop:=
 ∃ o x f,RepIs c o x f∧((f≠0∧l=[]∧e=f)∨(f=0∧(∀ j,j<o.length→DecOk (o.getD j []))∧l=o.map evOf∧e=0) ∨
  (f=0∧e≠0∧l=[]∧∃ k,k<o.length∧(∀ j,j<k→DecOk (o.getD j []))∧DecIs (o.getD k []) ev0 e))
theorem KeptIs.one {c:List Int} {l l':List Ev} {e e':Int} (h:KeptIs c l e) (h':KeptIs c l' e'):l=l'∧e=e':=by
 obtain ⟨o,x,f,hr,h⟩:=h;obtain ⟨o',x',f',hr',h'⟩:=h';obtain ⟨rfl,rfl,rfl⟩:=hr.one hr';rcases h with ⟨p,rfl,rfl⟩ | ⟨p,q,rfl,rfl⟩ | ⟨p,q,rfl,k,k1,k2,k3⟩ <;> rcases h' with ⟨p',rfl,rfl⟩ | ⟨p',q',rfl,rfl⟩ | ⟨p',q',rfl,k',k1',k2',k3'⟩ <;> first | exact ⟨rfl,rfl⟩ | contradiction | skip
 ·exact absurd ((q k' k1').zero k3').1 q'
 ·exact absurd ((q' k k1).zero k3).1 q
 ·rcases Nat.lt_trichotomy k k' with c | c | c
  ·exact absurd ((k2' k c).zero k3).1 q
  ·subst c;exact ⟨rfl,(k3.one k3').2⟩
  ·exact absurd ((k2 k' c).zero k3').1 q'
def LoadIs (t:Tm) (c:List Int) (bk:List Cm) (f:Int):Prop:=∃ l e,KeptIs c l e∧((e≠0∧bk=[]∧f=e)∨(e=0∧∃ a,BookIs t l bk a f))
theorem LoadIs.one {t:Tm} {c:List Int} {b b':List Cm} {f f':Int} (h:LoadIs t c b f) (h':LoadIs t c b' f'):b=b'∧f=f':=by
 obtain ⟨l,e,hk,h⟩:=h;obtain ⟨l',e',hk',h'⟩:=h';obtain ⟨rfl,rfl⟩:=hk.one hk';rcases h with ⟨p,rfl,rfl⟩ | ⟨p,a,q⟩ <;> rcases h' with ⟨p',rfl,rfl⟩ | ⟨p',a',q'⟩ <;> first | exact ⟨rfl,rfl⟩ | contradiction | exact ⟨(q.one q').1,(q.one q').2.2⟩
def KeepIs (c:List Int) (v:Ev) (ls:List Wr) (f:Int):Prop:=
 ∃ l e,KeptIs c l e∧((¬ l.length<120∧ls=[]∧f=16)∨(l.length<120∧∃ ws g,EncIs v ws g∧((g≠0∧ls=[]∧f=g)∨(g=0∧AppIs c ws ls f))))
theorem KeepIs.no {c:List Int} {v:Ev} {l:List Wr} {f:Int} (h:KeepIs c v l f) (hf:f≠0):l=[]:=by
 obtain ⟨k,e,hk,⟨_,q,_⟩ | ⟨_,ws,g,_,⟨_,q,_⟩ | ⟨_,q⟩⟩⟩:=h
 ·exact q
 ·exact q
 ·rcases q with ⟨_,q,_⟩ | ⟨_,_,q,_⟩ | ⟨_,_,_,q,_⟩ | ⟨_,_,_,_,q,_⟩ | ⟨_,_,_,_,_,q⟩ <;> first | exact q | exact absurd q hf
def regE (me:Int):Ev:=⟨1,me,0,0,0,0,0,0,0,0,0,0,0⟩
def chaE (me ow bp:Int):Ev:=⟨5,me,0,0,0,0,0,0,0,0,0,ow,bp⟩
def tokE (kd me mo:Int) (l:Bi) (tg:Int):Ev:=⟨kd,me,mo,l.id,l.te,l.de,l.fe,l.pr,l.ch,l.un,tg,0,0⟩
def askE (kd me te mo:Int):Ev:=⟨kd,me,mo,0,te,0,0,0,0,0,0,0,0⟩
def RegIs (t:Tm) (c:List Int) (me:Int) (ls:List Wr) (f:Int):Prop:=
 ∃ bk g,LoadIs t c bk g∧((g≠0∧ls=[]∧f=g)∨(g=0∧¬ (0≤me∧me≤49)∧ls=[]∧f=2)∨(g=0∧(0≤me∧me≤49)∧¬ NoneAt bk me∧ls=[]∧f=21)∨(g=0∧(0≤me∧me≤49)∧NoneAt bk me∧KeepIs c (regE me) ls f))
def ChaIs (t:Tm) (c:List Int) (me ow bp:Int) (ls:List Wr) (f:Int):Prop:=
 ∃ bk g,LoadIs t c bk g∧((g≠0∧ls=[]∧f=g)∨(g=0∧NoneAt bk me∧ls=[]∧f=18)∨(g=0∧∃ k b h,FirstAt bk me k∧OweIs (bk.getD k cm0).a ⟨ow,bp⟩ b h∧((h≠0∧ls=[]∧f=h)∨(h=0∧KeepIs c (chaE me ow bp) ls f))))
def tokB (kd rv:Int) (l:Bi) (tg:Int):Tok:=if kd=4 then ⟨2,l.id.toNat,(rv+1).toNat,tg.toNat⟩ else ⟨0,l.id.toNat,l.un.toNat,tg.toNat⟩
def recB (kd rv me:Int) (l:Bi) (tg:Int):Rc:=⟨me,l.id,l.te,l.de,l.fe,l.pr,l.ch,l.un,fmtL (97*(tokB kd rv l tg).num)⟩
def Gone (ls:List Wr) (o':List Pr) (r:Rc) (f x:Int):Prop:=ls=[]∧o'=[]∧r=rc0∧f=x
def TagIs (kd rv me mo dr:Int) (c:List Int) (o:List Pr) (l:Bi) (ls:List Wr) (o':List Pr) (r:Rc) (f:Int):Prop:=
 ∃ o2 tg g,IssueIs o me rv ((tokB kd rv l 0).body:Int) dr o2 tg g∧((g≠0∧Gone ls o' r f g)∨(g=0∧∃ l2 g3,KeepIs c (tokE kd me mo l tg) l2 g3∧((g3≠0∧Gone ls o' r f g3)∨(g3=0∧ls=l2∧o'=o2∧r=recB kd rv me l tg∧f=0))))
def TokIs (kd:Int) (t:Tm) (c:List Int) (o:List Pr) (me te mo dr:Int) (ls:List Wr) (o':List Pr) (r:Rc) (f:Int):Prop:=
 ∃ bk g,LoadIs t c bk g∧((g≠0∧Gone ls o' r f g)∨(g=0∧NoneAt bk me∧Gone ls o' r f 18)∨(g=0∧∃ k b l h,FirstAt bk me k∧Tells t (bk.getD k cm0) (askE kd me te mo) b l h∧((h≠0∧Gone ls o' r f h)∨(h=0∧TagIs kd (bk.getD k cm0).a.rv me mo dr c o l ls o' r f))))
def RepIsP (t:Tm) (c:List Int) (me id:Int) (s:List UInt8) (f:Int):Prop:=
 ∃ bk g,LoadIs t c bk g∧((g≠0∧s=[]∧f=g)∨(g=0∧NoneAt bk me∧s=[]∧f=18)∨(g=0∧∃ k,FirstAt bk me k ∧
  (((∀ j,j<(bk.getD k cm0).so.length→((bk.getD k cm0).so.getD j so0).id≠id)∧s=[]∧f=22) ∨
   (∃ j,j<(bk.getD k cm0).so.length∧((bk.getD k cm0).so.getD j so0).id=id∧(∀ i,i<j→((bk.getD k cm0).so.getD i so0).id≠id)∧f=0 ∧
    s=fmtL (97*(Tok.mk ((bk.getD k cm0).so.getD j so0).cl.toNat id.toNat ((bk.getD k cm0).so.getD j so0).am.toNat ((bk.getD k cm0).so.getD j so0).tg.toNat).num)))))
end vnd
namespace book
open Go.RowKit
open acc (Ac Tm Bi APost BPost TFault TRight OpenIs)
def Ev.cl (x:Ev):List Value:=[zI x.kd,zI x.me,zI x.mo,zI x.id,zI x.te,zI x.de,zI x.fe,zI x.pr,zI x.ch,zI x.un,zI x.tg,zI x.ow,zI x.bp]
def RowE (w:World) (a:Option Addr) (n:Nat) (l:List Ev):Prop:=l.length=n∧(n=0∨∃ b off,a=some ⟨b,off,none⟩∧b<w.heap.size∧∀ i j,i<n→j<13→w.cell? ⟨b,off+i*13+j,none⟩=(l.getD i ev0).cl[j]?)
theorem putAll_get (vs:List Value):∀ (o:Nat) (cs:Array Value) (j:Nat),o+vs.length≤cs.size→(putAll cs o vs)[j]?=if o≤j∧j<o+vs.length then vs[j - o]? else cs[j]?:=by
 induction vs with
 | nil=>intro o cs j _;rw [if_neg (by simp only [List.length_nil];omega)];rfl
 | cons v r ih=>
  intro o cs j h;simp only [List.length_cons] at h;rw [putAll,ih (o+1) _ j (by simp;omega)];by_cases h1:o+1≤j∧j<o+1+r.length
  ·rw [if_pos h1,if_pos (by simp;omega),show j - o=(j - (o+1))+1 by omega,List.getElem?_cons_succ]
  ·rw [if_neg h1];by_cases h2:j=o
   ·subst h2;rw [if_pos (by simp only [List.length_cons];omega),Nat.sub_self];simp [show j<cs.size by omega]
   ·rw [if_neg (by simp;omega),Array.getElem?_setIfInBounds_ne (by omega)]
theorem putAll_size (vs:List Value):∀ (o:Nat) (cs:Array Value),(putAll cs o vs).size=cs.size:=by
 induction vs with
 | nil=>intro o cs;rfl
 | cons v r ih=>intro o cs;rw [putAll,ih];simp
theorem cellsC_get (xs:List Cu) (j:Nat):(cellsC xs)[j]?=if j<xs.length*8 then (xs.getD (j / 8) cu0).cs[j % 8]? else none:=by
 by_cases h:j<xs.length*8
 ·rw [if_pos h];have:=cellsC_at xs (j / 8) (j % 8) (by omega) (by omega);rw [show j / 8*8+j % 8=j by omega] at this;exact this
 ·rw [if_neg h,List.getElem?_eq_none (by rw [cellsC_len];omega)]
theorem lc_lies {w:World} {base n cap:Nat} {a:Option Addr} {xs:List Cu} (h:Lc w base (.slice a n cap) xs) (hn:0<n):∃ g cur,a=some ⟨g,0,none⟩∧base≤g∧Blk w g cur 54∧n*8≤cur.size∧∀ i j,i<xs.length→j<8→cur[i*8+j]?=(xs.getD i cu0).cs[j]?:=by
 rcases h.2 with ⟨h',h0⟩ | ⟨g,cap',cur,hv,hg,hc,hle,hm,hz,ht⟩
 ·simp only [Value.slice.injEq] at h';omega
 ·simp only [Value.slice.injEq] at hv;obtain ⟨rfl,rfl,rfl⟩:=hv;refine ⟨g,cur,rfl,hg,hc,by omega,fun i j hi hj=>?_⟩;have h1:cur.toList[i*8+j]?=(cellsC xs)[i*8+j]?:=by rw [← ht,List.getElem?_take_of_lt (by omega)]
  rw [Array.getElem?_toList] at h1;rw [h1];exact cellsC_at xs i j hi hj
theorem cuA_of {x:Cu} {a:Ac} (h:Nums x a):∃ dp dn dc sp sn sc,x=⟨a.me,a.rv,a.nx,a.mo,a.bo,a.fr,dp,dn,dc,sp,sn,sc⟩:=by
 cases x;obtain ⟨h1,h2,h3,h4,h5,h6⟩:=h;simp only at h1 h2 h3 h4 h5 h6;subst h1 h2 h3 h4 h5 h6;exact ⟨_,_,_,_,_,_,rfl⟩
open cell
def cellsK (l:List Int) (k:Nat):Array Value:=((l.take k++List.replicate (13 - k) 0).map (fun x=>Value.int .i64 x)).toArray
theorem cellsK_size (l:List Int) (h:l.length=13) (k:Nat) (hk:k≤13):(cellsK l k).size=13:=by simp [cellsK,h];omega
theorem cellsK_next (l:List Int) (h:l.length=13) (k:Nat) (hk:k<13):(cellsK l k).setIfInBounds k (zI (l.getD k 0))=cellsK l (k+1):=by
 match l,h with
 | [a0,a1,a2,a3,a4,a5,a6,a7,a8,a9,a10,a11,a12],_=>
  match k,hk with
  | 0,_=>rfl
  | 1,_=>rfl
  | 2,_=>rfl
  | 3,_=>rfl
  | 4,_=>rfl
  | 5,_=>rfl
  | 6,_=>rfl
  | 7,_=>rfl
  | 8,_=>rfl
  | 9,_=>rfl
  | 10,_=>rfl
  | 11,_=>rfl
  | 12,_=>rfl
theorem cellsK_all (l:List Int) (h:l.length=13):cellsK l 13=(evOf l).cs:=by
 match l,h with
 | [a0,a1,a2,a3,a4,a5,a6,a7,a8,a9,a10,a11,a12],_=>rfl
theorem indexP_0 (g:Nat) (W:World):(Instr.index 202 (.agg #[.pointer (some ⟨g,0,none⟩),.pointer (some ⟨g,1,none⟩),.pointer (some ⟨g,2,none⟩),.pointer (some ⟨g,3,none⟩),.pointer (some ⟨g,4,none⟩),.pointer (some ⟨g,5,none⟩),.pointer (some ⟨g,6,none⟩),.pointer (some ⟨g,7,none⟩),.pointer (some ⟨g,8,none⟩),.pointer (some ⟨g,9,none⟩),.pointer (some ⟨g,10,none⟩),.pointer (some ⟨g,11,none⟩),.pointer (some ⟨g,12,none⟩)]) (zI 0)).run Tryz.prog W = .ok (.pointer (some ⟨g,0,none⟩)) W:=by kernel_rfl
theorem indexP_1 (g:Nat) (W:World):(Instr.index 202 (.agg #[.pointer (some ⟨g,0,none⟩),.pointer (some ⟨g,1,none⟩),.pointer (some ⟨g,2,none⟩),.pointer (some ⟨g,3,none⟩),.pointer (some ⟨g,4,none⟩),.pointer (some ⟨g,5,none⟩),.pointer (some ⟨g,6,none⟩),.pointer (some ⟨g,7,none⟩),.pointer (some ⟨g,8,none⟩),.pointer (some ⟨g,9,none⟩),.pointer (some ⟨g,10,none⟩),.pointer (some ⟨g,11,none⟩),.pointer (some ⟨g,12,none⟩)]) (zI 1)).run Tryz.prog W = .ok (.pointer (some ⟨g,1,none⟩)) W:=by kernel_rfl
theorem indexP_2 (g:Nat) (W:World):(Instr.index 202 (.agg #[.pointer (some ⟨g,0,none⟩),.pointer (some ⟨g,1,none⟩),.pointer (some ⟨g,2,none⟩),.pointer (some ⟨g,3,none⟩),.pointer (some ⟨g,4,none⟩),.pointer (some ⟨g,5,none⟩),.pointer (some ⟨g,6,none⟩),.pointer (some ⟨g,7,none⟩),.pointer (some ⟨g,8,none⟩),.pointer (some ⟨g,9,none⟩),.pointer (some ⟨g,10,none⟩),.pointer (some ⟨g,11,none⟩),.pointer (some ⟨g,12,none⟩)]) (zI 2)).run Tryz.prog W = .ok (.pointer (some ⟨g,2,none⟩)) W:=by kernel_rfl
theorem indexP_3 (g:Nat) (W:World):(Instr.index 202 (.agg #[.pointer (some ⟨g,0,none⟩),.pointer (some ⟨g,1,none⟩),.pointer (some ⟨g,2,none⟩),.pointer (some ⟨g,3,none⟩),.pointer (some ⟨g,4,none⟩),.pointer (some ⟨g,5,none⟩),.pointer (some ⟨g,6,none⟩),.pointer (some ⟨g,7,none⟩),.pointer (some ⟨g,8,none⟩),.pointer (some ⟨g,9,none⟩),.pointer (some ⟨g,10,none⟩),.pointer (some ⟨g,11,none⟩),.pointer (some ⟨g,12,none⟩)]) (zI 3)).run Tryz.prog W = .ok (.pointer (some ⟨g,3,none⟩)) W:=by kernel_rfl
theorem indexP_4 (g:Nat) (W:World):(Instr.index 202 (.agg #[.pointer (some ⟨g,0,none⟩),.pointer (some ⟨g,1,none⟩),.pointer (some ⟨g,2,none⟩),.pointer (some ⟨g,3,none⟩),.pointer (some ⟨g,4,none⟩),.pointer (some ⟨g,5,none⟩),.pointer (some ⟨g,6,none⟩),.pointer (some ⟨g,7,none⟩),.pointer (some ⟨g,8,none⟩),.pointer (some ⟨g,9,none⟩),.pointer (some ⟨g,10,none⟩),.pointer (some ⟨g,11,none⟩),.pointer (some ⟨g,12,none⟩)]) (zI 4)).run Tryz.prog W = .ok (.pointer (some ⟨g,4,none⟩)) W:=by kernel_rfl
theorem indexP_5 (g:Nat) (W:World):(Instr.index 202 (.agg #[.pointer (some ⟨g,0,none⟩),.pointer (some ⟨g,1,none⟩),.pointer (some ⟨g,2,none⟩),.pointer (some ⟨g,3,none⟩),.pointer (some ⟨g,4,none⟩),.pointer (some ⟨g,5,none⟩),.pointer (some ⟨g,6,none⟩),.pointer (some ⟨g,7,none⟩),.pointer (some ⟨g,8,none⟩),.pointer (some ⟨g,9,none⟩),.pointer (some ⟨g,10,none⟩),.pointer (some ⟨g,11,none⟩),.pointer (some ⟨g,12,none⟩)]) (zI 5)).run Tryz.prog W = .ok (.pointer (some ⟨g,5,none⟩)) W:=by kernel_rfl
theorem indexP_6 (g:Nat) (W:World):(Instr.index 202 (.agg #[.pointer (some ⟨g,0,none⟩),.pointer (some ⟨g,1,none⟩),.pointer (some ⟨g,2,none⟩),.pointer (some ⟨g,3,none⟩),.pointer (some ⟨g,4,none⟩),.pointer (some ⟨g,5,none⟩),.pointer (some ⟨g,6,none⟩),.pointer (some ⟨g,7,none⟩),.pointer (some ⟨g,8,none⟩),.pointer (some ⟨g,9,none⟩),.pointer (some ⟨g,10,none⟩),.pointer (some ⟨g,11,none⟩),.pointer (some ⟨g,12,none⟩)]) (zI 6)).run Tryz.prog W = .ok (.pointer (some ⟨g,6,none⟩)) W:=by kernel_rfl
theorem indexP_7 (g:Nat) (W:World):(Instr.index 202 (.agg #[.pointer (some ⟨g,0,none⟩),.pointer (some ⟨g,1,none⟩),.pointer (some ⟨g,2,none⟩),.pointer (some ⟨g,3,none⟩),.pointer (some ⟨g,4,none⟩),.pointer (some ⟨g,5,none⟩),.pointer (some ⟨g,6,none⟩),.pointer (some ⟨g,7,none⟩),.pointer (some ⟨g,8,none⟩),.pointer (some ⟨g,9,none⟩),.pointer (some ⟨g,10,none⟩),.pointer (some ⟨g,11,none⟩),.pointer (some ⟨g,12,none⟩)]) (zI 7)).run Tryz.prog W = .ok (.pointer (some ⟨g,7,none⟩)) W:=by kernel_rfl
theorem indexP_8 (g:Nat) (W:World):(Instr.index 202 (.agg #[.pointer (some ⟨g,0,none⟩),.pointer (some ⟨g,1,none⟩),.pointer (some ⟨g,2,none⟩),.pointer (some ⟨g,3,none⟩),.pointer (some ⟨g,4,none⟩),.pointer (some ⟨g,5,none⟩),.pointer (some ⟨g,6,none⟩),.pointer (some ⟨g,7,none⟩),.pointer (some ⟨g,8,none⟩),.pointer (some ⟨g,9,none⟩),.pointer (some ⟨g,10,none⟩),.pointer (some ⟨g,11,none⟩),.pointer (some ⟨g,12,none⟩)]) (zI 8)).run Tryz.prog W = .ok (.pointer (some ⟨g,8,none⟩)) W:=by kernel_rfl
theorem indexP_9 (g:Nat) (W:World):(Instr.index 202 (.agg #[.pointer (some ⟨g,0,none⟩),.pointer (some ⟨g,1,none⟩),.pointer (some ⟨g,2,none⟩),.pointer (some ⟨g,3,none⟩),.pointer (some ⟨g,4,none⟩),.pointer (some ⟨g,5,none⟩),.pointer (some ⟨g,6,none⟩),.pointer (some ⟨g,7,none⟩),.pointer (some ⟨g,8,none⟩),.pointer (some ⟨g,9,none⟩),.pointer (some ⟨g,10,none⟩),.pointer (some ⟨g,11,none⟩),.pointer (some ⟨g,12,none⟩)]) (zI 9)).run Tryz.prog W = .ok (.pointer (some ⟨g,9,none⟩)) W:=by kernel_rfl
theorem indexP_10 (g:Nat) (W:World):(Instr.index 202 (.agg #[.pointer (some ⟨g,0,none⟩),.pointer (some ⟨g,1,none⟩),.pointer (some ⟨g,2,none⟩),.pointer (some ⟨g,3,none⟩),.pointer (some ⟨g,4,none⟩),.pointer (some ⟨g,5,none⟩),.pointer (some ⟨g,6,none⟩),.pointer (some ⟨g,7,none⟩),.pointer (some ⟨g,8,none⟩),.pointer (some ⟨g,9,none⟩),.pointer (some ⟨g,10,none⟩),.pointer (some ⟨g,11,none⟩),.pointer (some ⟨g,12,none⟩)]) (zI 10)).run Tryz.prog W = .ok (.pointer (some ⟨g,10,none⟩)) W:=by kernel_rfl
theorem indexP_11 (g:Nat) (W:World):(Instr.index 202 (.agg #[.pointer (some ⟨g,0,none⟩),.pointer (some ⟨g,1,none⟩),.pointer (some ⟨g,2,none⟩),.pointer (some ⟨g,3,none⟩),.pointer (some ⟨g,4,none⟩),.pointer (some ⟨g,5,none⟩),.pointer (some ⟨g,6,none⟩),.pointer (some ⟨g,7,none⟩),.pointer (some ⟨g,8,none⟩),.pointer (some ⟨g,9,none⟩),.pointer (some ⟨g,10,none⟩),.pointer (some ⟨g,11,none⟩),.pointer (some ⟨g,12,none⟩)]) (zI 11)).run Tryz.prog W = .ok (.pointer (some ⟨g,11,none⟩)) W:=by kernel_rfl
theorem indexP_12 (g:Nat) (W:World):(Instr.index 202 (.agg #[.pointer (some ⟨g,0,none⟩),.pointer (some ⟨g,1,none⟩),.pointer (some ⟨g,2,none⟩),.pointer (some ⟨g,3,none⟩),.pointer (some ⟨g,4,none⟩),.pointer (some ⟨g,5,none⟩),.pointer (some ⟨g,6,none⟩),.pointer (some ⟨g,7,none⟩),.pointer (some ⟨g,8,none⟩),.pointer (some ⟨g,9,none⟩),.pointer (some ⟨g,10,none⟩),.pointer (some ⟨g,11,none⟩),.pointer (some ⟨g,12,none⟩)]) (zI 12)).run Tryz.prog W = .ok (.pointer (some ⟨g,12,none⟩)) W:=by kernel_rfl
theorem indexP (g:Nat) (k:Nat) (hk:k<13) (W:World):(Instr.index 202 (.agg #[.pointer (some ⟨g,0,none⟩),.pointer (some ⟨g,1,none⟩),.pointer (some ⟨g,2,none⟩),.pointer (some ⟨g,3,none⟩),.pointer (some ⟨g,4,none⟩),.pointer (some ⟨g,5,none⟩),.pointer (some ⟨g,6,none⟩),.pointer (some ⟨g,7,none⟩),.pointer (some ⟨g,8,none⟩),.pointer (some ⟨g,9,none⟩),.pointer (some ⟨g,10,none⟩),.pointer (some ⟨g,11,none⟩),.pointer (some ⟨g,12,none⟩)]) (zI (k:Int))).run Tryz.prog W = .ok (.pointer (some ⟨g,k,none⟩)) W:=by
 match k,hk with
 | 0,_=>exact indexP_0 g W
 | 1,_=>exact indexP_1 g W
 | 2,_=>exact indexP_2 g W
 | 3,_=>exact indexP_3 g W
 | 4,_=>exact indexP_4 g W
 | 5,_=>exact indexP_5 g W
 | 6,_=>exact indexP_6 g W
 | 7,_=>exact indexP_7 g W
 | 8,_=>exact indexP_8 g W
 | 9,_=>exact indexP_9 g W
 | 10,_=>exact indexP_10 g W
 | 11,_=>exact indexP_11 g W
 | 12,_=>exact indexP_12 g W
theorem bevent (a:Option Addr) (cap:Nat) (l:List Int) (w:World) (hr:RowU w a 13 l) (hm:∀ x∈l,0≤x∧x<4294967296):Calls Tryz.prog 66 #[.slice a 13 cap] w fun e w'=>e = .returned (evOf l).v∧Below w.heap.size w w':=by
 have hlen:=hr.1;obtain ⟨b,off,rfl,lb,hc⟩:=hr.at (by decide)
 have HM:Hid (∀ k,k<13→0≤l.getD k 0∧l.getD k 0<4294967296):=fun k hk=>hm _ (by
  have hl:k<l.length:=by omega
  rw [show l.getD k 0=l[k] by simp [List.getD,List.getElem?_eq_getElem hl]]
  exact List.getElem_mem _)
 have HC:Hid (∀ W,Below w.heap.size w W→∀ k,k<13→W.cell? ⟨b,off+k,none⟩=some (.int .u32 (l.getD k 0))):=fun W hB k hk=>(hB.cell (p:=⟨b,off+k,none⟩) lb).trans (hc k hk);have HIX:Hid (∀ k:Nat,k<13→∀ W,(Instr.index 202 (.agg #[.pointer (some ⟨w.heap.size+1,0,none⟩),.pointer (some ⟨w.heap.size+1,1,none⟩),.pointer (some ⟨w.heap.size+1,2,none⟩),.pointer (some ⟨w.heap.size+1,3,none⟩),.pointer (some ⟨w.heap.size+1,4,none⟩),.pointer (some ⟨w.heap.size+1,5,none⟩),.pointer (some ⟨w.heap.size+1,6,none⟩),.pointer (some ⟨w.heap.size+1,7,none⟩),.pointer (some ⟨w.heap.size+1,8,none⟩),.pointer (some ⟨w.heap.size+1,9,none⟩),.pointer (some ⟨w.heap.size+1,10,none⟩),.pointer (some ⟨w.heap.size+1,11,none⟩),.pointer (some ⟨w.heap.size+1,12,none⟩)]) (zI (k:Int))).run Tryz.prog W = .ok (.pointer (some ⟨w.heap.size+1,k,none⟩)) W):=fun k hk W=>indexP _ k hk W;have HL:Hid (l.length=13):=hlen;clear hm hc hr lb hlen;obtain ⟨W0,HWW,HR0,HV0,HP0,HB0,-⟩:=sh3 w #[zI 0,zI 0,zI 0,zI 0,zI 0,zI 0,zI 0,zI 0,zI 0,zI 0,zI 0,zI 0,zI 0] 72 #[zI 0,zI 0,zI 0,zI 0,zI 0,zI 0,zI 0,zI 0,zI 0,zI 0,zI 0,zI 0,zI 0] 72 #[.pointer (some ⟨w.heap.size+1,0,none⟩),.pointer (some ⟨w.heap.size+1,1,none⟩),.pointer (some ⟨w.heap.size+1,2,none⟩),.pointer (some ⟨w.heap.size+1,3,none⟩),.pointer (some ⟨w.heap.size+1,4,none⟩),.pointer (some ⟨w.heap.size+1,5,none⟩),.pointer (some ⟨w.heap.size+1,6,none⟩),.pointer (some ⟨w.heap.size+1,7,none⟩),.pointer (some ⟨w.heap.size+1,8,none⟩),.pointer (some ⟨w.heap.size+1,9,none⟩),.pointer (some ⟨w.heap.size+1,10,none⟩),.pointer (some ⟨w.heap.size+1,11,none⟩),.pointer (some ⟨w.heap.size+1,12,none⟩)] 202;go_enter Tryz.func66,Tryz.ntmps66;go_upto_region 3 with fail
 rw [HWW.o];clear HWW;have p0:W0.cell? ⟨w.heap.size+1+1,0,none⟩=some (.pointer (some ⟨w.heap.size+1,0,none⟩)):=HP0.o.cell 0;have p1:W0.cell? ⟨w.heap.size+1+1,1,none⟩=some (.pointer (some ⟨w.heap.size+1,1,none⟩)):=HP0.o.cell 1;have p2:W0.cell? ⟨w.heap.size+1+1,2,none⟩=some (.pointer (some ⟨w.heap.size+1,2,none⟩)):=HP0.o.cell 2;have p3:W0.cell? ⟨w.heap.size+1+1,3,none⟩=some (.pointer (some ⟨w.heap.size+1,3,none⟩)):=HP0.o.cell 3;have p4:W0.cell? ⟨w.heap.size+1+1,4,none⟩=some (.pointer (some ⟨w.heap.size+1,4,none⟩)):=HP0.o.cell 4;have p5:W0.cell? ⟨w.heap.size+1+1,5,none⟩=some (.pointer (some ⟨w.heap.size+1,5,none⟩)):=HP0.o.cell 5;have p6:W0.cell? ⟨w.heap.size+1+1,6,none⟩=some (.pointer (some ⟨w.heap.size+1,6,none⟩)):=HP0.o.cell 6;have p7:W0.cell? ⟨w.heap.size+1+1,7,none⟩=some (.pointer (some ⟨w.heap.size+1,7,none⟩)):=HP0.o.cell 7;have p8:W0.cell? ⟨w.heap.size+1+1,8,none⟩=some (.pointer (some ⟨w.heap.size+1,8,none⟩)):=HP0.o.cell 8;have p9:W0.cell? ⟨w.heap.size+1+1,9,none⟩=some (.pointer (some ⟨w.heap.size+1,9,none⟩)):=HP0.o.cell 9;have p10:W0.cell? ⟨w.heap.size+1+1,10,none⟩=some (.pointer (some ⟨w.heap.size+1,10,none⟩)):=HP0.o.cell 10;have p11:W0.cell? ⟨w.heap.size+1+1,11,none⟩=some (.pointer (some ⟨w.heap.size+1,11,none⟩)):=HP0.o.cell 11;have p12:W0.cell? ⟨w.heap.size+1+1,12,none⟩=some (.pointer (some ⟨w.heap.size+1,12,none⟩)):=HP0.o.cell 12;go_wp2_with fail;clear HP0 p0 p1 p2 p3 p4 p5 p6 p7 p8 p9 p10 p11 p12;go_loopw [31] (fun v31 wr=>∃ (k:Nat),k≤13∧v31=zI (k:Int)∧Blk wr w.heap.size #[zI 0,zI 0,zI 0,zI 0,zI 0,zI 0,zI 0,zI 0,zI 0,zI 0,zI 0,zI 0,zI 0] 72∧Blk wr (w.heap.size+1) (cellsK l k) 72∧Below w.heap.size w wr) (fun v31 _=>13 - (intOf v31).toNat)
 case atStart=>exact ⟨0,Nat.zero_le _,rfl,HR0.o,HV0.o,HB0.o⟩
 case round=>
  obtain ⟨k,hk,rfl,hR,hV,hbl⟩:=hrel;have HR:Hid (Blk wr w.heap.size #[zI 0,zI 0,zI 0,zI 0,zI 0,zI 0,zI 0,zI 0,zI 0,zI 0,zI 0,zI 0,zI 0] 72):=hR;have HV:Hid (Blk wr (w.heap.size+1) (cellsK l k) 72):=hV;have HBL:Hid (Below w.heap.size w wr):=hbl;clear hR hV hbl HR0 HV0 HB0;by_cases hkm:k<13
  ·have hix:=HIX.o k hkm;have hz:=HM.o k hkm;have hcl:=HC.o wr HBL.o k hkm;have HNX:Hid ((cellsK l k).setIfInBounds k (zI (l.getD k 0))=cellsK l (k+1)):=cellsK_next l HL.o k hkm;have hks:k<(cellsK l k).size:=by rw [cellsK_size l HL.o k hk];exact hkm
   clear HIX HM HC;generalize l.getD k 0=z at *;have hwz:IntKind.i64.wrap z=z:=by rw [IntKind.wrap_i64];omega
   have hdl:decide ((k:Int)<13)=true:=decide_eq_true (by omega);have hb13:(0:Int)≤(k:Int)∧(k:Int)<((13:Nat):Int):=by omega
   clear hz;go_wp2_with (first | (refine wp_let1 rfl 3 _ _ rfl (w.heap.size+1) k rfl .i64 z rfl (by kernel_rfl) (cellsK l k) 72 HV.o hks ?_) | fail)
   intro W3 hU;have H3:Hid (Blk W3 (w.heap.size+1) (cellsK l (k+1)) 72):=by show Blk _ _ _ _;rw [← HNX.o];exact hU.blk
   have HR3:=shK hU HR (by omega);have HB3:=shV hU HBL (by omega);clear hU hcl;go_wp2_with fail;go_roundw
   case rel=>exact ⟨k+1,by omega,by go_num,HR3.o,H3.o,HB3.o⟩
   case measure=>simp [intOf];omega
  ·obtain rfl:k=13:=by omega
   have hdl:decide (((13:Nat):Int)<13)=false:=decide_eq_false (by omega)
   have HFN:Hid (Blk wr (w.heap.size+1) (evOf l).cs 72):=by
    show Blk _ _ _ _;rw [← cellsK_all l HL.o];exact HV.o
   clear HV;obtain ⟨v,hv⟩:∃ v,v=evOf l:=⟨_,rfl⟩
   have HVE:Hid (v=evOf l):=hv;rw [← hv] at HFN;clear hv;unfold Ev.cs at HFN;have c0:wr.cell? ⟨w.heap.size+1,0,none⟩=some (zI v.kd):=HFN.o.cell 0;have c1:wr.cell? ⟨w.heap.size+1,1,none⟩=some (zI v.me):=HFN.o.cell 1;have c2:wr.cell? ⟨w.heap.size+1,2,none⟩=some (zI v.mo):=HFN.o.cell 2;have c3:wr.cell? ⟨w.heap.size+1,3,none⟩=some (zI v.id):=HFN.o.cell 3;have c4:wr.cell? ⟨w.heap.size+1,4,none⟩=some (zI v.te):=HFN.o.cell 4;have c5:wr.cell? ⟨w.heap.size+1,5,none⟩=some (zI v.de):=HFN.o.cell 5;have c6:wr.cell? ⟨w.heap.size+1,6,none⟩=some (zI v.fe):=HFN.o.cell 6;have c7:wr.cell? ⟨w.heap.size+1,7,none⟩=some (zI v.pr):=HFN.o.cell 7;have c8:wr.cell? ⟨w.heap.size+1,8,none⟩=some (zI v.ch):=HFN.o.cell 8;have c9:wr.cell? ⟨w.heap.size+1,9,none⟩=some (zI v.un):=HFN.o.cell 9;have c10:wr.cell? ⟨w.heap.size+1,10,none⟩=some (zI v.tg):=HFN.o.cell 10;have c11:wr.cell? ⟨w.heap.size+1,11,none⟩=some (zI v.ow):=HFN.o.cell 11;have c12:wr.cell? ⟨w.heap.size+1,12,none⟩=some (zI v.bp):=HFN.o.cell 12;go_wp2_with (first | (refine zql rfl rfl rfl rfl zqu72 (by simp [Value.oneCell']) HR rfl ?_) | fail)
   intro W3 hU;have HRV:Hid (Blk W3 w.heap.size #[zI v.kd,zI v.me,zI v.mo,zI v.id,zI v.te,zI v.de,zI v.fe,zI v.pr,zI v.ch,zI v.un,zI v.tg,zI v.ow,zI v.bp] 72):=hU.blk;have HB3:=shV hU HBL (by omega);clear hU c0 c1 c2 c3 c4 c5 c6 c7 c8 c9 c10 c11 c12;obtain ⟨r0,r1,r2,r3,r4,r5,r6,r7,r8,r9,r10,r11,r12⟩:=scl13 HRV;go_wp2_with fail;exact bodyPost_ret (v:= .agg #[zI v.kd,zI v.me,zI v.mo,zI v.id,zI v.te,zI v.de,zI v.fe,zI v.pr,zI v.ch,zI v.un,zI v.tg,zI v.ow,zI v.bp]) (by simp [results,Tryz.results66,r0,r1,r2,r3,r4,r5,r6,r7,r8,r9,r10,r11,r12,go_sem]) rfl ⟨by rw [← HVE.o];rfl,HB3.o⟩
end book
namespace deb
open tar (Du du0 Came RowD Ld ErrPost TwoPost PairT)
open Go.RowKit
def SharePost (ls:List Du) (t bp:Int) (w:World) (e:Ending) (w':World):Prop:=∃ s f,e = .returned (.tuple #[zI s,zI f])∧((¬ Mays ls∧FaultIs ls f∧s=0)∨(Mays ls∧ShareIs t bp s f))∧Below w.heap.size w w'
theorem pshare (a:Option Addr) (len cap:Nat) (ls:List Du) (t bp:Int) (w:World) (hr:RowD w a len ls) (hl:len≤maxLen):Calls Tryz.prog 191 #[.slice a len cap,zI t,zI bp] w fun e w'=>SharePost ls t bp w e w':=by
 have HFA:Hid (Calls Tryz.prog 199 #[.slice a len cap] w fun e w'=>∃ f,e = .returned (zI f)∧FaultIs ls f∧Below w.heap.size w w'):=pcheck a len cap ls w hr hl;have HIT:Hid (∀ W,Calls Tryz.prog 202 #[zI 0,zI 100000000,zI t] W fun e w'=>e = .returned (.bool (decide (0≤t∧t≤100000000)))∧w'=W):=fun W=>dwithin 0 100000000 t W;clear hr hl;go_enter Tryz.func191,Tryz.ntmps191;go_wp2_with fail;refine HFA.o.mono ?_;rintro e w1 ⟨f,rfl,hf,hb1⟩;have HB1:Hid (Below w.heap.size w w1):=hb1;have HF:Hid (FaultIs ls f):=hf;clear hb1 HFA;by_cases h0:f=0
 ·subst h0;have HM:Hid (Mays ls):=hf.ok.1 rfl;clear hf HF;by_cases ht:0≤t∧t≤100000000
  ·rw [decide_eq_true ht] at HIT;by_cases hb:0≤bp∧bp≤10000
   ·have HPA:Hid (∀ W,Calls Tryz.prog 165 #[zI t,zI bp] W fun e w'=>e = .returned (.tuple #[zI (t*bp / 10000),zI 0])∧Below W.heap.size W w'):=fun W=>cents.part_yes t bp W ht.1 (by omega) hb.1 hb.2;have HT:Hid (TMay t bp):=⟨ht,hb⟩
    clear ht hb;go_wp2_with fail;refine (HIT.o _).mono ?_;rintro e w2 ⟨rfl,hw2⟩;subst hw2;go_wp2_with fail;refine (HPA.o _).mono ?_;rintro e w3 ⟨rfl,hb3⟩;have HB3:=shB HB1 hb3;clear hb3;go_wp2_with fail;go_ret2;exact ⟨_,_,rfl,.inr ⟨HM.o,.inl ⟨HT.o,rfl,rfl⟩⟩,HB3.o⟩
   ·have HPA:Hid (∀ W,Calls Tryz.prog 165 #[zI t,zI bp] W fun e w'=>e = .returned (.tuple #[zI 0,zI 2])∧Below W.heap.size W w'):=fun W=>cents.part_no t bp W (.inr (by omega));have HT:Hid (¬ TMay t bp):=fun h=>hb h.2;clear ht hb;go_wp2_with fail;refine (HIT.o _).mono ?_;rintro e w2 ⟨rfl,hw2⟩;subst hw2;go_wp2_with fail;refine (HPA.o _).mono ?_;rintro e w3 ⟨rfl,hb3⟩;have HB3:=shB HB1 hb3;clear hb3;go_wp2_with fail;go_ret2;exact ⟨_,_,rfl,.inr ⟨HM.o,.inr ⟨HT.o,rfl,rfl⟩⟩,HB3.o⟩
  ·rw [decide_eq_false ht] at HIT;have HT:Hid (¬ TMay t bp):=fun h=>ht h.1;clear ht;go_wp2_with fail;refine (HIT.o _).mono ?_;rintro e w2 ⟨rfl,hw2⟩;subst hw2;go_wp2_with fail;go_ret2;exact ⟨_,_,rfl,.inr ⟨HM.o,.inr ⟨HT.o,rfl,rfl⟩⟩,HB1.o⟩
 ·have hne:(f != 0)=true:=by simpa using h0
  have HN:Hid (¬ Mays ls):=fun h=>h0 (hf.ok.2 h);clear hf h0 HIT;go_wp2_with fail;go_ret2;exact ⟨_,_,rfl,.inl ⟨HN.o,HF.o,rfl⟩,HB1.o⟩
end deb
end Go.Proofs.YtnpblpbohcegoaaGreatDoor
