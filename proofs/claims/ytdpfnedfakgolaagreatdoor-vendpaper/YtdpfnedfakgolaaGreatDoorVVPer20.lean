import Derived.Test.YtdpfnedfakgolaaGreatDoorVVPer14
import Derived.Test.YtdpfnedfakgolaaGreatDoorVVPer17
import Derived.Test.YtdpfnedfakgolaaGreatDoorVVPer19
set_option linter.unusedVariables false
set_option linter.unusedSimpArgs false
set_option maxHeartbeats 4000000
set_option maxRecDepth 100000
namespace Go.Proofs.YtdpfnedfakgolaaGreatDoor
namespace vnd
open disk (RepIs AppIs May repD lenAt)
open book (Ev ev0 EMay evL evOf EncIs DecIs Cm cm0 So so0 BookIs FirstAt NoneAt Tells billOf soldOf)
open acc (Ac Tm Bi SellIs GrantIs RekeyIs OweIs)
open ora (Pr IssueIs)
open cell (Wr)
open rcp (Rc rc0)
open token (Tok fmtL)
def DecOk (z:List Int):Prop:=z.length=13∧EMay (evOf z)
theorem DecOk.zero {z:List Int} {v:Ev} {e:Int} (h:DecOk z) (hd:DecIs z v e):e=0∧v=evOf z:=by
 rcases hd with ⟨p,_⟩ | ⟨_,q,_⟩ | ⟨_,_,r,s⟩
 ·exact absurd h.1 p
 ·exact absurd h.2 q
 ·exact ⟨s,r⟩
theorem dec_ok {z:List Int} {v:Ev} (hd:DecIs z v 0):DecOk z∧v=evOf z:=by
 rcases hd with ⟨_,_,r⟩ | ⟨_,_,_,r⟩ | ⟨p,q,r,_⟩
 ·cases r
 ·cases r
 ·exact ⟨⟨p,q⟩,r⟩
theorem dec_no {z:List Int} {v:Ev} {e:Int} (hd:DecIs z v e) (h:e≠0):v=ev0:=by
 rcases hd with ⟨_,r,_⟩ | ⟨_,_,r,_⟩ | ⟨_,_,_,r⟩
 ·exact r
 ·exact r
 ·exact absurd r h
def KeptIs (c:List Int) (l:List Ev) (e:Int):Prop:=
 ∃ o x f,RepIs c o x f∧((f≠0∧l=[]∧e=f)∨(f=0∧(∀ j,j<o.length→DecOk (o.getD j []))∧l=o.map evOf∧e=0) ∨
  (f=0∧e≠0∧l=[]∧∃ k,k<o.length∧(∀ j,j<k→DecOk (o.getD j []))∧DecIs (o.getD k []) ev0 e))
theorem KeptIs.one {c:List Int} {l l':List Ev} {e e':Int} (h:KeptIs c l e) (h':KeptIs c l' e'):l=l'∧e=e':=by
 obtain ⟨o,x,f,hr,h⟩:=h;obtain ⟨o',x',f',hr',h'⟩:=h';obtain ⟨rfl,rfl,rfl⟩:=hr.one hr';rcases h with ⟨p,rfl,rfl⟩ | ⟨p,q,rfl,rfl⟩ | ⟨p,q,rfl,k,k1,k2,k3⟩ <;> rcases h' with ⟨p',rfl,rfl⟩ | ⟨p',q',rfl,rfl⟩ | ⟨p',q',rfl,k',k1',k2',k3'⟩ <;> first | exact ⟨rfl,rfl⟩ | contradiction | skip
 ·exact absurd ((q k' k1').zero k3').1 q'
 ·exact absurd ((q' k k1).zero k3).1 q
 ·rcases Nat.lt_trichotomy k k' with c | c | c
  ·exact absurd ((k2' k c).zero k3).1 q
  ·subst c;exact ⟨rfl,(k3.one k3').2⟩
  ·exact absurd ((k2 k' c).zero k3').1 q'
def LoadIs (t:Tm) (c:List Int) (bk:List Cm) (f:Int):Prop:=∃ l e,KeptIs c l e∧((e≠0∧bk=[]∧f=e)∨(e=0∧∃ a,BookIs t l bk a f))
theorem LoadIs.one {t:Tm} {c:List Int} {b b':List Cm} {f f':Int} (h:LoadIs t c b f) (h':LoadIs t c b' f'):b=b'∧f=f':=by
 obtain ⟨l,e,hk,h⟩:=h;obtain ⟨l',e',hk',h'⟩:=h';obtain ⟨rfl,rfl⟩:=hk.one hk';rcases h with ⟨p,rfl,rfl⟩ | ⟨p,a,q⟩ <;> rcases h' with ⟨p',rfl,rfl⟩ | ⟨p',a',q'⟩ <;> first | exact ⟨rfl,rfl⟩ | contradiction | exact ⟨(q.one q').1,(q.one q').2.2⟩
def KeepIs (c:List Int) (v:Ev) (ls:List Wr) (f:Int):Prop:=
 ∃ l e,KeptIs c l e∧((¬ l.length<120∧ls=[]∧f=16)∨(l.length<120∧∃ ws g,EncIs v ws g∧((g≠0∧ls=[]∧f=g)∨(g=0∧AppIs c ws ls f))))
theorem KeepIs.no {c:List Int} {v:Ev} {l:List Wr} {f:Int} (h:KeepIs c v l f) (hf:f≠0):l=[]:=by
 obtain ⟨k,e,hk,⟨_,q,_⟩ | ⟨_,ws,g,_,⟨_,q,_⟩ | ⟨_,q⟩⟩⟩:=h
 ·exact q
 ·exact q
 ·rcases q with ⟨_,q,_⟩ | ⟨_,_,q,_⟩ | ⟨_,_,_,q,_⟩ | ⟨_,_,_,_,q,_⟩ | ⟨_,_,_,_,_,q⟩ <;> first | exact q | exact absurd q hf
def regE (me:Int):Ev:=⟨1,me,0,0,0,0,0,0,0,0,0,0,0⟩
def chaE (me ow bp:Int):Ev:=⟨5,me,0,0,0,0,0,0,0,0,0,ow,bp⟩
def tokE (kd me mo:Int) (l:Bi) (tg:Int):Ev:=⟨kd,me,mo,l.id,l.te,l.de,l.fe,l.pr,l.ch,l.un,tg,0,0⟩
def askE (kd me te mo:Int):Ev:=⟨kd,me,mo,0,te,0,0,0,0,0,0,0,0⟩
def RegIs (t:Tm) (c:List Int) (me:Int) (ls:List Wr) (f:Int):Prop:=
 ∃ bk g,LoadIs t c bk g∧((g≠0∧ls=[]∧f=g)∨(g=0∧¬ (0≤me∧me≤49)∧ls=[]∧f=2)∨(g=0∧(0≤me∧me≤49)∧¬ NoneAt bk me∧ls=[]∧f=21)∨(g=0∧(0≤me∧me≤49)∧NoneAt bk me∧KeepIs c (regE me) ls f))
def ChaIs (t:Tm) (c:List Int) (me ow bp:Int) (ls:List Wr) (f:Int):Prop:=
 ∃ bk g,LoadIs t c bk g∧((g≠0∧ls=[]∧f=g)∨(g=0∧NoneAt bk me∧ls=[]∧f=18)∨(g=0∧∃ k b h,FirstAt bk me k∧OweIs (bk.getD k cm0).a ⟨ow,bp⟩ b h∧((h≠0∧ls=[]∧f=h)∨(h=0∧KeepIs c (chaE me ow bp) ls f))))
def tokB (kd rv:Int) (l:Bi) (tg:Int):Tok:=if kd=4 then ⟨2,l.id.toNat,(rv+1).toNat,tg.toNat⟩ else ⟨0,l.id.toNat,l.un.toNat,tg.toNat⟩
def recB (kd rv me:Int) (l:Bi) (tg:Int):Rc:=⟨me,l.id,l.te,l.de,l.fe,l.pr,l.ch,l.un,fmtL (97*(tokB kd rv l tg).num)⟩
def Gone (ls:List Wr) (o':List Pr) (r:Rc) (f x:Int):Prop:=ls=[]∧o'=[]∧r=rc0∧f=x
def TagIs (kd rv me mo dr:Int) (c:List Int) (o:List Pr) (l:Bi) (ls:List Wr) (o':List Pr) (r:Rc) (f:Int):Prop:=
 ∃ o2 tg g,IssueIs o me rv ((tokB kd rv l 0).body:Int) dr o2 tg g∧((g≠0∧Gone ls o' r f g)∨(g=0∧∃ l2 g3,KeepIs c (tokE kd me mo l tg) l2 g3∧((g3≠0∧Gone ls o' r f g3)∨(g3=0∧ls=l2∧o'=o2∧r=recB kd rv me l tg∧f=0))))
def TokIs (kd:Int) (t:Tm) (c:List Int) (o:List Pr) (me te mo dr:Int) (ls:List Wr) (o':List Pr) (r:Rc) (f:Int):Prop:=
 ∃ bk g,LoadIs t c bk g∧((g≠0∧Gone ls o' r f g)∨(g=0∧NoneAt bk me∧Gone ls o' r f 18)∨(g=0∧∃ k b l h,FirstAt bk me k∧Tells t (bk.getD k cm0) (askE kd me te mo) b l h∧((h≠0∧Gone ls o' r f h)∨(h=0∧TagIs kd (bk.getD k cm0).a.rv me mo dr c o l ls o' r f))))
open book (Sees)
open cell (RowU)
open Go.RowKit
def LoadPost (w:World) (t:Tm) (c:List Int) (e:Ending) (w':World):Prop:=∃ p m cap xs bk f,e = .returned (.tuple #[.agg #[.slice p m cap],zI f])∧LoadIs t c bk f∧Sees w' p m xs bk∧m≤120∧Below w.heap.size w w'
structure Dk (w:World) (a:Option Addr) (n cap:Nat) (c:List Int):Prop where
 row:RowU w a n c
 nil:a=none→cap=0
 room:n≤cap
 bytes:n*4≤140737488351232
 wd:∀ x∈c,0≤x∧x<4294967296
theorem Dk.below {w w':World} {a:Option Addr} {n cap:Nat} {c:List Int} (h:Dk w a n cap c) (hb:Below w.heap.size w w'):Dk w' a n cap c:=⟨h.row.below hb,h.nil,h.room,h.bytes,h.wd⟩
open cell (RowW)
def WrGot (w:World) (R:List Wr→Int→Prop) (e:Ending) (w':World):Prop:=∃ p m cp ls f,e = .returned (.tuple #[.slice p m cp,zI f])∧R ls f∧RowW w' p m ls∧(∀ x,p=some x→w.heap.size≤x.block)∧m≤cp∧m≤100000∧Below w.heap.size w w'
end vnd
namespace rcp
open Go.RowKit
def Rc.cs (r:Rc):Array Value:=#[zI r.me,zI r.id,zI r.te,zI r.de,zI r.fe,zI r.pr,zI r.ch,zI r.un,.string ⟨r.tk.toArray⟩]
def Rc.v (r:Rc):Value:= .agg r.cs
def FaultPost (w:World) (r:Rc) (e:Ending) (w':World):Prop:=∃ f,e = .returned (zI f)∧FaultIs r f∧Below w.heap.size w w'
end rcp
namespace vnd
open disk (RepIs AppIs May repD lenAt appW)
open book (Ev ev0 EMay evL evOf EncIs DecIs Cm cm0 So so0 BookIs FirstAt NoneAt Tells billOf soldOf StepIs HapIs)
open acc (Ac Tm Bi SellIs GrantIs RekeyIs OweIs)
open ora (Pr IssueIs)
open cell (Wr wrt)
theorem getD_mapL (l:List Ev) (j:Nat) (h:j<l.length):(l.map evL).getD j []=evL (l.getD j ev0):=by
 simp [List.getD,List.getElem?_eq_getElem h]
theorem getD_inE {l:List Ev} {j:Nat} (h:j<l.length):l.getD j ev0∈l:=by
 have e:l.getD j ev0=l[j]:=by simp [List.getD,List.getElem?_eq_getElem h]
 rw [e];exact List.getElem_mem _
theorem map_back (l:List Ev):(l.map evL).map evOf=l:=by
 induction l with
 | nil=>rfl
 | cons v l ih=>rw [List.map_cons,List.map_cons,ih,book.evOf_L]
theorem kept_tape {c:List Int} {l:List Ev} {e:Nat} (h:disk.Tape c (l.map evL) e) (hm:∀ v∈l,EMay v):KeptIs c l 0:=by
 obtain ⟨h1,h2,h3⟩:=h;refine ⟨l.map evL,(e:Int),0,.inr (.inr ⟨h1,by rw [h2];exact h3,by rw [h2],by rw [h2],rfl⟩),.inr (.inl ⟨rfl,?_,(map_back l).symm,rfl⟩)⟩;intro j hj;rw [List.length_map] at hj;rw [getD_mapL l j hj];exact ⟨rfl,by rw [book.evOf_L];exact hm _ (getD_inE hj)⟩
theorem load_tape {t:Tm} {c:List Int} {l:List Ev} {e:Nat} {bk:List Cm} {a f:Int} (h:disk.Tape c (l.map evL) e) (hm:∀ v∈l,EMay v) (hb:BookIs t l bk a f):LoadIs t c bk f:=⟨l,0,kept_tape h hm,.inr ⟨rfl,a,hb⟩⟩
theorem rmay_ev (v:Ev):disk.RMay (evL v):=⟨by rw [book.evL_len];omega,by rw [book.evL_len];omega⟩
theorem keep_tape {c:List Int} {l:List Ev} {e:Nat} {v:Ev} {ls:List Wr} {f:Int} (h:disk.Tape c (l.map evL) e) (hm:∀ v∈l,EMay v) (hv:EMay v) (hn:l.length<120) (hf:e+13<c.length) (hk:KeepIs c v ls f):ls=appW c e (evL v)∧f=0:=by
 obtain ⟨l',e',hk',h'⟩:=hk;obtain ⟨rfl,rfl⟩:=hk'.one (kept_tape h hm);rcases h' with ⟨p,_⟩ | ⟨_,ws,g,hen,h2⟩
 ·exact absurd hn p
 ·obtain ⟨rfl,rfl⟩:=hen.one (.inl ⟨hv,rfl,rfl⟩);rcases h2 with ⟨p,_⟩ | ⟨_,ha⟩
  ·exact absurd rfl p
  ·rcases h.app ha (rmay_ev v) with ⟨_,b,d⟩ | ⟨b,_⟩
   ·exact ⟨b,d⟩
   ·rw [book.evL_len] at b;omega
theorem tape_next {c:List Int} {l:List Ev} {e:Nat} {v:Ev} (h:disk.Tape c (l.map evL) e) (hf:e+13<c.length):disk.Tape (wrt c (appW c e (evL v))) ((l++[v]).map evL) (e+14):=by
 have:=h.all (rmay_ev v) (by rw [book.evL_len];exact hf);rw [book.evL_len] at this;rw [List.map_append];exact this
theorem tape_cut {c:List Int} {l:List Ev} {e:Nat} {v:Ev} {k:Nat} (h:disk.Tape c (l.map evL) e) (hf:e+13<c.length) (hk:k<(appW c e (evL v)).length):disk.Tape (wrt c ((appW c e (evL v)).take k)) (l.map evL) e:=
 h.cut (by rw [book.evL_len];exact hf) hk
theorem book_ok {t:Tm} {l:List Ev} {bk:List Cm} {a:Int} (h:BookIs t l bk a 0):acc.TRight t∧l.length≤120∧a=0∧∃ st:Nat→List Cm,st 0=[]∧(∀ i,i<l.length→StepIs t (st i) (l.getD i ev0) (st (i+1)) 0)∧bk=st l.length:=by
 rcases h with ⟨_,p,_⟩ | ⟨_,_,_,_,p⟩ | ⟨p,q,k,st,s0,s1,⟨rfl,s2,s3,_⟩ | ⟨_,_,s2,_⟩⟩
 ·exact absurd rfl p
 ·cases p
 ·exact ⟨p,q,s3,st,s0,s1,s2⟩
 ·exact absurd rfl s2
theorem getD_app1 (l:List Ev) (v:Ev) (i:Nat) (h:i<l.length):(l++[v]).getD i ev0=l.getD i ev0:=by
 simp [List.getD,List.getElem?_append_left h]
theorem getD_app2 (l:List Ev) (v:Ev):(l++[v]).getD l.length ev0=v:=by
 simp [List.getD]
theorem book_next {t:Tm} {l:List Ev} {bk bk':List Cm} {v:Ev} (h:BookIs t l bk 0 0) (hl:l.length<120) (hs:StepIs t bk v bk' 0):BookIs t (l++[v]) bk' 0 0:=by
 obtain ⟨ht,_,_,st,s0,s1,rfl⟩:=book_ok h;obtain ⟨st',a0,a1,a2⟩:=book.run_more (l:=l++[v]) (k:=l.length) (st:=st) (bk:=bk') (fun i hi=>by rw [getD_app1 l v i hi];exact s1 i hi) (by rw [getD_app2];exact hs);refine .inr (.inr ⟨ht,by rw [List.length_append];simp;omega,l.length+1,st',a0.trans s0,a2,.inl ⟨by rw [List.length_append];rfl,a1.symm,rfl,rfl⟩⟩)
def Grows (a b:List Cm):Prop:=a.length≤b.length∧∀ i,i<a.length→(b.getD i cm0).a.me=(a.getD i cm0).a.me∧∃ s,(b.getD i cm0).so=(a.getD i cm0).so++s
theorem sell_same {a:Ac} {t:Tm} {te m:Int} {b:Ac} {l:Bi} (h:SellIs a t te m b l 0):b.me=a.me∧b.rv=a.rv∧b.nx=a.nx+1∧l.id=a.nx:=by
 rcases h with ⟨h,rfl,rfl⟩ | ⟨_,_,h,_⟩ | ⟨_,_,_,h,_⟩ | ⟨_,_,_,_,u,_,rfl,rfl⟩
 ·rcases h with ⟨_,h⟩ | ⟨_,h1,h2⟩ | ⟨_,_,_,h⟩
  ·cases h
  ·exact absurd (h2.ok.1 rfl) h1
  ·exact absurd rfl h.ne
 ·cases h
 ·cases h
 ·exact ⟨rfl,rfl,rfl,rfl⟩
theorem grant_same {a:Ac} {t:Tm} {m:Int} {b:Ac} {l:Bi} (h:GrantIs a t m b l 0):b.me=a.me∧b.rv=a.rv∧b.nx=a.nx+1∧l.id=a.nx:=by
 rcases h with ⟨h,rfl,rfl⟩ | ⟨_,_,h,_⟩ | ⟨_,_,_,h,_⟩ | ⟨_,_,_,_,h,_⟩ | ⟨_,_,_,_,_,rfl,rfl⟩
 ·rcases h with ⟨_,h⟩ | ⟨_,h1,h2⟩ | ⟨_,_,_,h⟩
  ·cases h
  ·exact absurd (h2.ok.1 rfl) h1
  ·exact absurd rfl h.ne
 ·cases h
 ·cases h
 ·cases h
 ·exact ⟨rfl,rfl,rfl,rfl⟩
theorem rekey_same {a b:Ac} {l:Bi} (h:RekeyIs a b l 0):b.me=a.me∧b.rv=a.rv+1∧b.nx=a.nx+1∧l.id=a.nx:=by
 rcases h with ⟨_,_,_,h⟩ | ⟨_,_,_,_,h⟩ | ⟨_,_,_,_,_,h⟩ | ⟨_,_,_,rfl,rfl,_⟩
 ·cases h
 ·cases h
 ·cases h
 ·exact ⟨rfl,rfl,rfl,rfl⟩
theorem owe_same {a b:Ac} {q:tar.Du} (h:OweIs a q b 0):b.me=a.me∧b.rv=a.rv∧b.nx=a.nx:=by
 rcases h with ⟨_,_,h⟩ | ⟨_,_,_,h⟩ | ⟨_,_,_,_,h⟩ | ⟨_,_,_,rfl,_⟩
 ·cases h
 ·cases h
 ·cases h
 ·exact ⟨rfl,rfl,rfl⟩
theorem tells_same {t:Tm} {c:Cm} {v:Ev} {b:Ac} {l:Bi} (h:Tells t c v b l 0):b.me=c.a.me∧c.a.rv≤b.rv∧b.nx=c.a.nx+1∧l.id=c.a.nx:=by
 rcases h with ⟨_,h⟩ | ⟨_,h⟩ | ⟨_,h⟩
 ·obtain ⟨h1,h2,h3,h4⟩:=sell_same h;exact ⟨h1,by omega,h3,h4⟩
 ·obtain ⟨h1,h2,h3,h4⟩:=grant_same h;exact ⟨h1,by omega,h3,h4⟩
 ·obtain ⟨h1,h2,h3,h4⟩:=rekey_same h;exact ⟨h1,by omega,h3,h4⟩
theorem hap_grows {t:Tm} {c c':Cm} {v:Ev} (h:HapIs t c v c' 0):c'.a.me=c.a.me∧∃ s,c'.so=c.so++s:=by
 rcases h with ⟨p,b,q,r⟩ | ⟨p,b,l,e,q,⟨x,r⟩ | ⟨_,_,r⟩ | ⟨rfl,y,_,z⟩⟩
 ·rw [r rfl];exact ⟨(owe_same q).1,[],(List.append_nil _).symm⟩
 ·exact absurd r.symm x
 ·cases r
 ·rw [z];exact ⟨(tells_same q).1,[soldOf c v],rfl⟩
theorem getD_setC (l:List Cm) (k i:Nat) (x:Cm) (hk:k<l.length):(l.set k x).getD i cm0=if i=k then x else l.getD i cm0:=by
 simp only [List.getD,List.getElem?_set];by_cases e:k=i
 ·subst e;simp [hk]
 ·rw [if_neg e,if_neg (fun q=>e q.symm)]
theorem getD_appC (l:List Cm) (x:Cm) (i:Nat) (h:i<l.length):(l++[x]).getD i cm0=l.getD i cm0:=by
 simp [List.getD,List.getElem?_append_left h]
theorem step_grows {t:Tm} {bk bk':List Cm} {v:Ev} (h:StepIs t bk v bk' 0):Grows bk bk':=by
 rcases h with ⟨_,r⟩ | ⟨_,_,_,r⟩ | ⟨_,_,_,_,s⟩ | ⟨_,_,_,r⟩ | ⟨p,q,k,c',hk,hh,s⟩
 ·cases r
 ·cases r
 ·rw [s];exact ⟨by rw [List.length_append];omega,fun i hi=>by rw [getD_appC _ _ _ hi];exact ⟨rfl,[],(List.append_nil _).symm⟩⟩
 ·cases r
 ·rw [s rfl];refine ⟨by rw [List.length_set];exact Nat.le_refl _,fun i hi=>?_⟩;rw [getD_setC _ _ _ _ hk.1];by_cases e:i=k
  ·subst e;rw [if_pos rfl];exact hap_grows hh
  ·rw [if_neg e];exact ⟨rfl,[],(List.append_nil _).symm⟩
end vnd
namespace acc
open tar (Du du0 Came RowD Ld PairT)
open Go.RowKit
theorem rest_bd {a:Ac} {t:Tm} {te m:Int} (h:Ready a t m) (h0:1≤te) (h1:te≤100000000):(0≤paid a t te m∧paid a t te m≤te)∧(0≤fee t te∧fee t te≤100100000)∧rest a t te m=te - paid a t te m - fee t te:=by
 obtain ⟨a1,⟨b1,⟨c1,c2⟩,⟨d1,d2⟩,⟨e1,e2⟩,_⟩,r⟩:=h;have hs:=mays_sum (rolled_may a1 r).1;have h2:=rec_bd (te:=te) (db:=t.db) (by omega) h1 e1 e2;have h3:=rec_bd (te:=te) (db:=t.fb) (by omega) h1 d1 d2;refine ⟨⟨?_,?_⟩,⟨?_,?_⟩,rfl⟩
 ·show 0≤min (te*t.db / 10000) _;omega
 ·show min (te*t.db / 10000) _≤te;omega
 ·show 0≤t.ff+te*t.fb / 10000;omega
 ·show t.ff+te*t.fb / 10000≤_;omega
end acc
namespace ora
open Go.RowKit
theorem pov (a:Option Addr) (n cap:Nat) (l:List Pr) (m r b t:Int) (w:World) (hr:RowP w a n l) :
  Calls Tryz.prog 11 #[.agg #[.slice a n cap],zI m,zI r,zI b,zI t] w fun e w'=>Told w (Is l m r b t) e w':=by
 have HB0:Hid (Bo w (w.alloc (.cells #[.slice a n cap] 34)) a n cap l):=Bo.new hr;have HM:Hid (∀ W,RowP W a n l→Calls Tryz.prog 30 #[.agg #[.slice a n cap]] W fun e w'=>Given W l e w'):=fun W h=>given_any a n cap l W h;clear hr;have c0:=HB0.o.box.cell 0;go_enter Tryz.func11,Tryz.ntmps11;go_wp2_with fail;refine (HM.o _ HB0.o.row).mono ?_;rintro e w1 ⟨hb,⟨hm,B,rfl,hmp⟩ | ⟨hm,rfl⟩⟩
 ·have HBB:Hid (Below w.heap.size w w1):=bel_step HB0.o.bel hb;have hlk:=look_run hmp m r b;rcases find_or l m r b with ⟨i,hi⟩ | hno
  ·rw [look_at hi] at hlk;simp only [Option.getD_some,Option.isSome_some] at hlk;have HIS:Hid (Is l m r b t↔(l.getD i pr0).t=t):=⟨fun h=>by obtain ⟨_,j,hj,hx⟩:=h;have:=hi.one hj;subst this;exact hx,fun h=>⟨hm,i,hi,h⟩⟩
   clear hb hmp hm hi HB0 c0;generalize (l.getD i pr0).t=pt at *;by_cases hx:pt=t
   ·have hq:(t == pt)=true:=by simp [hx]
    have HF:Hid (Is l m r b t):=HIS.o.2 hx;clear hx;go_wp2_with fail;go_ret;exact Told.yes HF.o HBB.o
   ·have hq:(t == pt)=false:=by simp;exact fun h=>hx h.symm
    have HF:Hid (¬ Is l m r b t):=fun h=>hx (HIS.o.1 h);clear hx;go_wp2_with fail;go_ret;exact Told.no HF.o HBB.o
  ·rw [look_no hno] at hlk;simp only [Option.getD_none,Option.isSome_none] at hlk;have HF:Hid (¬ Is l m r b t):=fun h=>by obtain ⟨_,j,hj,_⟩:=h;exact hj.not hno
   clear hb hmp hm hno HB0 c0;go_wp2_with fail;go_ret;exact Told.no HF.o HBB.o
 ·have HBB:Hid (Below w.heap.size w w1):=bel_step HB0.o.bel hb;have hlk:=look_nil w1 m r b;have HF:Hid (¬ Is l m r b t):=fun h=>hm h.1;clear hb hm HB0 c0;go_wp2_with fail;go_ret;exact Told.no HF.o HBB.o
end ora
namespace book
open Go.RowKit
open acc (Ac Tm Bi APost BPost OweIs SellIs GrantIs RekeyIs)
theorem acc_upd {w W:World} {g:Nat} {cs:Array Value} {ty:TypeId} {a:Option Addr} {n cap:Nat} {zs:List tar.Du} (h:tar.Came w a n cap zs) (hU:Upd w W g cs ty) (hne:0<n→∀ x,a=some x→x.block≠g):tar.Came W a n cap zs:=by
 refine ⟨⟨h.row.1,?_⟩,h.nil,h.room,h.bytes,h.wf⟩;rcases h.row.2 with h0 | ⟨b,off,rfl,hc⟩
 ·exact .inl h0
 ·refine .inr ⟨b,off,rfl,fun i hi=>?_⟩;have h1:=hc i hi;have hb:b≠g:=hne (by omega) ⟨b,off,none⟩ rfl;rw [hU.cell ⟨b,off+i*2,none⟩ hb rfl,hU.cell ⟨b,off+i*2+1,none⟩ hb rfl];exact h1
open acc (TFault TRight OpenIs)
theorem lc_upd2 {w W:World} {base g:Nat} {cs:Array Value} {t:TypeId} {v:Value} {l:List Cu} (h:Lc w base v l) (hU:Upd w W g cs t) (hg:g<base):Lc W base v l:=by
 refine ⟨h.1,?_⟩;rcases h.2 with hn | ⟨g',cap,cur,hv,hb,hc,rest⟩
 ·exact .inl hn
 ·exact .inr ⟨g',cap,cur,hv,hb,by rw [hU.oth g' (by omega)];exact hc,rest⟩
theorem Holds.upd {w W:World} {base g:Nat} {cs:Array Value} {t:TypeId} {V:Value} {xs:List Cu} {bk:List Cm} (h:Holds w base V xs bk) (hU:Upd w W g cs t) (hg:g<base):Holds W base V xs bk:=
 ⟨lc_upd2 h.row hU hg,h.len,fun i hi=>⟨(h.has i hi).num,⟨acc_upd (h.has i hi).ds.came hU (fun hn y hy q=>by have:=(h.has i hi).ds.new hn y hy;omega),(h.has i hi).ds.new⟩,lo_upd (h.has i hi).so hU (fun k hk q=>by have:=(World.ownsRow.lt (h.has i hi).so k hk).1;omega)⟩,h.off,h.self,h.apart⟩
theorem blk_kept {w w':World} {own:Option Nat} {g:Nat} {cs:Array Value} {ty:TypeId} (h:Blk w g cs ty) (hg:w.grownBy w' own) (hne:some g≠own):Blk w' g cs ty:=by
 show w'.heap[g]?=_;rw [hg.block g h.lt hne];exact h
def BookPost (w:World) (t:Tm) (l:List Ev) (e:Ending) (w':World):Prop:=∃ p m cap xs bk at_ f,e = .returned (.tuple #[.agg #[.slice p m cap],zI at_,zI f])∧BookIs t l bk at_ f∧Sees w' p m xs bk∧m≤120∧Below w.heap.size w w'
theorem getD_mem {bk:List Cm} {j:Nat} (h:j<bk.length):bk.getD j cm0∈bk:=by
 have e:bk.getD j cm0=bk[j]:=by simp [List.getD,List.getElem?_eq_getElem h]
 rw [e];exact List.getElem_mem _
theorem sees_nil (w:World):Sees w none 0 [] []:=⟨⟨rfl,.inl rfl⟩,rfl,(fun i hi=>by cases hi),(fun i hi=>by cases hi),(fun i hi=>by cases hi)⟩
open acc (wf6 ACame TCame)
theorem wf_i {z:Int} (h0:-1≤z) (h1:z≤4000000000):(Lit.int .i64 z).wf=true:=by
 have h1:IntKind.i64.min≤z:=by
  have e:IntKind.i64.min=-9223372036854775808:=by decide
  omega
 have h2:z≤IntKind.i64.max:=by
  have e:IntKind.i64.max=9223372036854775807:=by decide
  omega
 show (decide (IntKind.i64.min≤z) && decide (z≤IntKind.i64.max))=true;rw [Bool.and_eq_true];exact ⟨decide_eq_true h1,decide_eq_true h2⟩
theorem may_wf {a:Ac} (h:acc.AMay a):wf6 a:=by
 obtain ⟨_,⟨a1,a2⟩,⟨b1,b2⟩,⟨c1,c2⟩,⟨d1,d2⟩,⟨e1,e2⟩,f1,f2⟩:=h;exact ⟨wf_i (by omega) (by omega),wf_i (by omega) (by omega),wf_i (by omega) (by omega),wf_i (by omega) (by omega),wf_i (by omega) (by omega),wf_i (by omega) (by omega)⟩
def AWf (bk:List Cm):Prop:=∀ c∈bk,wf6 c.a
theorem owe_wf {a b:Ac} {d:tar.Du} (h:OweIs a d b 0):wf6 b∧b.me=a.me:=by
 rcases h with ⟨_,_,e⟩ | ⟨_,_,_,e⟩ | ⟨_,_,_,_,e⟩ | ⟨p,_,_,rfl,_⟩
 ·cases e
 ·cases e
 ·cases e
 ·have h:=may_wf p;exact ⟨⟨h.1,h.2.1,h.2.2.1,h.2.2.2.1,h.2.2.2.2.1,h.2.2.2.2.2⟩,rfl⟩
theorem tells_wf {t:Tm} {c:Cm} {v:Ev} {b:Ac} {l:Bi} (h:Tells t c v b l 0) (hl:l.un≤2097151) (hl0:0≤l.un):wf6 b∧b.me=c.a.me:=by
 rcases h with ⟨_,h⟩ | ⟨_,h⟩ | ⟨_,h⟩
 ·rcases h with ⟨p,_,_⟩ | ⟨_,_,e,_⟩ | ⟨_,_,_,e,_⟩ | ⟨hr,_,_,_,u,_,rfl,rfl⟩
  ·exact absurd rfl (fun (q:(0:Int)=0)=>by
    rcases p with ⟨_,p⟩ | ⟨_,p,q'⟩ | ⟨_,_,_,p⟩
    ·cases p
    ·exact p (q'.ok.1 rfl)
    ·exact p.ne rfl)
  ·cases e
  ·cases e
  ·obtain ⟨_,⟨a1,a2⟩,⟨b1,b2⟩,⟨c1,c2⟩,⟨d1,d2⟩,⟨e1,e2⟩,f1,f2⟩:=hr.1;obtain ⟨_,_,_,_,⟨m1,m2⟩,⟨k1,k2⟩,_⟩:=acc.rolled_may hr.1 hr.2.2;have hm:=hr.2.2.1;have hu:u≤2097151:=hl;have hu0:0≤u:=hl0;refine ⟨⟨wf_i (z:=c.a.me) (by omega) (by omega),wf_i (z:=c.a.rv) (by omega) (by omega),wf_i (z:=c.a.nx+1) (by omega) (by omega),wf_i (z:=v.mo) (by omega) (by omega),wf_i (z:=(acc.rolled c.a v.mo).bo+u) (by omega) (by omega),wf_i (z:=c.a.fr) (by omega) (by omega)⟩,rfl⟩
 ·rcases h with ⟨p,_,_⟩ | ⟨_,_,e,_⟩ | ⟨_,_,_,e,_⟩ | ⟨_,_,_,_,e,_⟩ | ⟨hr,_,_,_,_,rfl,_⟩
  ·exact absurd rfl (fun (q:(0:Int)=0)=>by
    rcases p with ⟨_,p⟩ | ⟨_,p,q'⟩ | ⟨_,_,_,p⟩
    ·cases p
    ·exact p (q'.ok.1 rfl)
    ·exact p.ne rfl)
  ·cases e
  ·cases e
  ·cases e
  ·obtain ⟨_,⟨a1,a2⟩,⟨b1,b2⟩,⟨c1,c2⟩,⟨d1,d2⟩,⟨e1,e2⟩,f1,f2⟩:=hr.1;obtain ⟨_,_,_,_,⟨m1,m2⟩,⟨k1,k2⟩,_⟩:=acc.rolled_may hr.1 hr.2.2;have hm:=hr.2.2.1;exact ⟨⟨wf_i (z:=c.a.me) (by omega) (by omega),wf_i (z:=c.a.rv) (by omega) (by omega),wf_i (z:=c.a.nx+1) (by omega) (by omega),wf_i (z:=v.mo) (by omega) (by omega),wf_i (z:=(acc.rolled c.a v.mo).bo) (by omega) (by omega),wf_i (z:=v.mo) (by omega) (by omega)⟩,rfl⟩
 ·rcases h with ⟨_,_,_,e⟩ | ⟨_,_,_,_,e⟩ | ⟨_,_,_,_,_,e⟩ | ⟨hr,_,_,rfl,_,_⟩
  ·cases e
  ·cases e
  ·cases e
  ·obtain ⟨_,⟨a1,a2⟩,⟨b1,b2⟩,⟨c1,c2⟩,⟨d1,d2⟩,⟨e1,e2⟩,f1,f2⟩:=hr;exact ⟨⟨wf_i (z:=c.a.me) (by omega) (by omega),wf_i (z:=c.a.rv+1) (by omega) (by omega),wf_i (z:=c.a.nx+1) (by omega) (by omega),wf_i (z:=c.a.mo) (by omega) (by omega),wf_i (z:=c.a.bo) (by omega) (by omega),wf_i (z:=c.a.fr) (by omega) (by omega)⟩,rfl⟩
theorem may_un {v:Ev} (h:EMay v):0≤v.un∧v.un≤2097151:=by
 unfold EMay at h;omega
theorem hap_wf {t:Tm} {c c':Cm} {v:Ev} (h:HapIs t c v c' 0) (hm:EMay v):wf6 c'.a∧c'.a.me=c.a.me:=by
 rcases h with ⟨_,b,q,r⟩ | ⟨_,b,l,e,q,r⟩
 ·rw [r rfl];exact owe_wf q
 ·rcases r with ⟨x,y⟩ | ⟨_,_,y⟩ | ⟨x,y,_,rfl⟩
  ·exact absurd y.symm x
  ·cases y
  ·subst x;subst y;exact tells_wf q (may_un hm).2 (may_un hm).1
theorem getD_in {bk:List Cm} {j:Nat} (h:j<bk.length):bk.getD j cm0∈bk:=getD_mem h
theorem AWf.set {bk:List Cm} {k:Nat} {c:Cm} (h:AWf bk) (hc:wf6 c.a):AWf (bk.set k c):=fun x hx=>by
 rcases List.mem_or_eq_of_mem_set hx with h' | rfl
 ·exact h x h'
 ·exact hc
theorem AWf.snoc {bk:List Cm} {c:Cm} (h:AWf bk) (hc:wf6 c.a):AWf (bk++[c]):=fun x hx=>by
 rcases List.mem_append.1 hx with h' | h'
 ·exact h x h'
 ·rw [List.mem_singleton.1 h'];exact hc
def wrc (V:Value) (t:Tm) (pt:Option Addr) (lt ct B:Nat):Array Value:=#[V,.slice pt lt ct,zI t.ff,zI t.fb,zI t.db,zI t.al,.map (some B)]
structure Kp (base gW B:Nat) (w w':World):Prop where
 os:w'.os=w.os
 tape:w'.tape=w.tape
 output:w'.output=w.output
 size:w.heap.size≤w'.heap.size
 block:∀ k,k<base→k≠gW→k≠B→w'.heap[k]?=w.heap[k]?
theorem Kp.refl (base gW B:Nat) (w:World):Kp base gW B w w:=⟨rfl,rfl,rfl,Nat.le_refl _,fun _ _ _ _=>rfl⟩
theorem Kp.trans {base gW B:Nat} {a b c:World} (h:Kp base gW B a b) (k:Kp base gW B b c):Kp base gW B a c:=⟨k.os.trans h.os,k.tape.trans h.tape,k.output.trans h.output,Nat.le_trans h.size k.size,fun i h1 h2 h3=>(k.block i h1 h2 h3).trans (h.block i h1 h2 h3)⟩
theorem Kp.of {base gW B n:Nat} {a b:World} (h:Below n a b) (hn:base≤n):Kp base gW B a b:=⟨h.os,h.tape,h.output,h.size,fun i h1 _ _=>h.block i (by omega)⟩
theorem Kp.bel {base gW B n:Nat} {a b c:World} (k:Kp base gW B b c) (h:Below n a b) (hn:n≤base) (h1:n≤gW) (h2:n≤B):Below n a c:=⟨k.os.trans h.os,k.tape.trans h.tape,k.output.trans h.output,Nat.le_trans h.size k.size,fun i hi=>(k.block i (by omega) (by omega) (by omega)).trans (h.block i hi)⟩
theorem Kp.keep {base gW B G:Nat} {a b:World} {cs:Array Value} {t:TypeId} (k:Kp base gW B a b) (h:Blk a G cs t) (h0:G<base) (h1:G≠gW) (h2:G≠B):Blk b G cs t:=by
 unfold Blk at *;rw [k.block G h0 h1 h2];exact h
theorem Kp.upd {base gW B g:Nat} {a b:World} {cs:Array Value} {t:TypeId} (hU:Upd a b g cs t) (hg:base≤g∨g=gW):Kp base gW B a b:=by
 have h:=hU.bel 0 a (Nat.zero_le _) (Below.refl _ _);exact ⟨h.os,h.tape,h.output,h.size,fun k h1 h2 _=>hU.oth k (by omega)⟩
theorem Kp.grown {base gW B:Nat} {a b:World} {own:Option Nat} (hg:a.grownBy b own) (hs:base≤a.heap.size) (ho:∀ g,own=some g→base≤g):Kp base gW B a b:=⟨hg.os,hg.tape,hg.output,hg.size,fun k h1 _ _=>hg.block k (by omega) (fun e=>by have:=ho k e.symm;omega)⟩
structure Wr (w0:World) (base gW B:Nat) (t:Tm) (pt:Option Addr) (lt ct:Nat) (V:Value) (xs:List Cu) (bk:List Cm) (w:World):Prop where
 blk:Blk w gW (wrc V t pt lt ct B) 182
 mp:MpI w B (mes bk)
 hold:Holds w base V xs bk
 gw:gW<base
 gb:B<base
 ne:gW≠B
 n0:w0.heap.size≤gW
 n1:w0.heap.size≤B
 sz:base≤w.heap.size
 bel:Below w0.heap.size w0 w
 few:Small bk 120
 wf:AWf bk
theorem Wr.next {w0:World} {base gW B:Nat} {t:Tm} {pt:Option Addr} {lt ct:Nat} {V:Value} {xs:List Cu} {bk:List Cm} {w w':World} (h:Wr w0 base gW B t pt lt ct V xs bk w) (hb:Below w.heap.size w w'):Wr w0 base gW B t pt lt ct V xs bk w':=
 ⟨h.blk.next hb,h.mp.below hb,h.hold.next hb,h.gw,h.gb,h.ne,h.n0,h.n1,Nat.le_trans h.sz hb.size,h.bel.trans (hb.mono h.bel.size),h.few,h.wf⟩
theorem Wr.kp {w0:World} {base gW B:Nat} {t:Tm} {pt:Option Addr} {lt ct:Nat} {V:Value} {xs:List Cu} {bk:List Cm} {w w':World} (h:Wr w0 base gW B t pt lt ct V xs bk w) (hb:Below w.heap.size w w'):Kp base gW B w w':= .of hb h.sz
def WPost (w0:World) (base gW B:Nat) (t:Tm) (pt:Option Addr) (lt ct:Nat) (R:List Cm→Int→Prop) (w:World) (e:Ending) (w':World):Prop:=
 Kp base gW B w w'∧((∃ V xs bk',e = .returned (.tuple #[])∧R bk' 0∧(Small bk' 120→Wr w0 base gW B t pt lt ct V xs bk' w'))∨∃ f bk',f≠0∧e = .panicked (thrown f)∧R bk' f)
theorem WPost.back {w0:World} {base gW B:Nat} {t:Tm} {pt:Option Addr} {lt ct:Nat} {R R':List Cm→Int→Prop} {w1 w:World} {e:Ending} {w':World} (h:WPost w0 base gW B t pt lt ct R w e w') (hk:Kp base gW B w1 w) (hR:∀ b f,R b f→R' b f):WPost w0 base gW B t pt lt ct R' w1 e w':=by
 refine ⟨hk.trans h.1,?_⟩;rcases h.2 with ⟨V,xs,bk',h1,h2,h3⟩ | ⟨f,bk',h1,h2,h3⟩
 ·exact .inl ⟨V,xs,bk',h1,hR _ _ h2,h3⟩
 ·exact .inr ⟨f,bk',h1,h2,hR _ _ h3⟩
theorem rowD_same {w w':World} {a:Option Addr} {n:Nat} {zs:List tar.Du} (h:tar.RowD w a n zs) (he:0<n→∀ x,a=some x→w'.heap[x.block]?=w.heap[x.block]?):tar.RowD w' a n zs:=by
 refine ⟨h.1,?_⟩;rcases h.2 with h0 | ⟨b,off,rfl,hc⟩
 ·exact .inl h0
 ·refine .inr ⟨b,off,rfl,fun i hi=>?_⟩;have h1:=hc i hi;have hb:w'.heap[b]?=w.heap[b]?:=he (by omega) _ rfl;have e:∀ o,w'.cell? ⟨b,o,none⟩=w.cell? ⟨b,o,none⟩:=fun o=>by simp [World.cell?,hb]
  rw [e,e];exact h1
theorem came_same {w w':World} {a:Option Addr} {n cap:Nat} {zs:List tar.Du} (h:tar.Came w a n cap zs) (he:0<n→∀ x,a=some x→w'.heap[x.block]?=w.heap[x.block]?):tar.Came w' a n cap zs:=⟨rowD_same h.row he,h.nil,h.room,h.bytes,h.wf⟩
theorem lo_same {w w':World} {base:Nat} {v:Value} {l:List So} (h:Lo w base v l) (he:∀ g,v.ownBlock=some g→w'.heap[g]?=w.heap[g]?):Lo w' base v l:=by
 refine ⟨h.1,?_⟩;rcases h.2 with hn | ⟨g',cap,cur,hv,hb,hc,rest⟩
 ·exact .inl hn
 ·exact .inr ⟨g',cap,cur,hv,hb,by rw [he g' (by rw [hv];rfl)];exact hc,rest⟩
theorem Has.same {w w':World} {base:Nat} {x:Cu} {c:Cm} (h:Has w base x c) (h1:∀ g,x.sold.ownBlock=some g→w'.heap[g]?=w.heap[g]?) (h2:0<x.dn→∀ p,x.dp=some p→w'.heap[p.block]?=w.heap[p.block]?):Has w' base x c:=⟨h.num,⟨came_same h.ds.came h2,h.ds.new⟩,lo_same h.so h1⟩
theorem Holds.put2 {w w4:World} {base:Nat} {V:Value} {xs:List Cu} {bk:List Cm} {k:Nat} {x':Cu} {c':Cm} (h:Holds w base V xs bk) (hk:k<xs.length)
  (hO:∀ g,g<w.heap.size→V.ownBlock≠some g→(xs.getD k cu0).sold.ownBlock≠some g→w4.heap[g]?=w.heap[g]?) (has:Has w4 base x' c')
  (own:∀ g,x'.sold.ownBlock=some g→(xs.getD k cu0).sold.ownBlock=some g∨w.heap.size≤g) (new:0<x'.dn→∀ p,x'.dp=some p→w.heap.size≤p.block) (self:∀ g,x'.sold.ownBlock=some g→0<x'.dn→∀ p,x'.dp=some p→p.block≠g)
  (hr:Lc w4 base V (xs.set k x')):Holds w4 base V (xs.set k x') (bk.set k c'):=by
 have hkb:k<bk.length:=by rw [← h.len];exact hk
 have lt1:∀ i,i<xs.length→∀ g,(xs.getD i cu0).sold.ownBlock=some g→g<w.heap.size:=fun i hi g hgg=>(World.ownsRow.lt (h.has i hi).so g hgg).2
 have lt2:∀ i,i<xs.length→0<(xs.getD i cu0).dn→∀ p,(xs.getD i cu0).dp=some p→p.block<w.heap.size:=fun i hi hn p hp=>by
  obtain ⟨b,off,e,lb,_⟩:=(h.has i hi).ds.came.row.at hn;rw [hp] at e;rw [Option.some.inj e];exact lb
 have ltV:∀ g,V.ownBlock=some g→g<w.heap.size:=fun g hgg=>(World.ownsRow.lt h.row g hgg).2
 have offx:Off x' V.ownBlock:=⟨fun g hgg q=>by
  rcases own g hgg with e | e
  ·exact (h.off k hk).1 g e q
  ·have:=ltV g q;omega,fun hn p hp q=>by
  have h1:=new hn p hp;have h2:=ltV p.block q.symm
  omega⟩
 have apx:∀ i,i<xs.length→i≠k→Apart (xs.getD i cu0) x':=fun i hi hik=>by
  refine ⟨fun g h1 h2=>?_,fun g h1 hn p hp q=>?_,fun g h1 hn p hp q=>?_⟩
  ·rcases own g h2 with e | e
   ·exact (h.apart i k hi hk hik).1 g h1 e
   ·have:=lt1 i hi g h1;omega
  ·have h3:=new hn p hp;have h4:=lt1 i hi g h1;omega
  ·rcases own g h1 with e | e
   ·exact (h.apart i k hi hk hik).2.2 g e hn p hp q
   ·have:=lt2 i hi hn p hp;omega
 refine ⟨hr,by rw [List.length_set,List.length_set,h.len],fun i hi=>?_,fun i hi=>?_,fun i hi=>?_,fun i j hi hj hij=>?_⟩
 all_goals rw [List.length_set] at hi
 ·rw [getD_put xs x' cu0 k i hk,getD_put bk c' cm0 k i hkb];by_cases q:i=k
  ·rw [if_pos q,if_pos q];exact has
  ·rw [if_neg q,if_neg q];have ap:=h.apart i k hi hk q;refine (h.has i hi).same (fun g hg=>hO g (lt1 i hi g hg) (fun e=>(h.off i hi).1 g hg e) (fun e=>ap.1 g hg e)) (fun hn p hp=>hO p.block (lt2 i hi hn p hp) (fun e=>(h.off i hi).2 hn p hp e.symm) (fun e=>ap.2.2 p.block e hn p hp rfl))
 ·rw [getD_put xs x' cu0 k i hk];by_cases q:i=k
  ·rw [if_pos q];exact offx
  ·rw [if_neg q];exact h.off i hi
 ·rw [getD_put xs x' cu0 k i hk];by_cases q:i=k
  ·rw [if_pos q];exact self
  ·rw [if_neg q];exact h.self i hi
 ·rw [List.length_set] at hj;rw [getD_put xs x' cu0 k i hk,getD_put xs x' cu0 k j hk];by_cases q:i=k <;> by_cases q':j=k
  ·omega
  ·rw [if_pos q,if_neg q'];exact (apx j hj q').symm
  ·rw [if_neg q,if_pos q'];exact apx i hi q
  ·rw [if_neg q,if_neg q'];exact h.apart i j hi hj hij
theorem lc_put2 {w W:World} {base g n cap k:Nat} {xs:List Cu} {x':Cu} {cur:Array Value} (h:Lc w base (.slice (some ⟨g,0,none⟩) n cap) xs) (hB:Blk w g cur 64) (hk:k<xs.length) (hW:Blk W g (putAll cur (k*8) x'.cs) 64):Lc W base (.slice (some ⟨g,0,none⟩) n cap) (xs.set k x'):=by
 unfold Lc at *;rw [List.length_set];refine ⟨by rw [cellsC_len,List.length_set],?_⟩;rcases h.2 with ⟨h',_⟩ | ⟨g',cap',cur',hv,hg,hc,hn,hm,hz,ht⟩
 ·cases h'
 ·simp only [Value.slice.injEq,Option.some.injEq,Addr.mk.injEq,and_true] at hv;obtain ⟨rfl,rfl,rfl⟩:=hv
  have e:cur'=cur:=by
   have h1:w.heap[g]?=some (.cells cur 64 (0,0)):=hB;rw [h1] at hc;injection hc with hc
   injection hc with hc
   exact hc.symm
  subst e;refine .inr ⟨g,cap,_,rfl,hg,hW,hn,hm,by rw [putAll_size];exact hz,?_⟩;apply List.ext_getElem?;intro j;have h8:x'.cs.length=8:=rfl;rw [cellsC_get,List.length_set,getD_put xs x' cu0 k (j / 8) hk];by_cases hj:j<xs.length*8
  ·rw [if_pos hj,List.getElem?_take_of_lt hj,Array.getElem?_toList,putAll_get _ _ _ _ (by rw [hz,h8];omega),h8];by_cases h1:k*8≤j∧j<k*8+8
   ·rw [if_pos h1,if_pos (by omega),show j - k*8=j % 8 by omega]
   ·rw [if_neg h1,if_neg (by omega)];have h2:cur'.toList[j]?=(cellsC xs)[j]?:=by rw [← ht,List.getElem?_take_of_lt hj]
    rw [Array.getElem?_toList] at h2;rw [h2,cellsC_get,if_pos hj]
  ·rw [if_neg hj,List.getElem?_eq_none (by rw [List.length_take];omega)]
theorem putAll_more (cs:Array Value):∀ (l:List Value) (o:Nat) (v:Value),(putAll cs o l).setIfInBounds (o+l.length) v=putAll cs o (l++[v])
 | [],o,v=>rfl
 | x :: l,o,v=>by
  have:=putAll_more (cs.setIfInBounds o x) l (o+1) v;rw [List.cons_append,putAll,putAll,← this,List.length_cons,show o+(l.length+1)=o+1+l.length by omega]
theorem at_cust {w:World} {base n cap k:Nat} {a:Option Addr} {xs:List Cu} (h:Lc w base (.slice a n cap) xs) (hk:k<xs.length):∃ g cur,a=some ⟨g,0,none⟩∧base≤g∧Blk w g cur 64∧k*8+8≤cur.size∧∀ j,j<8→cur[k*8+j]?=(xs.getD k cu0).cs[j]?:=by
 have hn:xs.length=n:=by
  obtain ⟨a',c',hv,_⟩:=h.row;injection hv with _ e _
  exact e.symm
 obtain ⟨g,cur,e1,e2,e3,e4,e5⟩:=lc_lies h (by omega);exact ⟨g,cur,e1,e2,e3,by omega,fun j hj=>e5 k j hk hj⟩
end book
namespace acc
open tar (Du du0 Came RowD Ld PairT)
open Go.RowKit
theorem pgrant (g:Nat) (x:Ac) (p:Option Addr) (len cap:Nat) (t:Tm) (pt:Option Addr) (lt ct:Nat) (m:Int) (w:World) (hw:Blk w g (wcs x bi0 p len cap) 233) (hd:deb.Fresh w (g+1) p len cap x.ds) (ha:AMay x) (ht:Came w pt lt ct t.ts) (hwf:wf4 t) (hfar:Far pt lt g):Calls Tryz.prog 82 #[.pointer (some ⟨g,0,none⟩),.agg #[.slice pt lt ct,zI t.ff,zI t.fb,zI t.db,zI t.al],zI m] w fun e w'=>DPost w g (Or0 (GrantIs x t m)) e w':=by
 have hgl:=hw.lt;have H0B:Hid (Below w.heap.size w (w.alloc (.cells #[.slice pt lt ct,zI t.ff,zI t.fb,zI t.db,zI t.al] 30))):=(Below.refl w.heap.size w).alloc (by simp) _;have H0C:Hid (Chg w (w.alloc (.cells #[.slice pt lt ct,zI t.ff,zI t.fb,zI t.db,zI t.al] 30)) g):= .of H0B.o;have H0t:Hid (Blk (w.alloc (.cells #[.slice pt lt ct,zI t.ff,zI t.fb,zI t.db,zI t.al] 30)) (w.heap.size) #[.slice pt lt ct,zI t.ff,zI t.fb,zI t.db,zI t.al] 30):=Blk.new w _ _;have H0g:Hid (Blk (w.alloc (.cells #[.slice pt lt ct,zI t.ff,zI t.fb,zI t.db,zI t.al] 30)) g (wcs x bi0 p len cap) 233):=hw.alloc _;have H0D:Hid (deb.Fresh (w.alloc (.cells #[.slice pt lt ct,zI t.ff,zI t.fb,zI t.db,zI t.al] 30)) (g+1) p len cap x.ds):=hd.below H0B.o;have H0T:Hid (Came (w.alloc (.cells #[.slice pt lt ct,zI t.ff,zI t.fb,zI t.db,zI t.al] 30)) pt lt ct t.ts):=ht.below H0B.o;have HFAR:Hid (Far pt lt g):=hfar;have HBG:Hid (∀ W,Blk W g (wcs x bi0 p len cap) 233→deb.Fresh W (g+1) p len cap x.ds→Came W pt lt ct t.ts→Calls Tryz.prog 120 #[.pointer (some ⟨g,0,none⟩),.agg #[.slice pt lt ct,zI t.ff,zI t.fb,zI t.db,zI t.al],zI m] W fun e w'=>DPost W g (BeginR x t m bi0) e w'):=fun W h1 h2 h3=>pbegin g x p len cap t pt lt ct bi0 m W h1 h2 ha h3 hwf hfar;have HM:Hid (AMay x):=ha;have hnx:=ha.2.2.2.1;clear hw hd ht hwf hfar ha H0B;generalize hWW:(w.alloc (.cells #[.slice pt lt ct,zI t.ff,zI t.fb,zI t.db,zI t.al] 30))=W0 at *;have HWW:Hid ((w.alloc (.cells #[.slice pt lt ct,zI t.ff,zI t.fb,zI t.db,zI t.al] 30))=W0):=hWW;clear hWW;go_enter Tryz.func82,Tryz.ntmps82;go_upto_region 1 with fail
 rw [HWW.o];clear HWW;go_wp2_with (first | (refine zqw rfl rfl rfl H0t zqu30 ?_) | fail)
 refine (HBG.o _ H0g.o H0D.o H0T.o).mono ?_;rintro e w1 ⟨y,b2,q,n,c,f,rfl,⟨hr,hb2⟩,hi1,hf1,hc1⟩;subst hb2;have H1D:Hid (deb.Fresh w1 (g+1) q n c y.ds):=hf1;have H1g:Hid (Blk w1 g #[zI y.me,zI y.rv,zI y.nx,zI y.mo,zI y.bo,zI y.fr,.slice q n c,zI 0,zI 0,zI 0,zI 0,zI 0,zI 0,zI 0] 233):=hi1;have H1t:Hid (Blk w1 (w.heap.size) #[.slice pt lt ct,zI t.ff,zI t.fb,zI t.db,zI t.al] 30):=Chg.keep (g:=g) (hc1) H0t.o (by omega);have H1T:Hid (Came w1 pt lt ct t.ts):=came_chg H0T.o (hc1) HFAR.o;have H1C:Hid (Chg w w1 g):=H0C.o.trans (hc1);clear H0C H0g H0t H0T hf1 hc1 hi1 H0D HBG;by_cases h0:f=0
 ·skip
  subst h0
  have hrr:TRight t∧RMay x m∧y=rolled x m:=by
   rcases hr with ⟨h1,h2,_⟩ | ⟨_,_,h3,_⟩ | ⟨h1,h2,h3,_⟩
   ·exact absurd (h2.ok.1 rfl) h1
   ·exact absurd rfl h3.ne
   ·exact ⟨h1,h2,h3⟩
  have HRY:Hid (Ready x t m):=⟨HM.o,hrr.1,hrr.2.1⟩
  have HT:Hid (TRight t):=hrr.1;have HBR:Hid (y=rolled x m):=hrr.2.2;have hbs:=rolled_same x m;rw [← hrr.2.2] at hbs;have hbo:=(rolled_may HM.o hrr.2.1).2.2.2.2.2.1;rw [← hrr.2.2] at hbo;have hdm:deb.Mays y.ds:=by rw [hrr.2.2];exact (rolled_may HM.o hrr.2.1).1
  have HYN:Hid (y.nx=x.nx):=hbs.2.2.1;have hyx:1≤y.nx∧y.nx≤1048576:=by rw [hbs.2.2.1];exact hnx
  have HBS:Hid (y.me=x.me∧y.rv=x.rv∧y.nx=x.nx∧y.mo=m∧y.fr=x.fr):=hbs;clear hrr hr hbs;by_cases h5:t.al=0
  ·have d5:(t.al == 0)=true:=by simpa using h5
   have HV:Hid (Or0 (GrantIs x t m) y bi0 22):= .inl ⟨by decide,.inr (.inl ⟨HRY.o,h5,rfl,rfl,rfl⟩)⟩;clear h5;have qt4:w1.cell? ⟨w.heap.size,4,none⟩=some (zI t.al):=H1t.o.cell 4;go_wp2_with fail;go_ret;exact ⟨y,bi0,q,n,c,22,rfl,HV.o,H1g.o,H1D.o,H1C.o⟩
  ·have d5:(t.al == 0)=false:=by simpa using h5
   by_cases h6:x.fr=m
   ·have d6:(y.fr == m)=true:=by simp;rw [HBS.o.2.2.2.2];exact h6
    have HV:Hid (Or0 (GrantIs x t m) y bi0 21):= .inl ⟨by decide,.inr (.inr (.inl ⟨HRY.o,h5,h6,rfl,rfl,rfl⟩))⟩;clear h5 h6;have qt4:w1.cell? ⟨w.heap.size,4,none⟩=some (zI t.al):=H1t.o.cell 4;have qg5:w1.cell? ⟨g,5,none⟩=some (zI y.fr):=H1g.o.cell 5;go_wp2_with fail;go_ret;exact ⟨y,bi0,q,n,c,21,rfl,HV.o,H1g.o,H1D.o,H1C.o⟩
   ·have d6:(y.fr == m)=false:=by simp;rw [HBS.o.2.2.2.2];exact h6
    have qt4:w1.cell? ⟨w.heap.size,4,none⟩=some (zI t.al):=H1t.o.cell 4;have qg5:w1.cell? ⟨g,5,none⟩=some (zI y.fr):=H1g.o.cell 5;go_wp2_with (first | (refine wp_let1 rfl 3 _ _ rfl g 5 rfl .i64 m rfl (by kernel_rfl) #[zI y.me,zI y.rv,zI y.nx,zI y.mo,zI y.bo,zI y.fr,.slice q n c,zI 0,zI 0,zI 0,zI 0,zI 0,zI 0,zI 0] 233 H1g.o (by simp) ?_) | fail)
    intro W2 hU;have H2g:Hid (Blk W2 g #[zI y.me,zI y.rv,zI y.nx,zI y.mo,zI y.bo,zI m,.slice q n c,zI 0,zI 0,zI 0,zI 0,zI 0,zI 0,zI 0] 233):=hU.blk;have H2t:Hid (Blk W2 (w.heap.size) #[.slice pt lt ct,zI t.ff,zI t.fb,zI t.db,zI t.al] 30):=Chg.keep (g:=g) (.upd hU) H1t.o (by omega);have H2T:Hid (Came W2 pt lt ct t.ts):=came_chg H1T.o (.upd hU) HFAR.o;have H2D:Hid (deb.Fresh W2 (g+1) q n c y.ds):=fresh_chg H1D.o (.upd hU);have H2C:Hid (Chg w W2 g):=H1C.o.trans (.upd hU);clear H1C H1g H1t H1T H1D hU qt4 qg5 d5 d6;have qt4:W2.cell? ⟨w.heap.size,4,none⟩=some (zI t.al):=H2t.o.cell 4;go_wp2_with (first | (refine wp_let1 rfl 3 _ _ rfl g 13 rfl .i64 t.al rfl (by kernel_rfl) #[zI y.me,zI y.rv,zI y.nx,zI y.mo,zI y.bo,zI m,.slice q n c,zI 0,zI 0,zI 0,zI 0,zI 0,zI 0,zI 0] 233 H2g.o (by simp) ?_) | fail)
    intro W3 hU;have H3g:Hid (Blk W3 g #[zI y.me,zI y.rv,zI y.nx,zI y.mo,zI y.bo,zI m,.slice q n c,zI 0,zI 0,zI 0,zI 0,zI 0,zI 0,zI t.al] 233):=hU.blk;have H3t:Hid (Blk W3 (w.heap.size) #[.slice pt lt ct,zI t.ff,zI t.fb,zI t.db,zI t.al] 30):=Chg.keep (g:=g) (.upd hU) H2t.o (by omega);have H3T:Hid (Came W3 pt lt ct t.ts):=came_chg H2T.o (.upd hU) HFAR.o;have H3D:Hid (deb.Fresh W3 (g+1) q n c y.ds):=fresh_chg H2D.o (.upd hU);have H3C:Hid (Chg w W3 g):=H2C.o.trans (.upd hU);clear H2C H2g H2t H2T H2D hU qt4
    have HGV:Hid (⟨y.me,y.rv,y.nx+1,y.mo,y.bo,m,y.ds⟩=granted x m):=by
     show _=_;unfold granted;rw [← HBR.o,HBS.o.1,HBS.o.2.1,HBS.o.2.2.1,HBS.o.2.2.2.1]
    have HNU:Hid (Calls Tryz.prog 121 #[.pointer (some ⟨g,0,none⟩)] W3 fun e w'=>NumPost W3 g ⟨y.me,y.rv,y.nx,y.mo,y.bo,m,y.ds⟩ ⟨0,0,0,0,0,0,t.al⟩ q n c e w'):=pnum g ⟨y.me,y.rv,y.nx,y.mo,y.bo,m,y.ds⟩ ⟨0,0,0,0,0,0,t.al⟩ q n c W3 H3g.o hyx;go_wp2_with fail;refine HNU.o.mono ?_;rintro e wN ⟨hcN,⟨hx,rfl,hiN⟩ | ⟨hx,rfl,hiN⟩⟩
    ·have HV:Hid (Or0 (GrantIs x t m) ⟨y.me,y.rv,y.nx,y.mo,y.bo,m,y.ds⟩ ⟨0,0,0,0,0,0,t.al⟩ 20):= .inl ⟨by decide,.inr (.inr (.inr (.inl ⟨HRY.o,h5,h6,by rw [← HYN.o];exact hx,rfl,rfl,rfl⟩)))⟩;have HDN:=fresh_chg H3D.o hcN;have HCN:=H3C.o.trans hcN;clear HNU hx;go_wp2_with fail;go_ret;exact ⟨⟨y.me,y.rv,y.nx,y.mo,y.bo,m,y.ds⟩,⟨0,0,0,0,0,0,t.al⟩,q,n,c,20,rfl,HV.o,hiN,HDN,HCN⟩
    ·have HV:Hid (Or0 (GrantIs x t m) ⟨y.me,y.rv,y.nx+1,y.mo,y.bo,m,y.ds⟩ ⟨y.nx,0,0,0,0,0,t.al⟩ 0):= .inr ⟨rfl,.inr (.inr (.inr (.inr ⟨HRY.o,h5,h6,by rw [← HYN.o];exact hx,rfl,HGV.o,by rw [HYN.o]⟩)))⟩;have HDN:=fresh_chg H3D.o hcN;have HCN:=H3C.o.trans hcN;clear HNU hx;go_wp2_with fail;go_ret;exact ⟨⟨y.me,y.rv,y.nx+1,y.mo,y.bo,m,y.ds⟩,⟨y.nx,0,0,0,0,0,t.al⟩,q,n,c,0,rfl,HV.o,hiN,HDN,HCN⟩
 ·skip
  have d0:(f != 0)=true:=by simpa using h0
  have HV:Hid (Or0 (GrantIs x t m) y bi0 f):=by
   refine .inl ⟨h0,.inl ⟨?_,rfl,rfl⟩⟩;rcases hr with ⟨h1,h2,_⟩ | ⟨h1,h2,h3,_⟩ | ⟨_,_,_,h1⟩
   ·exact .inr (.inl ⟨HM.o,h1,h2⟩)
   ·exact .inr (.inr ⟨HM.o,h1,h2,h3⟩)
   ·exact absurd h1 h0
  clear hr h0;go_wp2_with fail;go_ret;exact ⟨y,bi0,q,n,c,f,rfl,HV.o,H1g.o,H1D.o,H1C.o⟩
def KcGrant:Prop:=∀ (W:World) (x:Ac) (p:Option Addr) (len cap:Nat) (t:Tm) (pt:Option Addr) (lt ct:Nat) (m:Int),ACame W x p len cap→TCame W t pt lt ct→(Lit.int .i64 m).wf=true→Calls Tryz.prog 48 #[x.v p len cap,t.v pt lt ct,zI m] W fun e w'=>BPost W (GrantIs x t m) e w'
theorem open_may {m:Int} (h:0≤m∧m≤49):AMay ⟨m,0,1,0,0,-1,[]⟩:=by
 unfold AMay deb.Mays deb.DFits;simp;omega
theorem kopen:KcOpen:=by
 intro w m hm;have HPM:Hid (∀ W,Calls Tryz.prog 119 #[.agg #[zI m,zI 0,zI 1,zI 0,zI 0,zI (-1),zS]] W fun e w'=>MayPost W ⟨m,0,1,0,0,-1,[]⟩ e w'):=fun W=>pmay ⟨m,0,1,0,0,-1,[]⟩ none 0 0 W (deb.came_nil W);clear hm;obtain ⟨W0,HWW,H0r,H0n,H0B,-⟩:=sh2 w #[zI 0,zI 0,zI 0,zI 0,zI 0,zI 0,zS] 61 #[zI m,zI 0,zI 1,zI 0,zI 0,zI (-1),zS] 61;go_enter Tryz.func137,Tryz.ntmps137;go_upto_region 2 with fail
 rw [HWW.o];clear HWW
 go_wp2_with (first
  | (refine zqw rfl rfl rfl H0r zqu61 ?_)
  | (refine zqw rfl rfl rfl H0n zqu61 ?_)
  | fail)
 refine (HPM.o _).mono ?_;rintro e w1 ⟨r,rfl,hr,hb1⟩;have H1r:=shN H0r hb1;have H1n:=shN H0n hb1;have H1B:=shB H0B hb1;have hsw1:W0.heap.size≤w1.heap.size:=hb1.size;clear hb1 H0r H0n H0B;clear HPM;cases r with
 | false=>
  have HV:Hid (OpenIs m ac0 2):= .inr ⟨fun hh=>Bool.noConfusion (hr.2 (open_may hh)),rfl,rfl⟩;clear hr
  go_wp2_with (first
   | (refine zql rfl rfl rfl rfl zqu61 (by simp [Value.oneCell']) H1r rfl ?_)
   | (refine zqw rfl rfl rfl H1r zqu61 ?_)
   | (refine zqw rfl rfl rfl H1n zqu61 ?_)
   | fail)
  intro w1a hU;have H2r:Hid (Blk w1a (w.heap.size) #[zI 0,zI 0,zI 0,zI 0,zI 0,zI 0,zS] 61):=hU.blk;have H2n:=shK hU H1n (by omega);have H2B:=shV hU H1B (by omega);have hsw1a:w1a.heap.size=w1.heap.size:=hU.size;clear hU H1r H1n H1B;have Rr0:Hid (w1a.cell? ⟨w.heap.size,0,none⟩=some (zI 0)):=H2r.o.cell 0;have Rr1:Hid (w1a.cell? ⟨w.heap.size,1,none⟩=some (zI 0)):=H2r.o.cell 1;have Rr2:Hid (w1a.cell? ⟨w.heap.size,2,none⟩=some (zI 0)):=H2r.o.cell 2;have Rr3:Hid (w1a.cell? ⟨w.heap.size,3,none⟩=some (zI 0)):=H2r.o.cell 3;have Rr4:Hid (w1a.cell? ⟨w.heap.size,4,none⟩=some (zI 0)):=H2r.o.cell 4;have Rr5:Hid (w1a.cell? ⟨w.heap.size,5,none⟩=some (zI 0)):=H2r.o.cell 5;have Rr6:Hid (w1a.cell? ⟨w.heap.size,6,none⟩=some (zS)):=H2r.o.cell 6;go_wp2_with fail;exact bodyPost_ret (v:= .tuple #[.agg #[zI 0,zI 0,zI 0,zI 0,zI 0,zI 0,zS],zI 2]) (by simp [results,Tryz.results137,Rr0.o,Rr1.o,Rr2.o,Rr3.o,Rr4.o,Rr5.o,Rr6.o,go_sem]) rfl ⟨ac0,none,0,0,_,rfl,HV.o,deb.fresh_nil _ _,H2B.o⟩
 | true=>
  have HV:Hid (OpenIs m ⟨m,0,1,0,0,-1,[]⟩ 0):= .inl ⟨(hr.1 rfl).2.1,rfl,rfl⟩;clear hr
  go_wp2_with (first
   | (refine zql rfl rfl rfl rfl zqu61 (by simp [Value.oneCell']) H1r rfl ?_)
   | (refine zqw rfl rfl rfl H1r zqu61 ?_)
   | (refine zqw rfl rfl rfl H1n zqu61 ?_)
   | fail)
  intro w1a hU;have H2r:Hid (Blk w1a (w.heap.size) #[zI m,zI 0,zI 1,zI 0,zI 0,zI (-1),zS] 61):=hU.blk;have H2n:=shK hU H1n (by omega);have H2B:=shV hU H1B (by omega);have hsw1a:w1a.heap.size=w1.heap.size:=hU.size;clear hU H1r H1n H1B;obtain ⟨Rr0,Rr1,Rr2,Rr3,Rr4,Rr5,Rr6⟩:=shc7 H2r;go_wp2_with fail;exact bodyPost_ret (v:= .tuple #[.agg #[zI m,zI 0,zI 1,zI 0,zI 0,zI (-1),zS],zI 0]) (by simp [results,Tryz.results137,Rr0.o,Rr1.o,Rr2.o,Rr3.o,Rr4.o,Rr5.o,Rr6.o,go_sem]) rfl ⟨⟨m,0,1,0,0,-1,[]⟩,none,0,0,_,rfl,HV.o,deb.fresh_nil _ _,H2B.o⟩
def KcOwe:Prop:=∀ (W:World) (x:Ac) (p:Option Addr) (len cap:Nat) (q:Du),ACame W x p len cap→(Lit.int .i64 q.a).wf=true∧(Lit.int .i64 q.b).wf=true→Calls Tryz.prog 46 #[x.v p len cap,.agg #[zI q.a,zI q.b]] W fun e w'=>APost W (OweIs x q) e w'
end acc
end Go.Proofs.YtdpfnedfakgolaaGreatDoor
