import Derived.Test.YtnpblpbohcegoaaGreatDoorVBNrs16
set_option linter.unusedVariables false
set_option linter.unusedSimpArgs false
set_option maxHeartbeats 4000000
set_option maxRecDepth 100000
namespace Go.Proofs.YtnpblpbohcegoaaGreatDoor
namespace vnd
open disk (RepIs AppIs May repD lenAt appW)
open book (Ev ev0 EMay evL evOf EncIs DecIs Cm cm0 So so0 BookIs FirstAt NoneAt Tells billOf soldOf StepIs HapIs)
open acc (Ac Tm Bi SellIs GrantIs RekeyIs OweIs)
open ora (Pr IssueIs)
open cell (Wr wrt)
theorem getD_mapL (l:List Ev) (j:Nat) (h:j<l.length):(l.map evL).getD j []=evL (l.getD j ev0):=by
 simp [List.getD,List.getElem?_eq_getElem h]
theorem getD_inE {l:List Ev} {j:Nat} (h:j<l.length):l.getD j ev0∈l:=by
 have e:l.getD j ev0=l[j]:=by simp [List.getD,List.getElem?_eq_getElem h]
 rw [e];exact List.getElem_mem _
theorem map_back (l:List Ev):(l.map evL).map evOf=l:=by
 induction l with
 | nil=>rfl
 | cons v l ih=>rw [List.map_cons,List.map_cons,ih,book.evOf_L]
theorem kept_tape {c:List Int} {l:List Ev} {e:Nat} (h:disk.Tape c (l.map evL) e) (hm:∀ v∈l,EMay v):KeptIs c l 0:=by
 obtain ⟨h1,h2,h3⟩:=h;refine ⟨l.map evL,(e:Int),0,.inr (.inr ⟨h1,by rw [h2];exact h3,by rw [h2],by rw [h2],rfl⟩),.inr (.inl ⟨rfl,?_,(map_back l).symm,rfl⟩)⟩;intro j hj;rw [List.length_map] at hj;rw [getD_mapL l j hj];exact ⟨rfl,by rw [book.evOf_L];exact hm _ (getD_inE hj)⟩
theorem load_tape {t:Tm} {c:List Int} {l:List Ev} {e:Nat} {bk:List Cm} {a f:Int} (h:disk.Tape c (l.map evL) e) (hm:∀ v∈l,EMay v) (hb:BookIs t l bk a f):LoadIs t c bk f:=⟨l,0,kept_tape h hm,.inr ⟨rfl,a,hb⟩⟩
theorem rmay_ev (v:Ev):disk.RMay (evL v):=⟨by rw [book.evL_len];omega,by rw [book.evL_len];omega⟩
theorem keep_tape {c:List Int} {l:List Ev} {e:Nat} {v:Ev} {ls:List Wr} {f:Int} (h:disk.Tape c (l.map evL) e) (hm:∀ v∈l,EMay v) (hv:EMay v) (hn:l.length<120) (hf:e+13<c.length) (hk:KeepIs c v ls f):ls=appW c e (evL v)∧f=0:=by
 obtain ⟨l',e',hk',h'⟩:=hk;obtain ⟨rfl,rfl⟩:=hk'.one (kept_tape h hm);rcases h' with ⟨p,_⟩ | ⟨_,ws,g,hen,h2⟩
 ·exact absurd hn p
 ·obtain ⟨rfl,rfl⟩:=hen.one (.inl ⟨hv,rfl,rfl⟩);rcases h2 with ⟨p,_⟩ | ⟨_,ha⟩
  ·exact absurd rfl p
  ·rcases h.app ha (rmay_ev v) with ⟨_,b,d⟩ | ⟨b,_⟩
   ·exact ⟨b,d⟩
   ·rw [book.evL_len] at b;omega
theorem tape_next {c:List Int} {l:List Ev} {e:Nat} {v:Ev} (h:disk.Tape c (l.map evL) e) (hf:e+13<c.length):disk.Tape (wrt c (appW c e (evL v))) ((l++[v]).map evL) (e+14):=by
 have:=h.all (rmay_ev v) (by rw [book.evL_len];exact hf);rw [book.evL_len] at this;rw [List.map_append];exact this
theorem tape_cut {c:List Int} {l:List Ev} {e:Nat} {v:Ev} {k:Nat} (h:disk.Tape c (l.map evL) e) (hf:e+13<c.length) (hk:k<(appW c e (evL v)).length):disk.Tape (wrt c ((appW c e (evL v)).take k)) (l.map evL) e:=
 h.cut (by rw [book.evL_len];exact hf) hk
theorem book_ok {t:Tm} {l:List Ev} {bk:List Cm} {a:Int} (h:BookIs t l bk a 0):acc.TRight t∧l.length≤120∧a=0∧∃ st:Nat→List Cm,st 0=[]∧(∀ i,i<l.length→StepIs t (st i) (l.getD i ev0) (st (i+1)) 0)∧bk=st l.length:=by
 rcases h with ⟨_,p,_⟩ | ⟨_,_,_,_,p⟩ | ⟨p,q,k,st,s0,s1,⟨rfl,s2,s3,_⟩ | ⟨_,_,s2,_⟩⟩
 ·exact absurd rfl p
 ·cases p
 ·exact ⟨p,q,s3,st,s0,s1,s2⟩
 ·exact absurd rfl s2
theorem getD_app1 (l:List Ev) (v:Ev) (i:Nat) (h:i<l.length):(l++[v]).getD i ev0=l.getD i ev0:=by
 simp [List.getD,List.getElem?_append_left h]
theorem getD_app2 (l:List Ev) (v:Ev):(l++[v]).getD l.length ev0=v:=by
 simp [List.getD]
theorem book_next {t:Tm} {l:List Ev} {bk bk':List Cm} {v:Ev} (h:BookIs t l bk 0 0) (hl:l.length<120) (hs:StepIs t bk v bk' 0):BookIs t (l++[v]) bk' 0 0:=by
 obtain ⟨ht,_,_,st,s0,s1,rfl⟩:=book_ok h;obtain ⟨st',a0,a1,a2⟩:=book.run_more (l:=l++[v]) (k:=l.length) (st:=st) (bk:=bk') (fun i hi=>by rw [getD_app1 l v i hi];exact s1 i hi) (by rw [getD_app2];exact hs);refine .inr (.inr ⟨ht,by rw [List.length_append];simp;omega,l.length+1,st',a0.trans s0,a2,.inl ⟨by rw [List.length_append];rfl,a1.symm,rfl,rfl⟩⟩)
def Grows (a b:List Cm):Prop:=a.length≤b.length∧∀ i,i<a.length→(b.getD i cm0).a.me=(a.getD i cm0).a.me∧∃ s,(b.getD i cm0).so=(a.getD i cm0).so++s
theorem sell_same {a:Ac} {t:Tm} {te m:Int} {b:Ac} {l:Bi} (h:SellIs a t te m b l 0):b.me=a.me∧b.rv=a.rv∧b.nx=a.nx+1∧l.id=a.nx:=by
 rcases h with ⟨h,rfl,rfl⟩ | ⟨_,_,h,_⟩ | ⟨_,_,_,h,_⟩ | ⟨_,_,_,_,u,_,rfl,rfl⟩
 ·rcases h with ⟨_,h⟩ | ⟨_,h1,h2⟩ | ⟨_,_,_,h⟩
  ·cases h
  ·exact absurd (h2.ok.1 rfl) h1
  ·exact absurd rfl h.ne
 ·cases h
 ·cases h
 ·exact ⟨rfl,rfl,rfl,rfl⟩
theorem grant_same {a:Ac} {t:Tm} {m:Int} {b:Ac} {l:Bi} (h:GrantIs a t m b l 0):b.me=a.me∧b.rv=a.rv∧b.nx=a.nx+1∧l.id=a.nx:=by
 rcases h with ⟨h,rfl,rfl⟩ | ⟨_,_,h,_⟩ | ⟨_,_,_,h,_⟩ | ⟨_,_,_,_,h,_⟩ | ⟨_,_,_,_,_,rfl,rfl⟩
 ·rcases h with ⟨_,h⟩ | ⟨_,h1,h2⟩ | ⟨_,_,_,h⟩
  ·cases h
  ·exact absurd (h2.ok.1 rfl) h1
  ·exact absurd rfl h.ne
 ·cases h
 ·cases h
 ·cases h
 ·exact ⟨rfl,rfl,rfl,rfl⟩
theorem rekey_same {a b:Ac} {l:Bi} (h:RekeyIs a b l 0):b.me=a.me∧b.rv=a.rv+1∧b.nx=a.nx+1∧l.id=a.nx:=by
 rcases h with ⟨_,_,_,h⟩ | ⟨_,_,_,_,h⟩ | ⟨_,_,_,_,_,h⟩ | ⟨_,_,_,rfl,rfl,_⟩
 ·cases h
 ·cases h
 ·cases h
 ·exact ⟨rfl,rfl,rfl,rfl⟩
theorem owe_same {a b:Ac} {q:tar.Du} (h:OweIs a q b 0):b.me=a.me∧b.rv=a.rv∧b.nx=a.nx:=by
 rcases h with ⟨_,_,h⟩ | ⟨_,_,_,h⟩ | ⟨_,_,_,_,h⟩ | ⟨_,_,_,rfl,_⟩
 ·cases h
 ·cases h
 ·cases h
 ·exact ⟨rfl,rfl,rfl⟩
theorem tells_same {t:Tm} {c:Cm} {v:Ev} {b:Ac} {l:Bi} (h:Tells t c v b l 0):b.me=c.a.me∧c.a.rv≤b.rv∧b.nx=c.a.nx+1∧l.id=c.a.nx:=by
 rcases h with ⟨_,h⟩ | ⟨_,h⟩ | ⟨_,h⟩
 ·obtain ⟨h1,h2,h3,h4⟩:=sell_same h;exact ⟨h1,by omega,h3,h4⟩
 ·obtain ⟨h1,h2,h3,h4⟩:=grant_same h;exact ⟨h1,by omega,h3,h4⟩
 ·obtain ⟨h1,h2,h3,h4⟩:=rekey_same h;exact ⟨h1,by omega,h3,h4⟩
theorem hap_grows {t:Tm} {c c':Cm} {v:Ev} (h:HapIs t c v c' 0):c'.a.me=c.a.me∧∃ s,c'.so=c.so++s:=by
 rcases h with ⟨p,b,q,r⟩ | ⟨p,b,l,e,q,⟨x,r⟩ | ⟨_,_,r⟩ | ⟨rfl,y,_,z⟩⟩
 ·rw [r rfl];exact ⟨(owe_same q).1,[],(List.append_nil _).symm⟩
 ·exact absurd r.symm x
 ·cases r
 ·rw [z];exact ⟨(tells_same q).1,[soldOf c v],rfl⟩
theorem getD_setC (l:List Cm) (k i:Nat) (x:Cm) (hk:k<l.length):(l.set k x).getD i cm0=if i=k then x else l.getD i cm0:=by
 simp only [List.getD,List.getElem?_set];by_cases e:k=i
 ·subst e;simp [hk]
 ·rw [if_neg e,if_neg (fun q=>e q.symm)]
theorem getD_appC (l:List Cm) (x:Cm) (i:Nat) (h:i<l.length):(l++[x]).getD i cm0=l.getD i cm0:=by
 simp [List.getD,List.getElem?_append_left h]
theorem step_grows {t:Tm} {bk bk':List Cm} {v:Ev} (h:StepIs t bk v bk' 0):Grows bk bk':=by
 rcases h with ⟨_,r⟩ | ⟨_,_,_,r⟩ | ⟨_,_,_,_,s⟩ | ⟨_,_,_,r⟩ | ⟨p,q,k,c',hk,hh,s⟩
 ·cases r
 ·cases r
 ·rw [s];exact ⟨by rw [List.length_append];omega,fun i hi=>by rw [getD_appC _ _ _ hi];exact ⟨rfl,[],(List.append_nil _).symm⟩⟩
 ·cases r
 ·rw [s rfl];refine ⟨by rw [List.length_set];exact Nat.le_refl _,fun i hi=>?_⟩;rw [getD_setC _ _ _ _ hk.1];by_cases e:i=k
  ·subst e;rw [if_pos rfl];exact hap_grows hh
  ·rw [if_neg e];exact ⟨rfl,[],(List.append_nil _).symm⟩
def Num (c:Cm):Prop:=c.a.nx=(c.so.length:Int)+1∧∀ k,k<c.so.length→(c.so.getD k so0).id=(k:Int)+1∧(c.so.getD k so0).rv≤c.a.rv
theorem hap_num {t:Tm} {c c':Cm} {v:Ev} (h:HapIs t c v c' 0) (hn:Num c):Num c':=by
 rcases h with ⟨p,b,q,r⟩ | ⟨p,b,l,e,q,⟨x,r⟩ | ⟨_,_,r⟩ | ⟨rfl,y,_,z⟩⟩
 ·obtain ⟨_,h2,h3⟩:=owe_same q;rw [r rfl];exact ⟨by show b.nx=_;rw [h3];exact hn.1,fun k hk=>⟨(hn.2 k hk).1,by show _≤b.rv;rw [h2];exact (hn.2 k hk).2⟩⟩
 ·exact absurd r.symm x
 ·cases r
 ·obtain ⟨_,h2,h3,h4⟩:=tells_same q;have hid:v.id=c.a.nx:=by rw [← h4,y];rfl
  have hs:(soldOf c v).id=c.a.nx∧(soldOf c v).rv=c.a.rv:=by
   unfold soldOf;by_cases e:v.kd=4
   ·rw [if_pos e];exact ⟨hid,rfl⟩
   ·rw [if_neg e];exact ⟨hid,rfl⟩
  rw [z];refine ⟨?_,fun k hk=>?_⟩
  ·show b.nx=((c.so++[soldOf c v]).length:Int)+1;rw [List.length_append,h3,hn.1];simp
  ·show ((c.so++[soldOf c v]).getD k so0).id=_∧((c.so++[soldOf c v]).getD k so0).rv≤b.rv
   have hk':k<c.so.length+1:=by
    have:k<(c.so++[soldOf c v]).length:=hk;rw [List.length_append] at this;simpa using this
   by_cases e:k<c.so.length
   ·have e2:(c.so++[soldOf c v]).getD k so0=c.so.getD k so0:=by simp [List.getD,List.getElem?_append_left e]
    rw [e2];exact ⟨(hn.2 k e).1,Int.le_trans (hn.2 k e).2 h2⟩
   ·obtain rfl:k=c.so.length:=by omega
    have e2:(c.so++[soldOf c v]).getD c.so.length so0=soldOf c v:=by simp [List.getD]
    rw [e2,hs.1,hs.2];exact ⟨hn.1,h2⟩
theorem step_num {t:Tm} {bk bk':List Cm} {v:Ev} (h:StepIs t bk v bk' 0) (hn:∀ c∈bk,Num c):∀ c∈bk',Num c:=by
 rcases h with ⟨_,r⟩ | ⟨_,_,_,r⟩ | ⟨_,_,_,_,s⟩ | ⟨_,_,_,r⟩ | ⟨p,q,k,c',hk,hh,s⟩
 ·cases r
 ·cases r
 ·rw [s];intro c hc;rcases List.mem_append.1 hc with h | h
  ·exact hn c h
  ·rw [List.mem_singleton.1 h];exact ⟨rfl,fun k hk=>by cases hk⟩
 ·cases r
 ·rw [s rfl];intro c hc;rcases List.mem_or_eq_of_mem_set hc with h | h
  ·exact hn c h
  ·rw [h];refine hap_num hh (hn _ ?_);have e:bk.getD k cm0=bk[k]'hk.1:=by simp [List.getD,List.getElem?_eq_getElem hk.1]
   rw [e];exact List.getElem_mem _
theorem book_num {t:Tm} {l:List Ev} {bk:List Cm} (h:BookIs t l bk 0 0):∀ c∈bk,Num c:=by
 obtain ⟨_,_,_,st,s0,s1,rfl⟩:=book_ok h
 have:∀ i,i≤l.length→∀ c∈st i,Num c:=by
  intro i
  induction i with
  | zero=>intro _ c hc;rw [s0] at hc;cases hc
  | succ i ih=>intro hi;exact step_num (s1 i (by omega)) (ih (by omega))
 exact this _ (Nat.le_refl _)
end vnd
namespace words
open Go.RowKit
def Dg (w:World) (D:Nat) (d:Nat→Int):Prop:=w.heap[D]?=some (.cells ((List.range 29).map fun i=>Value.int .u8 (d i)).toArray 174 (0,0))
variable {w w':World} {D:Nat} {d:Nat→Int}
theorem Dg.cell (h:Dg w D d) {i:Nat} (hi:i<29):w.cell? ⟨D,i,none⟩=some (.int .u8 (d i)):=by unfold Dg at h;simp [World.cell?,h,hi]
theorem Dg.free (h:Dg w D d) (i:Nat):w.frozen? ⟨D,i,none⟩=false:=by unfold Dg at h;simp [World.frozen?,h]
theorem Dg.lt (h:Dg w D d):D<w.heap.size:=by
 by_cases hh:D<w.heap.size
 ·exact hh
 ·unfold Dg at h;rw [Array.getElem?_eq_none (by omega)] at h;cases h
theorem Dg.below (h:Dg w D d) (hb:Below w.heap.size w w'):Dg w' D d:=by
 have hlt:=h.lt;unfold Dg at *;rw [hb.block D hlt];exact h
theorem Dg.other (h:Dg w D d) {G:Nat} (i:Nat) (u:Value) (hne:G≠D):Dg (w.setCell ⟨G,i,none⟩ u) D d:=by
 unfold Dg at *;simp only [World.setCell,Array.getElem?_modify];rw [if_neg hne];exact h
def updd (d:Nat→Int) (i:Nat) (v:Int):Nat→Int:=fun k=>if k=i then v else d k
theorem Dg.set (h:Dg w D d) (i:Nat) (v:Int):Dg (w.setCell ⟨D,i,none⟩ (.int .u8 v)) D (updd d i v):=by
 unfold Dg at *;simp only [World.setCell,Array.getElem?_modify,h,if_true,Option.map_some]
 congr 2
 simp only [Option.isSome_none,Bool.false_eq_true,if_false];apply Array.ext';simp only [Array.toList_setIfInBounds];apply List.ext_getElem?;intro k;by_cases hk:k<29
 ·by_cases e:k=i
  ·subst e;simp [updd,hk]
  ·rw [List.getElem?_set_ne (by omega)];simp [updd,hk,e]
 ·rw [List.getElem?_eq_none (by simp;omega),List.getElem?_eq_none (by simp;omega)]
def dsOf (d:Nat→Int) (t:Nat):List Int:=(List.range t).map fun i=>d (29 - t+i)
theorem dsOf_len (d:Nat→Int) (t:Nat):(dsOf d t).length=t:=by simp [dsOf]
theorem dsOf_upd (d:Nat→Int) (t:Nat) (v:Int) (ht:t<29):dsOf (updd d (28 - t) v) (t+1)=v :: dsOf d t:=by
 unfold dsOf;rw [List.range_succ_eq_map,List.map_cons,List.map_map]
 congr 1
 ·simp [updd]
 ·apply List.map_congr_left;intro i hi;simp [updd]
  congr 1
  omega
theorem dg_new (w:World) (o:Obj):Dg ((w.alloc o).alloc (.cells ((List.range 29).map fun _=>Value.int .u8 0).toArray 174)) (w.heap.size+1) (fun _=>0):=by
 show ((w.heap.push o).push _)[w.heap.size+1]?=_;have:w.heap.size+1=(w.heap.push o).size:=by simp
 rw [this,Array.getElem?_push_size]
def ShowInv (V:Nat) (X:W3) (d:Nat→Int) (t:Nat):Prop:=
 (t=0∧X.val=V)∨(0<t∧X.val=0∧decL V=dsOf d t)∨(0<t∧0<X.val∧decL V=decL X.val.toNat++dsOf d t)
theorem show_more {V:Nat} {X:W3} {d:Nat→Int} {t:Nat} (hV:(V:Int)<top) (h:ShowInv V X d t) (hgo:t=0∨0<X.val) (hX:X.ok) :
  t<29∧ShowInv V (overW X 10) (updd d (28 - t) (48+overR X 10)) (t+1):=by
 have hv:=over_val X 10;have hr:=over_left (w:=X) 10 (by omega);have hq:=(W3.bd (over_ok hX (d:=10) (by omega))).1;have hlen:=decL_len29 V hV
 have ht:t<29:=by
  rcases h with ⟨h1,_⟩ | ⟨h1,h2,h3⟩ | ⟨h1,h2,h3⟩
  ·omega
  ·omega
  ·rw [h3,List.length_append,dsOf_len] at hlen;have h5:1≤(decL X.val.toNat).length:=(decL_len29 _ (by have:=(W3.bd hX).2;omega)).1;omega
 refine ⟨ht,?_⟩
 have hn:decL V=decL X.val.toNat++dsOf d t:=by
  rcases h with ⟨h1,h2⟩ | ⟨h1,h2,h3⟩ | ⟨_,_,h3⟩
  ·subst h1;rw [h2];simp [dsOf]
  ·omega
  ·exact h3
 have hds:=dsOf_upd d t (48+overR X 10) ht;by_cases h10:X.val<10
 ·right;left;have e0:(overW X 10).val=0:=by omega
  have e1:overR X 10=X.val:=by omega
  refine ⟨by omega,e0,?_⟩;rw [hn,hds,decL_one (by omega),e1];have hx0:=(W3.bd hX).1;rw [show ((X.val.toNat:Nat):Int)=X.val by omega];rfl
 ·right;right;refine ⟨by omega,by omega,?_⟩;rw [hn,hds,decL_more (by omega)];have e1:X.val.toNat / 10=(overW X 10).val.toNat:=by omega
  have e2:((X.val.toNat % 10:Nat):Int)=overR X 10:=by omega
  rw [e1,e2,List.append_assoc];rfl
theorem zero_iff {X:W3} (hX:X.ok):X.val=0↔X=⟨0,0,0⟩:=by
 obtain ⟨⟨h1,_⟩,⟨h2,_⟩,h3,_⟩:=hX;constructor
 ·intro h;unfold W3.val at h;obtain ⟨a,b,c⟩:=X;simp only at *;have:a=0:=by omega
  have:b=0:=by omega
  have:c=0:=by omega
  subst_vars;rfl
 ·intro h;rw [h];rfl
def strOf (ns:List Int):ByteArray:=ns.foldl (fun r n=>r.push (UInt8.ofNat n.toNat)) ByteArray.empty
theorem conv_ds (w:World) (D:Nat) (d:Nat→Int) (t:Nat) (ht:t≤29) (h:Dg w D d) :
  (convert 177 9 (.slice (some ⟨D,29 - t,none⟩) t t)).run Tryz.prog w = .ok (.string (strOf (dsOf d t))) w:=by
 rw [run_convert_bytes_string _ _ _ _ _ _ _ Tryz.underlying177 Tryz.underlying5 Tryz.underlying9,run_bytesToString _ _ _ _ (dsOf d t)]
 ·rfl
 ·have:=run_loadCells (P:=Tryz.prog) w ⟨D,29 - t,none⟩ t (fun i=> .int .u8 (d (29 - t+i))) (fun j hj=>by rw [Addr.add_lit];exact h.cell (by omega));rw [this]
  congr 2
  simp [dsOf]
theorem slice_ds (D t:Nat) (w:World) (h0:0<t) (h1:t≤29) :
  (Instr.sliceAt 174 (.pointer (some ⟨D,0,none⟩)) (some (zI ((29 - t:Nat):Int))) none none).run Tryz.prog w = .ok (.slice (some ⟨D,29 - t,none⟩) t t) w:=by
 have e2:29 - (29 - t)=t:=by omega
 simp [Instr.sliceAt,Instr.sliceBounds,Instr.sliceBound,asIntOf,run_underlying Tryz.underlying174,go_sem,e2];omega
theorem show_any (x:W3) (w:World) (hx:x.ok) :
  Calls Tryz.prog 53 #[wv x] w fun e w'=>e = .returned (.string (strOf (decL x.val.toNat)))∧Below w.heap.size w w':=by
 have hxb:=W3.bd hx;have HX:Hid (x.ok):=hx;have HB0:Hid (∀ o1 o2:Obj,Below w.heap.size w ((w.alloc o1).alloc o2)):=fun o1 o2=>bel2 w o1 o2;clear hx;go_enter Tryz.func53,Tryz.ntmps53;go_wp2_with fail;go_loopw [4] (fun v wr=>∃ (t:Nat) (X:W3) (d:Nat→Int),t≤29∧v=zI ((29 - t:Nat):Int)∧X.ok∧Wat wr w.heap.size X∧Dg wr (w.heap.size+1) d∧Below w.heap.size w wr∧ShowInv x.val.toNat X d t) (fun v _=>(intOf v).toNat)
 case atStart=>exact ⟨0,x,fun _=>0,by omega,rfl,HX.o,trio_a _ _ _ _ _,dg_new _ _,bel2 _ _ _,.inl ⟨rfl,by omega⟩⟩
 case round=>
  obtain ⟨t,X,d,ht,rfl,hX,hT,hD,hb,hi⟩:=hrel;by_cases hgo:t=0∨0<X.val
  ·obtain ⟨ht29,hm⟩:=show_more (by omega) hi hgo hX;have HM:Hid (ShowInv x.val.toNat (overW X 10) (updd d (28 - t) (48+overR X 10)) (t+1)):=hm;have hz:=(zero_iff hX)
   have HT:Hid (Wat wr w.heap.size X):=hT;have HD:Hid (Dg wr (w.heap.size+1) d):=hD;have HB:Hid (Below w.heap.size w wr):=hb;have c0:=hT.c0;have c1:=hT.c1;have c2:=hT.c2;clear hT hD hb hi hm;have e28:((29 - t:Nat):Int) - 1=((28 - t:Nat):Int):=by omega
   have g29:28 - t<29:=by omega
   have HG:Hid (29 - (t+1)=28 - t):=(by omega:29 - (t+1)=28 - t)
   by_cases h0:t=0
   ·have e29:(((29 - t:Nat):Int) == 29)=true:=by simp;omega
    have f29:((29 - t:Nat):Int)≤29:=by omega
    clear hgo hz ht;generalize 29 - t=f at *;generalize 28 - t=g at *;go_wp2_with fail;refine (over_any X 10 _ hX (by omega) (by omega)).mono ?_;rintro e w2 ⟨rfl,hb2⟩;have hQ:=over_ok hX (d:=10) (by omega);have hr:=over_left (w:=X) 10 (by omega);have T2:=HT.o.below hb2;have D2:=HD.o.below hb2;have B2:=HB.o.trans (hb2.mono HB.o.size);clear hb2 HT HD HB c0 c1 c2;generalize overW X 10=Q at *;generalize overR X 10=r at *;have c0:=T2.c0;have c1:=T2.c1;have c2:=T2.c2;have f0:=T2.free 0;have f1:=T2.free 1;have f2:=T2.free 2;have T3:=T2.put (.int .u32 Q.a) (.int .u32 Q.b) (.int .u32 Q.c);have D3:=((D2.other (G:=w.heap.size) 0 (.int .u32 Q.a) (by omega)).other (G:=w.heap.size) 1 (.int .u32 Q.b) (by omega)).other (G:=w.heap.size) 2 (.int .u32 Q.c) (by omega);have B3:=below_put3 B2 w.heap.size (.int .u32 Q.a) (.int .u32 Q.b) (.int .u32 Q.c) (Nat.le_refl _);have d1:=D3.cell (i:=g) (by omega);have d2:=D3.free g;have HT:Hid (Wat ((put3 w2 w.heap.size (.int .u32 Q.a) (.int .u32 Q.b) (.int .u32 Q.c)).setCell ⟨w.heap.size+1,g,none⟩ (.int .u8 (48+r))) w.heap.size Q):=T3.other _ _ (by omega);have HD:Hid (Dg ((put3 w2 w.heap.size (.int .u32 Q.a) (.int .u32 Q.b) (.int .u32 Q.c)).setCell ⟨w.heap.size+1,g,none⟩ (.int .u8 (48+r))) (w.heap.size+1) (updd d g (48+r))):=D3.set _ _;have HB:Hid (Below w.heap.size w ((put3 w2 w.heap.size (.int .u32 Q.a) (.int .u32 Q.b) (.int .u32 Q.c)).setCell ⟨w.heap.size+1,g,none⟩ (.int .u8 (48+r)))):=below_set B3 _ _ _ (by omega);clear T2 D2 B2 T3 D3 B3;obtain ⟨r0,r1⟩:=hr;generalize d g=dd at *;go_wp2_with fail;go_roundw
    case rel=>exact ⟨t+1,Q,_,by omega,by rw [HG.o],hQ,HT.o,HD.o,HB.o,HM.o⟩
    case measure=>simp [intOf];omega
   ·have hne:X≠⟨0,0,0⟩:=fun e=>by have:=hz.2 e;omega
    have q:=eq3_other hne;have e29:(((29 - t:Nat):Int) == 29)=false:=by simp;omega
    have f29:((29 - t:Nat):Int)≤29:=by omega
    clear hgo hz;generalize 29 - t=f at *;generalize 28 - t=g at *;go_wp2_with fail;refine (over_any X 10 _ hX (by omega) (by omega)).mono ?_;rintro e w2 ⟨rfl,hb2⟩;have hQ:=over_ok hX (d:=10) (by omega);have hr:=over_left (w:=X) 10 (by omega);have T2:=HT.o.below hb2;have D2:=HD.o.below hb2;have B2:=HB.o.trans (hb2.mono HB.o.size);clear hb2 HT HD HB c0 c1 c2;generalize overW X 10=Q at *;generalize overR X 10=r at *;have c0:=T2.c0;have c1:=T2.c1;have c2:=T2.c2;have f0:=T2.free 0;have f1:=T2.free 1;have f2:=T2.free 2;have T3:=T2.put (.int .u32 Q.a) (.int .u32 Q.b) (.int .u32 Q.c);have D3:=((D2.other (G:=w.heap.size) 0 (.int .u32 Q.a) (by omega)).other (G:=w.heap.size) 1 (.int .u32 Q.b) (by omega)).other (G:=w.heap.size) 2 (.int .u32 Q.c) (by omega);have B3:=below_put3 B2 w.heap.size (.int .u32 Q.a) (.int .u32 Q.b) (.int .u32 Q.c) (Nat.le_refl _);have d1:=D3.cell (i:=g) (by omega);have d2:=D3.free g;have HT:Hid (Wat ((put3 w2 w.heap.size (.int .u32 Q.a) (.int .u32 Q.b) (.int .u32 Q.c)).setCell ⟨w.heap.size+1,g,none⟩ (.int .u8 (48+r))) w.heap.size Q):=T3.other _ _ (by omega);have HD:Hid (Dg ((put3 w2 w.heap.size (.int .u32 Q.a) (.int .u32 Q.b) (.int .u32 Q.c)).setCell ⟨w.heap.size+1,g,none⟩ (.int .u8 (48+r))) (w.heap.size+1) (updd d g (48+r))):=D3.set _ _;have HB:Hid (Below w.heap.size w ((put3 w2 w.heap.size (.int .u32 Q.a) (.int .u32 Q.b) (.int .u32 Q.c)).setCell ⟨w.heap.size+1,g,none⟩ (.int .u8 (48+r)))):=below_set B3 _ _ _ (by omega);clear T2 D2 B2 T3 D3 B3;obtain ⟨r0,r1⟩:=hr;generalize d g=dd at *;go_wp2_with fail;go_roundw
    case rel=>exact ⟨t+1,Q,_,by omega,by rw [HG.o],hQ,HT.o,HD.o,HB.o,HM.o⟩
    case measure=>simp [intOf];omega
  ·have ht0:0<t:=by omega
   have hX0:X.val=0:=by have:=(W3.bd hX).1;omega
   have hXz:=(zero_iff hX).1 hX0
   have hfin:decL x.val.toNat=dsOf d t:=by
    rcases hi with h | ⟨_,_,h⟩ | h
    ·omega
    ·exact h
    ·omega
   subst hXz;have c0:=hT.c0;have c1:=hT.c1;have c2:=hT.c2;have q:=eq3_same ⟨0,0,0⟩;have e29:(((29 - t:Nat):Int) == 29)=false:=by simp;omega
   have hsl:=slice_ds (w.heap.size+1) t wr ht0 ht;have hcv:=conv_ds wr (w.heap.size+1) d t ht hD;rw [← hfin] at hcv;have HB:Hid (Below w.heap.size w wr):=hb;clear hi hgo hX0 hfin hT hD hb hX;go_wp2_with fail;go_ret;exact ⟨rfl,HB.o⟩
end words
end Go.Proofs.YtnpblpbohcegoaaGreatDoor
