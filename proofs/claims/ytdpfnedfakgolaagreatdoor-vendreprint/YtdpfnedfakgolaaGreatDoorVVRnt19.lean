import Derived.Test.YtdpfnedfakgolaaGreatDoorVVRnt13
import Derived.Test.YtdpfnedfakgolaaGreatDoorVVRnt14
import Derived.Test.YtdpfnedfakgolaaGreatDoorVVRnt17
import Derived.Test.YtdpfnedfakgolaaGreatDoorVVRnt18
set_option linter.unusedVariables false
set_option linter.unusedSimpArgs false
set_option maxHeartbeats 4000000
set_option maxRecDepth 100000
namespace Go.Proofs.YtdpfnedfakgolaaGreatDoor
namespace vnd
open book (Ev ev0 Cm cm0 So so0 Sees)
open acc (Ac Tm Bi)
open ora (Pr)
open cell (Wr RowU RowW)
open rcp (Rc rc0)
open Go.RowKit
def TokGot (w:World) (R:List Wr→List Pr→Rc→Int→Prop) (e:Ending) (w':World):Prop:=∃ p m cp ls p5 n5 c5 o' r f,e = .returned (.tuple #[.slice p m cp,.agg #[.slice p5 n5 c5],rcp.Rc.v r,zI f])∧R ls o' r f∧RowW w' p m ls∧(∀ x,p=some x→w.heap.size≤x.block)∧m≤cp∧m≤100000∧ora.RowP w' p5 n5 o'∧(p5=none→c5=0)∧n5≤c5∧(∀ y,p5=some y→w.heap.size≤y.block)∧Below w.heap.size w w'
def KvCha:Prop:=∀ (W:World) (t:Tm) (pt:Option Addr) (lt ct:Nat) (a:Option Addr) (n cap:Nat) (c:List Int) (me:Int) (q:tar.Du),acc.TCame W t pt lt ct→Dk W a n cap c→(Lit.int .i64 me).wf=true→(Lit.int .i64 q.a).wf=true→(Lit.int .i64 q.b).wf=true→Calls Tryz.prog 19 #[t.v pt lt ct,.slice a n cap,zI me,.agg #[zI q.a,zI q.b]] W fun e w'=>WrGot W (ChaIs t c me q.a q.b) e w'
open disk (RepIs AppIs May repD lenAt appW)
open book (EMay evL evOf EncIs DecIs BookIs FirstAt NoneAt Tells billOf soldOf StepIs HapIs)
open acc (SellIs GrantIs RekeyIs OweIs)
open ora (IssueIs)
open cell (wrt)
theorem getD_mapL (l:List Ev) (j:Nat) (h:j<l.length):(l.map evL).getD j []=evL (l.getD j ev0):=by
 simp [List.getD,List.getElem?_eq_getElem h]
theorem getD_inE {l:List Ev} {j:Nat} (h:j<l.length):l.getD j ev0∈l:=by
 have e:l.getD j ev0=l[j]:=by simp [List.getD,List.getElem?_eq_getElem h]
 rw [e];exact List.getElem_mem _
theorem map_back (l:List Ev):(l.map evL).map evOf=l:=by
 induction l with
 | nil=>rfl
 | cons v l ih=>rw [List.map_cons,List.map_cons,ih,book.evOf_L]
theorem kept_tape {c:List Int} {l:List Ev} {e:Nat} (h:disk.Tape c (l.map evL) e) (hm:∀ v∈l,EMay v):KeptIs c l 0:=by
 obtain ⟨h1,h2,h3⟩:=h;refine ⟨l.map evL,(e:Int),0,.inr (.inr ⟨h1,by rw [h2];exact h3,by rw [h2],by rw [h2],rfl⟩),.inr (.inl ⟨rfl,?_,(map_back l).symm,rfl⟩)⟩;intro j hj;rw [List.length_map] at hj;rw [getD_mapL l j hj];exact ⟨rfl,by rw [book.evOf_L];exact hm _ (getD_inE hj)⟩
theorem load_tape {t:Tm} {c:List Int} {l:List Ev} {e:Nat} {bk:List Cm} {a f:Int} (h:disk.Tape c (l.map evL) e) (hm:∀ v∈l,EMay v) (hb:BookIs t l bk a f):LoadIs t c bk f:=⟨l,0,kept_tape h hm,.inr ⟨rfl,a,hb⟩⟩
theorem rmay_ev (v:Ev):disk.RMay (evL v):=⟨by rw [book.evL_len];omega,by rw [book.evL_len];omega⟩
theorem keep_tape {c:List Int} {l:List Ev} {e:Nat} {v:Ev} {ls:List Wr} {f:Int} (h:disk.Tape c (l.map evL) e) (hm:∀ v∈l,EMay v) (hv:EMay v) (hn:l.length<120) (hf:e+13<c.length) (hk:KeepIs c v ls f):ls=appW c e (evL v)∧f=0:=by
 obtain ⟨l',e',hk',h'⟩:=hk;obtain ⟨rfl,rfl⟩:=hk'.one (kept_tape h hm);rcases h' with ⟨p,_⟩ | ⟨_,ws,g,hen,h2⟩
 ·exact absurd hn p
 ·obtain ⟨rfl,rfl⟩:=hen.one (.inl ⟨hv,rfl,rfl⟩);rcases h2 with ⟨p,_⟩ | ⟨_,ha⟩
  ·exact absurd rfl p
  ·rcases h.app ha (rmay_ev v) with ⟨_,b,d⟩ | ⟨b,_⟩
   ·exact ⟨b,d⟩
   ·rw [book.evL_len] at b;omega
theorem tape_next {c:List Int} {l:List Ev} {e:Nat} {v:Ev} (h:disk.Tape c (l.map evL) e) (hf:e+13<c.length):disk.Tape (wrt c (appW c e (evL v))) ((l++[v]).map evL) (e+14):=by
 have:=h.all (rmay_ev v) (by rw [book.evL_len];exact hf);rw [book.evL_len] at this;rw [List.map_append];exact this
theorem tape_cut {c:List Int} {l:List Ev} {e:Nat} {v:Ev} {k:Nat} (h:disk.Tape c (l.map evL) e) (hf:e+13<c.length) (hk:k<(appW c e (evL v)).length):disk.Tape (wrt c ((appW c e (evL v)).take k)) (l.map evL) e:=
 h.cut (by rw [book.evL_len];exact hf) hk
theorem book_ok {t:Tm} {l:List Ev} {bk:List Cm} {a:Int} (h:BookIs t l bk a 0):acc.TRight t∧l.length≤120∧a=0∧∃ st:Nat→List Cm,st 0=[]∧(∀ i,i<l.length→StepIs t (st i) (l.getD i ev0) (st (i+1)) 0)∧bk=st l.length:=by
 rcases h with ⟨_,p,_⟩ | ⟨_,_,_,_,p⟩ | ⟨p,q,k,st,s0,s1,⟨rfl,s2,s3,_⟩ | ⟨_,_,s2,_⟩⟩
 ·exact absurd rfl p
 ·cases p
 ·exact ⟨p,q,s3,st,s0,s1,s2⟩
 ·exact absurd rfl s2
theorem getD_app1 (l:List Ev) (v:Ev) (i:Nat) (h:i<l.length):(l++[v]).getD i ev0=l.getD i ev0:=by
 simp [List.getD,List.getElem?_append_left h]
theorem getD_app2 (l:List Ev) (v:Ev):(l++[v]).getD l.length ev0=v:=by
 simp [List.getD]
theorem book_next {t:Tm} {l:List Ev} {bk bk':List Cm} {v:Ev} (h:BookIs t l bk 0 0) (hl:l.length<120) (hs:StepIs t bk v bk' 0):BookIs t (l++[v]) bk' 0 0:=by
 obtain ⟨ht,_,_,st,s0,s1,rfl⟩:=book_ok h;obtain ⟨st',a0,a1,a2⟩:=book.run_more (l:=l++[v]) (k:=l.length) (st:=st) (bk:=bk') (fun i hi=>by rw [getD_app1 l v i hi];exact s1 i hi) (by rw [getD_app2];exact hs);refine .inr (.inr ⟨ht,by rw [List.length_append];simp;omega,l.length+1,st',a0.trans s0,a2,.inl ⟨by rw [List.length_append];rfl,a1.symm,rfl,rfl⟩⟩)
def Grows (a b:List Cm):Prop:=a.length≤b.length∧∀ i,i<a.length→(b.getD i cm0).a.me=(a.getD i cm0).a.me∧∃ s,(b.getD i cm0).so=(a.getD i cm0).so++s
theorem sell_same {a:Ac} {t:Tm} {te m:Int} {b:Ac} {l:Bi} (h:SellIs a t te m b l 0):b.me=a.me∧b.rv=a.rv∧b.nx=a.nx+1∧l.id=a.nx:=by
 rcases h with ⟨h,rfl,rfl⟩ | ⟨_,_,h,_⟩ | ⟨_,_,_,h,_⟩ | ⟨_,_,_,_,u,_,rfl,rfl⟩
 ·rcases h with ⟨_,h⟩ | ⟨_,h1,h2⟩ | ⟨_,_,_,h⟩
  ·cases h
  ·exact absurd (h2.ok.1 rfl) h1
  ·exact absurd rfl h.ne
 ·cases h
 ·cases h
 ·exact ⟨rfl,rfl,rfl,rfl⟩
theorem grant_same {a:Ac} {t:Tm} {m:Int} {b:Ac} {l:Bi} (h:GrantIs a t m b l 0):b.me=a.me∧b.rv=a.rv∧b.nx=a.nx+1∧l.id=a.nx:=by
 rcases h with ⟨h,rfl,rfl⟩ | ⟨_,_,h,_⟩ | ⟨_,_,_,h,_⟩ | ⟨_,_,_,_,h,_⟩ | ⟨_,_,_,_,_,rfl,rfl⟩
 ·rcases h with ⟨_,h⟩ | ⟨_,h1,h2⟩ | ⟨_,_,_,h⟩
  ·cases h
  ·exact absurd (h2.ok.1 rfl) h1
  ·exact absurd rfl h.ne
 ·cases h
 ·cases h
 ·cases h
 ·exact ⟨rfl,rfl,rfl,rfl⟩
theorem rekey_same {a b:Ac} {l:Bi} (h:RekeyIs a b l 0):b.me=a.me∧b.rv=a.rv+1∧b.nx=a.nx+1∧l.id=a.nx:=by
 rcases h with ⟨_,_,_,h⟩ | ⟨_,_,_,_,h⟩ | ⟨_,_,_,_,_,h⟩ | ⟨_,_,_,rfl,rfl,_⟩
 ·cases h
 ·cases h
 ·cases h
 ·exact ⟨rfl,rfl,rfl,rfl⟩
theorem owe_same {a b:Ac} {q:tar.Du} (h:OweIs a q b 0):b.me=a.me∧b.rv=a.rv∧b.nx=a.nx:=by
 rcases h with ⟨_,_,h⟩ | ⟨_,_,_,h⟩ | ⟨_,_,_,_,h⟩ | ⟨_,_,_,rfl,_⟩
 ·cases h
 ·cases h
 ·cases h
 ·exact ⟨rfl,rfl,rfl⟩
theorem tells_same {t:Tm} {c:Cm} {v:Ev} {b:Ac} {l:Bi} (h:Tells t c v b l 0):b.me=c.a.me∧c.a.rv≤b.rv∧b.nx=c.a.nx+1∧l.id=c.a.nx:=by
 rcases h with ⟨_,h⟩ | ⟨_,h⟩ | ⟨_,h⟩
 ·obtain ⟨h1,h2,h3,h4⟩:=sell_same h;exact ⟨h1,by omega,h3,h4⟩
 ·obtain ⟨h1,h2,h3,h4⟩:=grant_same h;exact ⟨h1,by omega,h3,h4⟩
 ·obtain ⟨h1,h2,h3,h4⟩:=rekey_same h;exact ⟨h1,by omega,h3,h4⟩
theorem hap_grows {t:Tm} {c c':Cm} {v:Ev} (h:HapIs t c v c' 0):c'.a.me=c.a.me∧∃ s,c'.so=c.so++s:=by
 rcases h with ⟨p,b,q,r⟩ | ⟨p,b,l,e,q,⟨x,r⟩ | ⟨_,_,r⟩ | ⟨rfl,y,_,z⟩⟩
 ·rw [r rfl];exact ⟨(owe_same q).1,[],(List.append_nil _).symm⟩
 ·exact absurd r.symm x
 ·cases r
 ·rw [z];exact ⟨(tells_same q).1,[soldOf c v],rfl⟩
theorem getD_setC (l:List Cm) (k i:Nat) (x:Cm) (hk:k<l.length):(l.set k x).getD i cm0=if i=k then x else l.getD i cm0:=by
 simp only [List.getD,List.getElem?_set];by_cases e:k=i
 ·subst e;simp [hk]
 ·rw [if_neg e,if_neg (fun q=>e q.symm)]
theorem getD_appC (l:List Cm) (x:Cm) (i:Nat) (h:i<l.length):(l++[x]).getD i cm0=l.getD i cm0:=by
 simp [List.getD,List.getElem?_append_left h]
theorem step_grows {t:Tm} {bk bk':List Cm} {v:Ev} (h:StepIs t bk v bk' 0):Grows bk bk':=by
 rcases h with ⟨_,r⟩ | ⟨_,_,_,r⟩ | ⟨_,_,_,_,s⟩ | ⟨_,_,_,r⟩ | ⟨p,q,k,c',hk,hh,s⟩
 ·cases r
 ·cases r
 ·rw [s];exact ⟨by rw [List.length_append];omega,fun i hi=>by rw [getD_appC _ _ _ hi];exact ⟨rfl,[],(List.append_nil _).symm⟩⟩
 ·cases r
 ·rw [s rfl];refine ⟨by rw [List.length_set];exact Nat.le_refl _,fun i hi=>?_⟩;rw [getD_setC _ _ _ _ hk.1];by_cases e:i=k
  ·subst e;rw [if_pos rfl];exact hap_grows hh
  ·rw [if_neg e];exact ⟨rfl,[],(List.append_nil _).symm⟩
def Num (c:Cm):Prop:=c.a.nx=(c.so.length:Int)+1∧∀ k,k<c.so.length→(c.so.getD k so0).id=(k:Int)+1∧(c.so.getD k so0).rv≤c.a.rv
theorem hap_num {t:Tm} {c c':Cm} {v:Ev} (h:HapIs t c v c' 0) (hn:Num c):Num c':=by
 rcases h with ⟨p,b,q,r⟩ | ⟨p,b,l,e,q,⟨x,r⟩ | ⟨_,_,r⟩ | ⟨rfl,y,_,z⟩⟩
 ·obtain ⟨_,h2,h3⟩:=owe_same q;rw [r rfl];exact ⟨by show b.nx=_;rw [h3];exact hn.1,fun k hk=>⟨(hn.2 k hk).1,by show _≤b.rv;rw [h2];exact (hn.2 k hk).2⟩⟩
 ·exact absurd r.symm x
 ·cases r
 ·obtain ⟨_,h2,h3,h4⟩:=tells_same q;have hid:v.id=c.a.nx:=by rw [← h4,y];rfl
  have hs:(soldOf c v).id=c.a.nx∧(soldOf c v).rv=c.a.rv:=by
   unfold soldOf;by_cases e:v.kd=4
   ·rw [if_pos e];exact ⟨hid,rfl⟩
   ·rw [if_neg e];exact ⟨hid,rfl⟩
  rw [z];refine ⟨?_,fun k hk=>?_⟩
  ·show b.nx=((c.so++[soldOf c v]).length:Int)+1;rw [List.length_append,h3,hn.1];simp
  ·show ((c.so++[soldOf c v]).getD k so0).id=_∧((c.so++[soldOf c v]).getD k so0).rv≤b.rv
   have hk':k<c.so.length+1:=by
    have:k<(c.so++[soldOf c v]).length:=hk;rw [List.length_append] at this;simpa using this
   by_cases e:k<c.so.length
   ·have e2:(c.so++[soldOf c v]).getD k so0=c.so.getD k so0:=by simp [List.getD,List.getElem?_append_left e]
    rw [e2];exact ⟨(hn.2 k e).1,Int.le_trans (hn.2 k e).2 h2⟩
   ·obtain rfl:k=c.so.length:=by omega
    have e2:(c.so++[soldOf c v]).getD c.so.length so0=soldOf c v:=by simp [List.getD]
    rw [e2,hs.1,hs.2];exact ⟨hn.1,h2⟩
theorem step_num {t:Tm} {bk bk':List Cm} {v:Ev} (h:StepIs t bk v bk' 0) (hn:∀ c∈bk,Num c):∀ c∈bk',Num c:=by
 rcases h with ⟨_,r⟩ | ⟨_,_,_,r⟩ | ⟨_,_,_,_,s⟩ | ⟨_,_,_,r⟩ | ⟨p,q,k,c',hk,hh,s⟩
 ·cases r
 ·cases r
 ·rw [s];intro c hc;rcases List.mem_append.1 hc with h | h
  ·exact hn c h
  ·rw [List.mem_singleton.1 h];exact ⟨rfl,fun k hk=>by cases hk⟩
 ·cases r
 ·rw [s rfl];intro c hc;rcases List.mem_or_eq_of_mem_set hc with h | h
  ·exact hn c h
  ·rw [h];refine hap_num hh (hn _ ?_);have e:bk.getD k cm0=bk[k]'hk.1:=by simp [List.getD,List.getElem?_eq_getElem hk.1]
   rw [e];exact List.getElem_mem _
theorem book_num {t:Tm} {l:List Ev} {bk:List Cm} (h:BookIs t l bk 0 0):∀ c∈bk,Num c:=by
 obtain ⟨_,_,_,st,s0,s1,rfl⟩:=book_ok h
 have:∀ i,i≤l.length→∀ c∈st i,Num c:=by
  intro i
  induction i with
  | zero=>intro _ c hc;rw [s0] at hc;cases hc
  | succ i ih=>intro hi;exact step_num (s1 i (by omega)) (ih (by omega))
 exact this _ (Nat.le_refl _)
end vnd
namespace cell
open Go.RowKit
def GaveC (w:World) (zs:List Int) (c:Int) (e:Ending) (w':World):Prop:=
 ∃ a cap,e = .returned (.tuple #[.slice a zs.length cap,zI c])∧RowU w' a zs.length zs∧(a=none→cap=0)∧zs.length≤cap∧Below w.heap.size w w'
theorem GaveC.mk {w w':World} {zs:List Int} {c:Int} {a:Option Addr} {n cap:Nat} (hr:RowU w' a n zs) (hn:a=none→cap=0) (hc:n≤cap) (hb:Below w.heap.size w w'):GaveC w zs c (.returned (.tuple #[.slice a n cap,zI c])) w':=by
 obtain ⟨h1,h2⟩:=hr;subst h1;exact ⟨a,cap,rfl,⟨rfl,h2⟩,hn,hc,hb⟩
end cell
namespace token
open words
open Go.RowKit
theorem body_ok (k:Tok) (w:World) (ht:TTab w) (hk:k.ok) :
  Calls Tryz.prog 10 #[k.v] w fun e w'=>e = .returned (.tuple #[zI (k.body:Int),zI 0])∧Below w.heap.size w w':=by
 have HF:Hid (∀ W,TTab W→Calls Tryz.prog 27 #[.agg #[zI (k.c:Int),zI (k.i:Int),zI (k.a:Int),zI (k.t:Int)]] W fun e w'=>e = .returned (zI 0)∧Below W.heap.size W w'):=fun W hW=>by
  have:=flaw_any k.c k.i k.a k.t W hW
  rwa [flaw_tok.2 hk] at this
 have HP:Hid (∀ W,TTab W→Calls Tryz.prog 29 #[.agg #[zI (k.c:Int),zI (k.i:Int),zI (k.a:Int),zI (k.t:Int)]] W fun e w'=>PackPost W k e w'):=fun W hW=>pack_any k W hk hW
 have HQ:Hid (∀ (x y z:Nat) W,WN x y z k.num→Calls Tryz.prog 28 #[.agg #[.int .u32 (x:Int),.int .u32 (y:Int),.int .u32 (z:Int)],zI 16,zI 43] W fun e w'=>e = .returned (.tuple #[.int .u64 (k.body:Int),zI 0])∧Below W.heap.size W w'):=fun x y z W hW=>by
  have:=bits_wn x y z 16 43 k.num W hW (by omega) (by omega) (by omega)
  rwa [show k.num / 2 ^ 16 % 2 ^ 43=k.body from body_num hk] at this
 have hwr:IntKind.i64.wrap (k.body:Int)=(k.body:Int):=wrap_i _ (by have:=body_bd hk;omega);have HT:Hid (TTab (w.alloc (.cells #[zI (k.c:Int),zI (k.i:Int),zI (k.a:Int),zI (k.t:Int)] 54))):=ht.below (bel_box _ _);have HB:Hid (Below w.heap.size w (w.alloc (.cells #[zI (k.c:Int),zI (k.i:Int),zI (k.a:Int),zI (k.t:Int)] 54))):=bel_box _ _;have HX:Hid (Blk (w.alloc (.cells #[zI (k.c:Int),zI (k.i:Int),zI (k.a:Int),zI (k.t:Int)] 54)) w.heap.size #[zI (k.c:Int),zI (k.i:Int),zI (k.a:Int),zI (k.t:Int)] 54):=Blk.new _ _ _;clear ht hk;unfold Tok.v;generalize (k.body:Int)=bd at *;go_enter Tryz.func10,Tryz.ntmps10;go_wp2_with fail;refine (HF.o _ HT.o).mono ?_;rintro e w1 ⟨rfl,hb1⟩;have HB1:=shB HB hb1;have HT1:Hid (TTab w1):=HT.o.below hb1;have hX:=HX.o.next hb1;have x0:=hX.cell 0;have x1:=hX.cell 1;have x2:=hX.cell 2;have x3:=hX.cell 3;clear hb1 HF HB HT HX hX;go_wp2_with fail;refine (HP.o _ HT1.o).mono ?_;rintro e w2 ⟨x,y,z,rfl,hwn,hb2⟩;have HB2:=shB HB1 hb2;have HN:Hid (WN x y z k.num):=hwn;clear hb2 hwn HB1 HT1 HP x0 x1 x2 x3;go_wp2_with fail;refine (HQ.o _ _ _ _ HN.o).mono ?_;rintro e w3 ⟨rfl,hb3⟩;have HB3:=shB HB2 hb3;clear hb3 HB2 HQ;go_wp2_with fail;refine bodyPost_ret (v:= .tuple #[zI bd,zI 0]) (by simp [results,Tryz.results10,go_sem]) rfl ⟨rfl,HB3.o⟩
end token
namespace book
open Go.RowKit
def MustPost (w:World) (v:Ev) (e:Ending) (w':World):Prop:=((EMay v∧e = .returned (.tuple #[]))∨(¬ EMay v∧e = .panicked (thrown 5)))∧Below w.heap.size w w'
theorem eqEv_any (a b:Ev) (w:World):∃ B,(Op.equalIn 10000 125 (.agg a.cs) (.agg b.cs)).run Tryz.prog w = .ok B w∧(B=true↔a=b):=by
 obtain ⟨a0,a1,a2,a3,a4,a5,a6,a7,a8,a9,a10,a11,a12⟩:=a;obtain ⟨b0,b1,b2,b3,b4,b5,b6,b7,b8,b9,b10,b11,b12⟩:=b;refine ⟨_,eqEv 9997 a0 a1 a2 a3 a4 a5 a6 a7 a8 a9 a10 a11 a12 b0 b1 b2 b3 b4 b5 b6 b7 b8 b9 b10 b11 b12 w,?_⟩;rw [decide_eq_true_iff];constructor
 ·rintro ⟨rfl,rfl,rfl,rfl,rfl,rfl,rfl,rfl,rfl,rfl,rfl,rfl,rfl⟩;rfl
 ·intro h;cases h;exact ⟨rfl,rfl,rfl,rfl,rfl,rfl,rfl,rfl,rfl,rfl,rfl,rfl,rfl⟩
theorem bmust (v:Ev) (w:World):Calls Tryz.prog 104 #[.agg #[zI v.kd,zI v.me,zI v.mo,zI v.id,zI v.te,zI v.de,zI v.fe,zI v.pr,zI v.ch,zI v.un,zI v.tg,zI v.ow,zI v.bp]] w fun e w'=>MustPost w v e w':=by
 have HMI:Hid (EMay v↔(0≤v.me∧v.me≤49)∧KindR v∧leftE v=ev0):=may_iff v;obtain ⟨W0,HWW,HX0,HB0,-⟩:=sh1 w #[zI v.kd,zI v.me,zI v.mo,zI v.id,zI v.te,zI v.de,zI v.fe,zI v.pr,zI v.ch,zI v.un,zI v.tg,zI v.ow,zI v.bp] 125;have HNO:Hid (∀ W,Calls Tryz.prog 134 #[zI 5] W fun e w'=>e = .panicked (thrown 5)∧w'=W):=fun W=>insist_no 5 (by decide) W;have HKR:Hid (∀ W,Calls Tryz.prog 132 #[.agg #[zI v.kd,zI v.me,zI v.mo,zI v.id,zI v.te,zI v.de,zI v.fe,zI v.pr,zI v.ch,zI v.un,zI v.tg,zI v.ow,zI v.bp]] W fun e w'=>YN W (KindR v) e w'):=fun W=>bkind v.kd v.me v.mo v.id v.te v.de v.fe v.pr v.ch v.un v.tg v.ow v.bp W;have HLE:Hid (∀ W,Calls Tryz.prog 133 #[.agg #[zI v.kd,zI v.me,zI v.mo,zI v.id,zI v.te,zI v.de,zI v.fe,zI v.pr,zI v.ch,zI v.un,zI v.tg,zI v.ow,zI v.bp]] W fun e w'=>e = .returned (leftE v).v∧Below W.heap.size W w'):=fun W=>bleft v W;go_enter Tryz.func104,Tryz.ntmps104;go_upto_region 1 with fail
 rw [HWW.o];clear HWW;obtain ⟨c0,c1,c2,c3,c4,c5,c6,c7,c8,c9,c10,c11,c12⟩:=scl13 HX0;have HW:Hid (Calls Tryz.prog 131 #[zI 0,zI 49,.slice (some ⟨W0.heap.size,0,none⟩) 1 1] (W0.alloc (.cells #[zI v.me] 3)) fun e w'=>e = .returned (.bool (decide (0≤v.me∧v.me≤49)))∧w'=(W0.alloc (.cells #[zI v.me] 3))):=bki.within_one 0 49 v.me W0 _ rfl;have HB1:Hid (Below w.heap.size w (W0.alloc (.cells #[zI v.me] 3))):=HB0.o.alloc HB0.o.size _;have HX1:Hid (Blk (W0.alloc (.cells #[zI v.me] 3)) w.heap.size #[zI v.kd,zI v.me,zI v.mo,zI v.id,zI v.te,zI v.de,zI v.fe,zI v.pr,zI v.ch,zI v.un,zI v.tg,zI v.ow,zI v.bp] 125):=HX0.o.alloc _;by_cases h0:0≤v.me∧v.me≤49
 case neg=>
  rw [decide_eq_false h0] at HW;have HN:Hid (¬ EMay v):=fun q=>h0 (HMI.o.1 q).1;clear h0;go_wp2_with fail;refine HW.o.mono ?_;rintro e W ⟨rfl,hw⟩;subst hw;clear HW;clear HX0 HB0 c0 c1 c2 c3 c4 c5 c6 c7 c8 c9 c10 c11 c12;generalize (W0.alloc (.cells #[zI v.me] 3))=W1 at *;obtain ⟨c0,c1,c2,c3,c4,c5,c6,c7,c8,c9,c10,c11,c12⟩:=scl13 HX1;go_wp2_with fail;refine (HNO.o _).mono ?_;rintro e W9 ⟨rfl,rfl⟩;exact ⟨rfl,.inr ⟨HN.o,rfl⟩,HB1.o⟩
 rw [decide_eq_true h0] at HW;have H0:Hid (0≤v.me∧v.me≤49):=h0;clear h0;go_wp2_with fail;refine HW.o.mono ?_;rintro e W ⟨rfl,hw⟩;subst hw;clear HW HX0 HB0;clear c0 c1 c2 c3 c4 c5 c6 c7 c8 c9 c10 c11 c12;generalize (W0.alloc (.cells #[zI v.me] 3))=W1 at *;obtain ⟨c0,c1,c2,c3,c4,c5,c6,c7,c8,c9,c10,c11,c12⟩:=scl13 HX1;go_wp2_with fail;refine (HKR.o _).mono ?_;rintro e W2 ⟨B,rfl,hB,hb⟩;have HB2:=shB HB1 hb;have HX2:=shN HX1 hb;clear hb HKR HB1 HX1;clear c0 c1 c2 c3 c4 c5 c6 c7 c8 c9 c10 c11 c12;obtain ⟨c0,c1,c2,c3,c4,c5,c6,c7,c8,c9,c10,c11,c12⟩:=scl13 HX2;cases B
 case false=>
  have HN:Hid (¬ EMay v):=fun q=>absurd (hB.2 (HMI.o.1 q).2.1) (by decide);clear hB;go_wp2_with fail;refine (HNO.o _).mono ?_;rintro e W9 ⟨rfl,rfl⟩;exact ⟨rfl,.inr ⟨HN.o,rfl⟩,HB2.o⟩
 have HK:Hid (KindR v):=hB.1 rfl;clear hB;go_wp2_with fail;refine (HLE.o _).mono ?_;rintro e W3 ⟨rfl,hb⟩;have HB3:=shB HB2 hb;clear hb HLE HB2 HX2;clear c0 c1 c2 c3 c4 c5 c6 c7 c8 c9 c10 c11 c12;obtain ⟨B,hB,hBi⟩:=eqEv_any (leftE v) ev0 W3;have HEQ:Hid ((Op.equalIn 10000 125 (.agg (leftE v).cs) (.agg ev0.cs)).run Tryz.prog W3 = .ok B W3):=hB;have HBI:Hid (B=true↔leftE v=ev0):=hBi;clear hB hBi;unfold Ev.v;cases B
 case false=>
  have HN:Hid (¬ EMay v):=fun q=>absurd (HBI.o.2 (HMI.o.1 q).2.2) (by decide);go_wp2_with (first | (refine wp_neE (by rfl) 125 _ _ _ rfl (leftE v).cs ev0.cs rfl rfl (by kernel_rfl) false HEQ.o _ rfl ?_) | fail)
  go_wp2_with fail;refine (HNO.o _).mono ?_;rintro e W9 ⟨rfl,rfl⟩;exact ⟨rfl,.inr ⟨HN.o,rfl⟩,HB3.o⟩
 case true=>
  have HY:Hid (EMay v):=HMI.o.2 ⟨H0.o,HK.o,HBI.o.1 rfl⟩;go_wp2_with (first | (refine wp_neE (by rfl) 125 _ _ _ rfl (leftE v).cs ev0.cs rfl rfl (by kernel_rfl) true HEQ.o _ rfl ?_) | fail)
  go_end0;exact ⟨.inl ⟨HY.o,rfl⟩,HB3.o⟩
end book
namespace acc
open tar (Du du0 Came RowD Ld PairT)
open Go.RowKit
theorem grown_blk {w w':World} {own:Option Nat} {G:Nat} {cs:Array Value} {t:TypeId} (h:Blk w G cs t) (hg:w.grownBy w' own) (hne:some G≠own):Blk w' G cs t:=by
 unfold Blk at *;rw [hg.block G (Blk.lt h) hne];exact h
end acc
namespace book
open Go.RowKit
def KOf:Prop:=∀ (W:World) (t:acc.Tm) (pt:Option Addr) (lt ct:Nat) (pl:Option Addr) (n cap:Nat) (l:List Ev),acc.TCame W t pt lt ct→ECame W pl n cap l→Calls Tryz.prog 45 #[t.v pt lt ct,.slice pl n cap] W fun e w'=>BookPost W t l e w'
end book
end Go.Proofs.YtdpfnedfakgolaaGreatDoor
