import Derived.Test.YtnpblpbohcegoaaGreatDoorVVRry12
import Derived.Test.YtnpblpbohcegoaaGreatDoorVVRry15
set_option linter.unusedVariables false
set_option linter.unusedSimpArgs false
set_option maxHeartbeats 4000000
set_option maxRecDepth 100000
namespace Go.Proofs.YtnpblpbohcegoaaGreatDoor
namespace vnd
open disk (RepIs AppIs May repD lenAt appW)
open book (Ev ev0 EMay evL evOf EncIs DecIs Cm cm0 So so0 BookIs FirstAt NoneAt Tells billOf soldOf StepIs HapIs)
open acc (Ac Tm Bi SellIs GrantIs RekeyIs OweIs)
open ora (Pr IssueIs)
open cell (Wr wrt)
theorem getD_mapL (l:List Ev) (j:Nat) (h:j<l.length):(l.map evL).getD j []=evL (l.getD j ev0):=by
 simp [List.getD,List.getElem?_eq_getElem h]
theorem getD_inE {l:List Ev} {j:Nat} (h:j<l.length):l.getD j ev0∈l:=by
 have e:l.getD j ev0=l[j]:=by simp [List.getD,List.getElem?_eq_getElem h]
 rw [e];exact List.getElem_mem _
theorem map_back (l:List Ev):(l.map evL).map evOf=l:=by
 induction l with
 | nil=>rfl
 | cons v l ih=>rw [List.map_cons,List.map_cons,ih,book.evOf_L]
theorem kept_tape {c:List Int} {l:List Ev} {e:Nat} (h:disk.Tape c (l.map evL) e) (hm:∀ v∈l,EMay v):KeptIs c l 0:=by
 obtain ⟨h1,h2,h3⟩:=h;refine ⟨l.map evL,(e:Int),0,.inr (.inr ⟨h1,by rw [h2];exact h3,by rw [h2],by rw [h2],rfl⟩),.inr (.inl ⟨rfl,?_,(map_back l).symm,rfl⟩)⟩;intro j hj;rw [List.length_map] at hj;rw [getD_mapL l j hj];exact ⟨rfl,by rw [book.evOf_L];exact hm _ (getD_inE hj)⟩
theorem load_tape {t:Tm} {c:List Int} {l:List Ev} {e:Nat} {bk:List Cm} {a f:Int} (h:disk.Tape c (l.map evL) e) (hm:∀ v∈l,EMay v) (hb:BookIs t l bk a f):LoadIs t c bk f:=⟨l,0,kept_tape h hm,.inr ⟨rfl,a,hb⟩⟩
theorem rmay_ev (v:Ev):disk.RMay (evL v):=⟨by rw [book.evL_len];omega,by rw [book.evL_len];omega⟩
theorem keep_tape {c:List Int} {l:List Ev} {e:Nat} {v:Ev} {ls:List Wr} {f:Int} (h:disk.Tape c (l.map evL) e) (hm:∀ v∈l,EMay v) (hv:EMay v) (hn:l.length<120) (hf:e+13<c.length) (hk:KeepIs c v ls f):ls=appW c e (evL v)∧f=0:=by
 obtain ⟨l',e',hk',h'⟩:=hk;obtain ⟨rfl,rfl⟩:=hk'.one (kept_tape h hm);rcases h' with ⟨p,_⟩ | ⟨_,ws,g,hen,h2⟩
 ·exact absurd hn p
 ·obtain ⟨rfl,rfl⟩:=hen.one (.inl ⟨hv,rfl,rfl⟩);rcases h2 with ⟨p,_⟩ | ⟨_,ha⟩
  ·exact absurd rfl p
  ·rcases h.app ha (rmay_ev v) with ⟨_,b,d⟩ | ⟨b,_⟩
   ·exact ⟨b,d⟩
   ·rw [book.evL_len] at b;omega
theorem tape_next {c:List Int} {l:List Ev} {e:Nat} {v:Ev} (h:disk.Tape c (l.map evL) e) (hf:e+13<c.length):disk.Tape (wrt c (appW c e (evL v))) ((l++[v]).map evL) (e+14):=by
 have:=h.all (rmay_ev v) (by rw [book.evL_len];exact hf);rw [book.evL_len] at this;rw [List.map_append];exact this
theorem tape_cut {c:List Int} {l:List Ev} {e:Nat} {v:Ev} {k:Nat} (h:disk.Tape c (l.map evL) e) (hf:e+13<c.length) (hk:k<(appW c e (evL v)).length):disk.Tape (wrt c ((appW c e (evL v)).take k)) (l.map evL) e:=
 h.cut (by rw [book.evL_len];exact hf) hk
theorem book_ok {t:Tm} {l:List Ev} {bk:List Cm} {a:Int} (h:BookIs t l bk a 0):acc.TRight t∧l.length≤120∧a=0∧∃ st:Nat→List Cm,st 0=[]∧(∀ i,i<l.length→StepIs t (st i) (l.getD i ev0) (st (i+1)) 0)∧bk=st l.length:=by
 rcases h with ⟨_,p,_⟩ | ⟨_,_,_,_,p⟩ | ⟨p,q,k,st,s0,s1,⟨rfl,s2,s3,_⟩ | ⟨_,_,s2,_⟩⟩
 ·exact absurd rfl p
 ·cases p
 ·exact ⟨p,q,s3,st,s0,s1,s2⟩
 ·exact absurd rfl s2
theorem getD_app1 (l:List Ev) (v:Ev) (i:Nat) (h:i<l.length):(l++[v]).getD i ev0=l.getD i ev0:=by
 simp [List.getD,List.getElem?_append_left h]
theorem getD_app2 (l:List Ev) (v:Ev):(l++[v]).getD l.length ev0=v:=by
 simp [List.getD]
theorem book_next {t:Tm} {l:List Ev} {bk bk':List Cm} {v:Ev} (h:BookIs t l bk 0 0) (hl:l.length<120) (hs:StepIs t bk v bk' 0):BookIs t (l++[v]) bk' 0 0:=by
 obtain ⟨ht,_,_,st,s0,s1,rfl⟩:=book_ok h;obtain ⟨st',a0,a1,a2⟩:=book.run_more (l:=l++[v]) (k:=l.length) (st:=st) (bk:=bk') (fun i hi=>by rw [getD_app1 l v i hi];exact s1 i hi) (by rw [getD_app2];exact hs);refine .inr (.inr ⟨ht,by rw [List.length_append];simp;omega,l.length+1,st',a0.trans s0,a2,.inl ⟨by rw [List.length_append];rfl,a1.symm,rfl,rfl⟩⟩)
def Grows (a b:List Cm):Prop:=a.length≤b.length∧∀ i,i<a.length→(b.getD i cm0).a.me=(a.getD i cm0).a.me∧∃ s,(b.getD i cm0).so=(a.getD i cm0).so++s
theorem sell_same {a:Ac} {t:Tm} {te m:Int} {b:Ac} {l:Bi} (h:SellIs a t te m b l 0):b.me=a.me∧b.rv=a.rv∧b.nx=a.nx+1∧l.id=a.nx:=by
 rcases h with ⟨h,rfl,rfl⟩ | ⟨_,_,h,_⟩ | ⟨_,_,_,h,_⟩ | ⟨_,_,_,_,u,_,rfl,rfl⟩
 ·rcases h with ⟨_,h⟩ | ⟨_,h1,h2⟩ | ⟨_,_,_,h⟩
  ·cases h
  ·exact absurd (h2.ok.1 rfl) h1
  ·exact absurd rfl h.ne
 ·cases h
 ·cases h
 ·exact ⟨rfl,rfl,rfl,rfl⟩
theorem grant_same {a:Ac} {t:Tm} {m:Int} {b:Ac} {l:Bi} (h:GrantIs a t m b l 0):b.me=a.me∧b.rv=a.rv∧b.nx=a.nx+1∧l.id=a.nx:=by
 rcases h with ⟨h,rfl,rfl⟩ | ⟨_,_,h,_⟩ | ⟨_,_,_,h,_⟩ | ⟨_,_,_,_,h,_⟩ | ⟨_,_,_,_,_,rfl,rfl⟩
 ·rcases h with ⟨_,h⟩ | ⟨_,h1,h2⟩ | ⟨_,_,_,h⟩
  ·cases h
  ·exact absurd (h2.ok.1 rfl) h1
  ·exact absurd rfl h.ne
 ·cases h
 ·cases h
 ·cases h
 ·exact ⟨rfl,rfl,rfl,rfl⟩
theorem rekey_same {a b:Ac} {l:Bi} (h:RekeyIs a b l 0):b.me=a.me∧b.rv=a.rv+1∧b.nx=a.nx+1∧l.id=a.nx:=by
 rcases h with ⟨_,_,_,h⟩ | ⟨_,_,_,_,h⟩ | ⟨_,_,_,_,_,h⟩ | ⟨_,_,_,rfl,rfl,_⟩
 ·cases h
 ·cases h
 ·cases h
 ·exact ⟨rfl,rfl,rfl,rfl⟩
theorem owe_same {a b:Ac} {q:tar.Du} (h:OweIs a q b 0):b.me=a.me∧b.rv=a.rv∧b.nx=a.nx:=by
 rcases h with ⟨_,_,h⟩ | ⟨_,_,_,h⟩ | ⟨_,_,_,_,h⟩ | ⟨_,_,_,rfl,_⟩
 ·cases h
 ·cases h
 ·cases h
 ·exact ⟨rfl,rfl,rfl⟩
theorem tells_same {t:Tm} {c:Cm} {v:Ev} {b:Ac} {l:Bi} (h:Tells t c v b l 0):b.me=c.a.me∧c.a.rv≤b.rv∧b.nx=c.a.nx+1∧l.id=c.a.nx:=by
 rcases h with ⟨_,h⟩ | ⟨_,h⟩ | ⟨_,h⟩
 ·obtain ⟨h1,h2,h3,h4⟩:=sell_same h;exact ⟨h1,by omega,h3,h4⟩
 ·obtain ⟨h1,h2,h3,h4⟩:=grant_same h;exact ⟨h1,by omega,h3,h4⟩
 ·obtain ⟨h1,h2,h3,h4⟩:=rekey_same h;exact ⟨h1,by omega,h3,h4⟩
theorem hap_grows {t:Tm} {c c':Cm} {v:Ev} (h:HapIs t c v c' 0):c'.a.me=c.a.me∧∃ s,c'.so=c.so++s:=by
 rcases h with ⟨p,b,q,r⟩ | ⟨p,b,l,e,q,⟨x,r⟩ | ⟨_,_,r⟩ | ⟨rfl,y,_,z⟩⟩
 ·rw [r rfl];exact ⟨(owe_same q).1,[],(List.append_nil _).symm⟩
 ·exact absurd r.symm x
 ·cases r
 ·rw [z];exact ⟨(tells_same q).1,[soldOf c v],rfl⟩
theorem getD_setC (l:List Cm) (k i:Nat) (x:Cm) (hk:k<l.length):(l.set k x).getD i cm0=if i=k then x else l.getD i cm0:=by
 simp only [List.getD,List.getElem?_set];by_cases e:k=i
 ·subst e;simp [hk]
 ·rw [if_neg e,if_neg (fun q=>e q.symm)]
theorem getD_appC (l:List Cm) (x:Cm) (i:Nat) (h:i<l.length):(l++[x]).getD i cm0=l.getD i cm0:=by
 simp [List.getD,List.getElem?_append_left h]
theorem step_grows {t:Tm} {bk bk':List Cm} {v:Ev} (h:StepIs t bk v bk' 0):Grows bk bk':=by
 rcases h with ⟨_,r⟩ | ⟨_,_,_,r⟩ | ⟨_,_,_,_,s⟩ | ⟨_,_,_,r⟩ | ⟨p,q,k,c',hk,hh,s⟩
 ·cases r
 ·cases r
 ·rw [s];exact ⟨by rw [List.length_append];omega,fun i hi=>by rw [getD_appC _ _ _ hi];exact ⟨rfl,[],(List.append_nil _).symm⟩⟩
 ·cases r
 ·rw [s rfl];refine ⟨by rw [List.length_set];exact Nat.le_refl _,fun i hi=>?_⟩;rw [getD_setC _ _ _ _ hk.1];by_cases e:i=k
  ·subst e;rw [if_pos rfl];exact hap_grows hh
  ·rw [if_neg e];exact ⟨rfl,[],(List.append_nil _).symm⟩
def Num (c:Cm):Prop:=c.a.nx=(c.so.length:Int)+1∧∀ k,k<c.so.length→(c.so.getD k so0).id=(k:Int)+1∧(c.so.getD k so0).rv≤c.a.rv
theorem hap_num {t:Tm} {c c':Cm} {v:Ev} (h:HapIs t c v c' 0) (hn:Num c):Num c':=by
 rcases h with ⟨p,b,q,r⟩ | ⟨p,b,l,e,q,⟨x,r⟩ | ⟨_,_,r⟩ | ⟨rfl,y,_,z⟩⟩
 ·obtain ⟨_,h2,h3⟩:=owe_same q;rw [r rfl];exact ⟨by show b.nx=_;rw [h3];exact hn.1,fun k hk=>⟨(hn.2 k hk).1,by show _≤b.rv;rw [h2];exact (hn.2 k hk).2⟩⟩
 ·exact absurd r.symm x
 ·cases r
 ·obtain ⟨_,h2,h3,h4⟩:=tells_same q;have hid:v.id=c.a.nx:=by rw [← h4,y];rfl
  have hs:(soldOf c v).id=c.a.nx∧(soldOf c v).rv=c.a.rv:=by
   unfold soldOf;by_cases e:v.kd=4
   ·rw [if_pos e];exact ⟨hid,rfl⟩
   ·rw [if_neg e];exact ⟨hid,rfl⟩
  rw [z];refine ⟨?_,fun k hk=>?_⟩
  ·show b.nx=((c.so++[soldOf c v]).length:Int)+1;rw [List.length_append,h3,hn.1];simp
  ·show ((c.so++[soldOf c v]).getD k so0).id=_∧((c.so++[soldOf c v]).getD k so0).rv≤b.rv
   have hk':k<c.so.length+1:=by
    have:k<(c.so++[soldOf c v]).length:=hk;rw [List.length_append] at this;simpa using this
   by_cases e:k<c.so.length
   ·have e2:(c.so++[soldOf c v]).getD k so0=c.so.getD k so0:=by simp [List.getD,List.getElem?_append_left e]
    rw [e2];exact ⟨(hn.2 k e).1,Int.le_trans (hn.2 k e).2 h2⟩
   ·obtain rfl:k=c.so.length:=by omega
    have e2:(c.so++[soldOf c v]).getD c.so.length so0=soldOf c v:=by simp [List.getD]
    rw [e2,hs.1,hs.2];exact ⟨hn.1,h2⟩
theorem step_num {t:Tm} {bk bk':List Cm} {v:Ev} (h:StepIs t bk v bk' 0) (hn:∀ c∈bk,Num c):∀ c∈bk',Num c:=by
 rcases h with ⟨_,r⟩ | ⟨_,_,_,r⟩ | ⟨_,_,_,_,s⟩ | ⟨_,_,_,r⟩ | ⟨p,q,k,c',hk,hh,s⟩
 ·cases r
 ·cases r
 ·rw [s];intro c hc;rcases List.mem_append.1 hc with h | h
  ·exact hn c h
  ·rw [List.mem_singleton.1 h];exact ⟨rfl,fun k hk=>by cases hk⟩
 ·cases r
 ·rw [s rfl];intro c hc;rcases List.mem_or_eq_of_mem_set hc with h | h
  ·exact hn c h
  ·rw [h];refine hap_num hh (hn _ ?_);have e:bk.getD k cm0=bk[k]'hk.1:=by simp [List.getD,List.getElem?_eq_getElem hk.1]
   rw [e];exact List.getElem_mem _
theorem book_num {t:Tm} {l:List Ev} {bk:List Cm} (h:BookIs t l bk 0 0):∀ c∈bk,Num c:=by
 obtain ⟨_,_,_,st,s0,s1,rfl⟩:=book_ok h
 have:∀ i,i≤l.length→∀ c∈st i,Num c:=by
  intro i
  induction i with
  | zero=>intro _ c hc;rw [s0] at hc;cases hc
  | succ i ih=>intro hi;exact step_num (s1 i (by omega)) (ih (by omega))
 exact this _ (Nat.le_refl _)
end vnd
namespace acc
open tar (Du du0 Came RowD Ld PairT)
open Go.RowKit
theorem pgrant (g:Nat) (x:Ac) (p:Option Addr) (len cap:Nat) (t:Tm) (pt:Option Addr) (lt ct:Nat) (m:Int) (w:World) (hw:Blk w g (wcs x bi0 p len cap) 252) (hd:deb.Fresh w (g+1) p len cap x.ds) (ha:AMay x) (ht:Came w pt lt ct t.ts) (hwf:wf4 t) (hfar:Far pt lt g):Calls Tryz.prog 121 #[.pointer (some ⟨g,0,none⟩),.agg #[.slice pt lt ct,zI t.ff,zI t.fb,zI t.db,zI t.al],zI m] w fun e w'=>DPost w g (Or0 (GrantIs x t m)) e w':=by
 have hgl:=hw.lt;have H0B:Hid (Below w.heap.size w (w.alloc (.cells #[.slice pt lt ct,zI t.ff,zI t.fb,zI t.db,zI t.al] 24))):=(Below.refl w.heap.size w).alloc (by simp) _;have H0C:Hid (Chg w (w.alloc (.cells #[.slice pt lt ct,zI t.ff,zI t.fb,zI t.db,zI t.al] 24)) g):= .of H0B.o;have H0t:Hid (Blk (w.alloc (.cells #[.slice pt lt ct,zI t.ff,zI t.fb,zI t.db,zI t.al] 24)) (w.heap.size) #[.slice pt lt ct,zI t.ff,zI t.fb,zI t.db,zI t.al] 24):=Blk.new w _ _;have H0g:Hid (Blk (w.alloc (.cells #[.slice pt lt ct,zI t.ff,zI t.fb,zI t.db,zI t.al] 24)) g (wcs x bi0 p len cap) 252):=hw.alloc _;have H0D:Hid (deb.Fresh (w.alloc (.cells #[.slice pt lt ct,zI t.ff,zI t.fb,zI t.db,zI t.al] 24)) (g+1) p len cap x.ds):=hd.below H0B.o;have H0T:Hid (Came (w.alloc (.cells #[.slice pt lt ct,zI t.ff,zI t.fb,zI t.db,zI t.al] 24)) pt lt ct t.ts):=ht.below H0B.o;have HFAR:Hid (Far pt lt g):=hfar;have HBG:Hid (∀ W,Blk W g (wcs x bi0 p len cap) 252→deb.Fresh W (g+1) p len cap x.ds→Came W pt lt ct t.ts→Calls Tryz.prog 160 #[.pointer (some ⟨g,0,none⟩),.agg #[.slice pt lt ct,zI t.ff,zI t.fb,zI t.db,zI t.al],zI m] W fun e w'=>DPost W g (BeginR x t m bi0) e w'):=fun W h1 h2 h3=>pbegin g x p len cap t pt lt ct bi0 m W h1 h2 ha h3 hwf hfar;have HM:Hid (AMay x):=ha;have hnx:=ha.2.2.2.1;clear hw hd ht hwf hfar ha H0B;generalize hWW:(w.alloc (.cells #[.slice pt lt ct,zI t.ff,zI t.fb,zI t.db,zI t.al] 24))=W0 at *;have HWW:Hid ((w.alloc (.cells #[.slice pt lt ct,zI t.ff,zI t.fb,zI t.db,zI t.al] 24))=W0):=hWW;clear hWW;go_enter Tryz.func121,Tryz.ntmps121;go_upto_region 1 with fail
 rw [HWW.o];clear HWW;go_wp2_with (first | (refine zqw rfl rfl rfl H0t zqu24 ?_) | fail)
 refine (HBG.o _ H0g.o H0D.o H0T.o).mono ?_;rintro e w1 ⟨y,b2,q,n,c,f,rfl,⟨hr,hb2⟩,hi1,hf1,hc1⟩;subst hb2;have H1D:Hid (deb.Fresh w1 (g+1) q n c y.ds):=hf1;have H1g:Hid (Blk w1 g #[zI y.me,zI y.rv,zI y.nx,zI y.mo,zI y.bo,zI y.fr,.slice q n c,zI 0,zI 0,zI 0,zI 0,zI 0,zI 0,zI 0] 252):=hi1;have H1t:Hid (Blk w1 (w.heap.size) #[.slice pt lt ct,zI t.ff,zI t.fb,zI t.db,zI t.al] 24):=Chg.keep (g:=g) (hc1) H0t.o (by omega);have H1T:Hid (Came w1 pt lt ct t.ts):=came_chg H0T.o (hc1) HFAR.o;have H1C:Hid (Chg w w1 g):=H0C.o.trans (hc1);clear H0C H0g H0t H0T hf1 hc1 hi1 H0D HBG;by_cases h0:f=0
 ·skip
  subst h0
  have hrr:TRight t∧RMay x m∧y=rolled x m:=by
   rcases hr with ⟨h1,h2,_⟩ | ⟨_,_,h3,_⟩ | ⟨h1,h2,h3,_⟩
   ·exact absurd (h2.ok.1 rfl) h1
   ·exact absurd rfl h3.ne
   ·exact ⟨h1,h2,h3⟩
  have HRY:Hid (Ready x t m):=⟨HM.o,hrr.1,hrr.2.1⟩
  have HT:Hid (TRight t):=hrr.1;have HBR:Hid (y=rolled x m):=hrr.2.2;have hbs:=rolled_same x m;rw [← hrr.2.2] at hbs;have hbo:=(rolled_may HM.o hrr.2.1).2.2.2.2.2.1;rw [← hrr.2.2] at hbo;have hdm:deb.Mays y.ds:=by rw [hrr.2.2];exact (rolled_may HM.o hrr.2.1).1
  have HYN:Hid (y.nx=x.nx):=hbs.2.2.1;have hyx:1≤y.nx∧y.nx≤1048576:=by rw [hbs.2.2.1];exact hnx
  have HBS:Hid (y.me=x.me∧y.rv=x.rv∧y.nx=x.nx∧y.mo=m∧y.fr=x.fr):=hbs;clear hrr hr hbs;by_cases h5:t.al=0
  ·have d5:(t.al == 0)=true:=by simpa using h5
   have HV:Hid (Or0 (GrantIs x t m) y bi0 22):= .inl ⟨by decide,.inr (.inl ⟨HRY.o,h5,rfl,rfl,rfl⟩)⟩;clear h5;have qt4:w1.cell? ⟨w.heap.size,4,none⟩=some (zI t.al):=H1t.o.cell 4;go_wp2_with fail;go_ret;exact ⟨y,bi0,q,n,c,22,rfl,HV.o,H1g.o,H1D.o,H1C.o⟩
  ·have d5:(t.al == 0)=false:=by simpa using h5
   by_cases h6:x.fr=m
   ·have d6:(y.fr == m)=true:=by simp;rw [HBS.o.2.2.2.2];exact h6
    have HV:Hid (Or0 (GrantIs x t m) y bi0 21):= .inl ⟨by decide,.inr (.inr (.inl ⟨HRY.o,h5,h6,rfl,rfl,rfl⟩))⟩;clear h5 h6;have qt4:w1.cell? ⟨w.heap.size,4,none⟩=some (zI t.al):=H1t.o.cell 4;have qg5:w1.cell? ⟨g,5,none⟩=some (zI y.fr):=H1g.o.cell 5;go_wp2_with fail;go_ret;exact ⟨y,bi0,q,n,c,21,rfl,HV.o,H1g.o,H1D.o,H1C.o⟩
   ·have d6:(y.fr == m)=false:=by simp;rw [HBS.o.2.2.2.2];exact h6
    have qt4:w1.cell? ⟨w.heap.size,4,none⟩=some (zI t.al):=H1t.o.cell 4;have qg5:w1.cell? ⟨g,5,none⟩=some (zI y.fr):=H1g.o.cell 5;go_wp2_with (first | (refine wp_let1 rfl 3 _ _ rfl g 5 rfl .i64 m rfl (by kernel_rfl) #[zI y.me,zI y.rv,zI y.nx,zI y.mo,zI y.bo,zI y.fr,.slice q n c,zI 0,zI 0,zI 0,zI 0,zI 0,zI 0,zI 0] 252 H1g.o (by simp) ?_) | fail)
    intro W2 hU;have H2g:Hid (Blk W2 g #[zI y.me,zI y.rv,zI y.nx,zI y.mo,zI y.bo,zI m,.slice q n c,zI 0,zI 0,zI 0,zI 0,zI 0,zI 0,zI 0] 252):=hU.blk;have H2t:Hid (Blk W2 (w.heap.size) #[.slice pt lt ct,zI t.ff,zI t.fb,zI t.db,zI t.al] 24):=Chg.keep (g:=g) (.upd hU) H1t.o (by omega);have H2T:Hid (Came W2 pt lt ct t.ts):=came_chg H1T.o (.upd hU) HFAR.o;have H2D:Hid (deb.Fresh W2 (g+1) q n c y.ds):=fresh_chg H1D.o (.upd hU);have H2C:Hid (Chg w W2 g):=H1C.o.trans (.upd hU);clear H1C H1g H1t H1T H1D hU qt4 qg5 d5 d6;have qt4:W2.cell? ⟨w.heap.size,4,none⟩=some (zI t.al):=H2t.o.cell 4;go_wp2_with (first | (refine wp_let1 rfl 3 _ _ rfl g 13 rfl .i64 t.al rfl (by kernel_rfl) #[zI y.me,zI y.rv,zI y.nx,zI y.mo,zI y.bo,zI m,.slice q n c,zI 0,zI 0,zI 0,zI 0,zI 0,zI 0,zI 0] 252 H2g.o (by simp) ?_) | fail)
    intro W3 hU;have H3g:Hid (Blk W3 g #[zI y.me,zI y.rv,zI y.nx,zI y.mo,zI y.bo,zI m,.slice q n c,zI 0,zI 0,zI 0,zI 0,zI 0,zI 0,zI t.al] 252):=hU.blk;have H3t:Hid (Blk W3 (w.heap.size) #[.slice pt lt ct,zI t.ff,zI t.fb,zI t.db,zI t.al] 24):=Chg.keep (g:=g) (.upd hU) H2t.o (by omega);have H3T:Hid (Came W3 pt lt ct t.ts):=came_chg H2T.o (.upd hU) HFAR.o;have H3D:Hid (deb.Fresh W3 (g+1) q n c y.ds):=fresh_chg H2D.o (.upd hU);have H3C:Hid (Chg w W3 g):=H2C.o.trans (.upd hU);clear H2C H2g H2t H2T H2D hU qt4
    have HGV:Hid (⟨y.me,y.rv,y.nx+1,y.mo,y.bo,m,y.ds⟩=granted x m):=by
     show _=_;unfold granted;rw [← HBR.o,HBS.o.1,HBS.o.2.1,HBS.o.2.2.1,HBS.o.2.2.2.1]
    have HNU:Hid (Calls Tryz.prog 161 #[.pointer (some ⟨g,0,none⟩)] W3 fun e w'=>NumPost W3 g ⟨y.me,y.rv,y.nx,y.mo,y.bo,m,y.ds⟩ ⟨0,0,0,0,0,0,t.al⟩ q n c e w'):=pnum g ⟨y.me,y.rv,y.nx,y.mo,y.bo,m,y.ds⟩ ⟨0,0,0,0,0,0,t.al⟩ q n c W3 H3g.o hyx;go_wp2_with fail;refine HNU.o.mono ?_;rintro e wN ⟨hcN,⟨hx,rfl,hiN⟩ | ⟨hx,rfl,hiN⟩⟩
    ·have HV:Hid (Or0 (GrantIs x t m) ⟨y.me,y.rv,y.nx,y.mo,y.bo,m,y.ds⟩ ⟨0,0,0,0,0,0,t.al⟩ 20):= .inl ⟨by decide,.inr (.inr (.inr (.inl ⟨HRY.o,h5,h6,by rw [← HYN.o];exact hx,rfl,rfl,rfl⟩)))⟩;have HDN:=fresh_chg H3D.o hcN;have HCN:=H3C.o.trans hcN;clear HNU hx;go_wp2_with fail;go_ret;exact ⟨⟨y.me,y.rv,y.nx,y.mo,y.bo,m,y.ds⟩,⟨0,0,0,0,0,0,t.al⟩,q,n,c,20,rfl,HV.o,hiN,HDN,HCN⟩
    ·have HV:Hid (Or0 (GrantIs x t m) ⟨y.me,y.rv,y.nx+1,y.mo,y.bo,m,y.ds⟩ ⟨y.nx,0,0,0,0,0,t.al⟩ 0):= .inr ⟨rfl,.inr (.inr (.inr (.inr ⟨HRY.o,h5,h6,by rw [← HYN.o];exact hx,rfl,HGV.o,by rw [HYN.o]⟩)))⟩;have HDN:=fresh_chg H3D.o hcN;have HCN:=H3C.o.trans hcN;clear HNU hx;go_wp2_with fail;go_ret;exact ⟨⟨y.me,y.rv,y.nx+1,y.mo,y.bo,m,y.ds⟩,⟨y.nx,0,0,0,0,0,t.al⟩,q,n,c,0,rfl,HV.o,hiN,HDN,HCN⟩
 ·skip
  have d0:(f != 0)=true:=by simpa using h0
  have HV:Hid (Or0 (GrantIs x t m) y bi0 f):=by
   refine .inl ⟨h0,.inl ⟨?_,rfl,rfl⟩⟩;rcases hr with ⟨h1,h2,_⟩ | ⟨h1,h2,h3,_⟩ | ⟨_,_,_,h1⟩
   ·exact .inr (.inl ⟨HM.o,h1,h2⟩)
   ·exact .inr (.inr ⟨HM.o,h1,h2,h3⟩)
   ·exact absurd h1 h0
  clear hr h0;go_wp2_with fail;go_ret;exact ⟨y,bi0,q,n,c,f,rfl,HV.o,H1g.o,H1D.o,H1C.o⟩
end acc
end Go.Proofs.YtnpblpbohcegoaaGreatDoor
