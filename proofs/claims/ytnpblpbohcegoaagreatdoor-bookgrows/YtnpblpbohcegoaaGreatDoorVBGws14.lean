import Derived.Test.YtnpblpbohcegoaaGreatDoorVBGws10
import Derived.Test.YtnpblpbohcegoaaGreatDoorVBGws12
import Derived.Test.YtnpblpbohcegoaaGreatDoorVBGws13
set_option linter.unusedVariables false
set_option linter.unusedSimpArgs false
set_option maxHeartbeats 4000000
set_option maxRecDepth 100000
namespace Go.Proofs.YtnpblpbohcegoaaGreatDoor
namespace vnd
open disk (RepIs AppIs May repD lenAt appW)
open book (Ev ev0 EMay evL evOf EncIs DecIs Cm cm0 So so0 BookIs FirstAt NoneAt Tells billOf soldOf StepIs HapIs)
open acc (Ac Tm Bi SellIs GrantIs RekeyIs OweIs)
open ora (Pr IssueIs)
open cell (Wr wrt)
theorem getD_mapL (l:List Ev) (j:Nat) (h:j<l.length):(l.map evL).getD j []=evL (l.getD j ev0):=by
 simp [List.getD,List.getElem?_eq_getElem h]
theorem getD_inE {l:List Ev} {j:Nat} (h:j<l.length):l.getD j ev0∈l:=by
 have e:l.getD j ev0=l[j]:=by simp [List.getD,List.getElem?_eq_getElem h]
 rw [e];exact List.getElem_mem _
theorem map_back (l:List Ev):(l.map evL).map evOf=l:=by
 induction l with
 | nil=>rfl
 | cons v l ih=>rw [List.map_cons,List.map_cons,ih,book.evOf_L]
theorem kept_tape {c:List Int} {l:List Ev} {e:Nat} (h:disk.Tape c (l.map evL) e) (hm:∀ v∈l,EMay v):KeptIs c l 0:=by
 obtain ⟨h1,h2,h3⟩:=h;refine ⟨l.map evL,(e:Int),0,.inr (.inr ⟨h1,by rw [h2];exact h3,by rw [h2],by rw [h2],rfl⟩),.inr (.inl ⟨rfl,?_,(map_back l).symm,rfl⟩)⟩;intro j hj;rw [List.length_map] at hj;rw [getD_mapL l j hj];exact ⟨rfl,by rw [book.evOf_L];exact hm _ (getD_inE hj)⟩
theorem load_tape {t:Tm} {c:List Int} {l:List Ev} {e:Nat} {bk:List Cm} {a f:Int} (h:disk.Tape c (l.map evL) e) (hm:∀ v∈l,EMay v) (hb:BookIs t l bk a f):LoadIs t c bk f:=⟨l,0,kept_tape h hm,.inr ⟨rfl,a,hb⟩⟩
theorem rmay_ev (v:Ev):disk.RMay (evL v):=⟨by rw [book.evL_len];omega,by rw [book.evL_len];omega⟩
theorem keep_tape {c:List Int} {l:List Ev} {e:Nat} {v:Ev} {ls:List Wr} {f:Int} (h:disk.Tape c (l.map evL) e) (hm:∀ v∈l,EMay v) (hv:EMay v) (hn:l.length<120) (hf:e+13<c.length) (hk:KeepIs c v ls f):ls=appW c e (evL v)∧f=0:=by
 obtain ⟨l',e',hk',h'⟩:=hk;obtain ⟨rfl,rfl⟩:=hk'.one (kept_tape h hm);rcases h' with ⟨p,_⟩ | ⟨_,ws,g,hen,h2⟩
 ·exact absurd hn p
 ·obtain ⟨rfl,rfl⟩:=hen.one (.inl ⟨hv,rfl,rfl⟩);rcases h2 with ⟨p,_⟩ | ⟨_,ha⟩
  ·exact absurd rfl p
  ·rcases h.app ha (rmay_ev v) with ⟨_,b,d⟩ | ⟨b,_⟩
   ·exact ⟨b,d⟩
   ·rw [book.evL_len] at b;omega
theorem tape_next {c:List Int} {l:List Ev} {e:Nat} {v:Ev} (h:disk.Tape c (l.map evL) e) (hf:e+13<c.length):disk.Tape (wrt c (appW c e (evL v))) ((l++[v]).map evL) (e+14):=by
 have:=h.all (rmay_ev v) (by rw [book.evL_len];exact hf);rw [book.evL_len] at this;rw [List.map_append];exact this
theorem tape_cut {c:List Int} {l:List Ev} {e:Nat} {v:Ev} {k:Nat} (h:disk.Tape c (l.map evL) e) (hf:e+13<c.length) (hk:k<(appW c e (evL v)).length):disk.Tape (wrt c ((appW c e (evL v)).take k)) (l.map evL) e:=
 h.cut (by rw [book.evL_len];exact hf) hk
theorem book_ok {t:Tm} {l:List Ev} {bk:List Cm} {a:Int} (h:BookIs t l bk a 0):acc.TRight t∧l.length≤120∧a=0∧∃ st:Nat→List Cm,st 0=[]∧(∀ i,i<l.length→StepIs t (st i) (l.getD i ev0) (st (i+1)) 0)∧bk=st l.length:=by
 rcases h with ⟨_,p,_⟩ | ⟨_,_,_,_,p⟩ | ⟨p,q,k,st,s0,s1,⟨rfl,s2,s3,_⟩ | ⟨_,_,s2,_⟩⟩
 ·exact absurd rfl p
 ·cases p
 ·exact ⟨p,q,s3,st,s0,s1,s2⟩
 ·exact absurd rfl s2
theorem getD_app1 (l:List Ev) (v:Ev) (i:Nat) (h:i<l.length):(l++[v]).getD i ev0=l.getD i ev0:=by
 simp [List.getD,List.getElem?_append_left h]
theorem getD_app2 (l:List Ev) (v:Ev):(l++[v]).getD l.length ev0=v:=by
 simp [List.getD]
theorem book_next {t:Tm} {l:List Ev} {bk bk':List Cm} {v:Ev} (h:BookIs t l bk 0 0) (hl:l.length<120) (hs:StepIs t bk v bk' 0):BookIs t (l++[v]) bk' 0 0:=by
 obtain ⟨ht,_,_,st,s0,s1,rfl⟩:=book_ok h;obtain ⟨st',a0,a1,a2⟩:=book.run_more (l:=l++[v]) (k:=l.length) (st:=st) (bk:=bk') (fun i hi=>by rw [getD_app1 l v i hi];exact s1 i hi) (by rw [getD_app2];exact hs);refine .inr (.inr ⟨ht,by rw [List.length_append];simp;omega,l.length+1,st',a0.trans s0,a2,.inl ⟨by rw [List.length_append];rfl,a1.symm,rfl,rfl⟩⟩)
def Grows (a b:List Cm):Prop:=a.length≤b.length∧∀ i,i<a.length→(b.getD i cm0).a.me=(a.getD i cm0).a.me∧∃ s,(b.getD i cm0).so=(a.getD i cm0).so++s
theorem Grows.refl (a:List Cm):Grows a a:=⟨Nat.le_refl _,fun i _=>⟨rfl,[],(List.append_nil _).symm⟩⟩
theorem Grows.trans {a b c:List Cm} (h:Grows a b) (h':Grows b c):Grows a c:=⟨Nat.le_trans h.1 h'.1,fun i hi=>by
 obtain ⟨e1,s1,q1⟩:=h.2 i hi;obtain ⟨e2,s2,q2⟩:=h'.2 i (Nat.lt_of_lt_of_le hi h.1)
 exact ⟨e2.trans e1,s1++s2,by rw [q2,q1,List.append_assoc]⟩⟩
theorem sell_same {a:Ac} {t:Tm} {te m:Int} {b:Ac} {l:Bi} (h:SellIs a t te m b l 0):b.me=a.me∧b.rv=a.rv∧b.nx=a.nx+1∧l.id=a.nx:=by
 rcases h with ⟨h,rfl,rfl⟩ | ⟨_,_,h,_⟩ | ⟨_,_,_,h,_⟩ | ⟨_,_,_,_,u,_,rfl,rfl⟩
 ·rcases h with ⟨_,h⟩ | ⟨_,h1,h2⟩ | ⟨_,_,_,h⟩
  ·cases h
  ·exact absurd (h2.ok.1 rfl) h1
  ·exact absurd rfl h.ne
 ·cases h
 ·cases h
 ·exact ⟨rfl,rfl,rfl,rfl⟩
theorem grant_same {a:Ac} {t:Tm} {m:Int} {b:Ac} {l:Bi} (h:GrantIs a t m b l 0):b.me=a.me∧b.rv=a.rv∧b.nx=a.nx+1∧l.id=a.nx:=by
 rcases h with ⟨h,rfl,rfl⟩ | ⟨_,_,h,_⟩ | ⟨_,_,_,h,_⟩ | ⟨_,_,_,_,h,_⟩ | ⟨_,_,_,_,_,rfl,rfl⟩
 ·rcases h with ⟨_,h⟩ | ⟨_,h1,h2⟩ | ⟨_,_,_,h⟩
  ·cases h
  ·exact absurd (h2.ok.1 rfl) h1
  ·exact absurd rfl h.ne
 ·cases h
 ·cases h
 ·cases h
 ·exact ⟨rfl,rfl,rfl,rfl⟩
theorem rekey_same {a b:Ac} {l:Bi} (h:RekeyIs a b l 0):b.me=a.me∧b.rv=a.rv+1∧b.nx=a.nx+1∧l.id=a.nx:=by
 rcases h with ⟨_,_,_,h⟩ | ⟨_,_,_,_,h⟩ | ⟨_,_,_,_,_,h⟩ | ⟨_,_,_,rfl,rfl,_⟩
 ·cases h
 ·cases h
 ·cases h
 ·exact ⟨rfl,rfl,rfl,rfl⟩
theorem owe_same {a b:Ac} {q:tar.Du} (h:OweIs a q b 0):b.me=a.me∧b.rv=a.rv∧b.nx=a.nx:=by
 rcases h with ⟨_,_,h⟩ | ⟨_,_,_,h⟩ | ⟨_,_,_,_,h⟩ | ⟨_,_,_,rfl,_⟩
 ·cases h
 ·cases h
 ·cases h
 ·exact ⟨rfl,rfl,rfl⟩
theorem tells_same {t:Tm} {c:Cm} {v:Ev} {b:Ac} {l:Bi} (h:Tells t c v b l 0):b.me=c.a.me∧c.a.rv≤b.rv∧b.nx=c.a.nx+1∧l.id=c.a.nx:=by
 rcases h with ⟨_,h⟩ | ⟨_,h⟩ | ⟨_,h⟩
 ·obtain ⟨h1,h2,h3,h4⟩:=sell_same h;exact ⟨h1,by omega,h3,h4⟩
 ·obtain ⟨h1,h2,h3,h4⟩:=grant_same h;exact ⟨h1,by omega,h3,h4⟩
 ·obtain ⟨h1,h2,h3,h4⟩:=rekey_same h;exact ⟨h1,by omega,h3,h4⟩
theorem hap_grows {t:Tm} {c c':Cm} {v:Ev} (h:HapIs t c v c' 0):c'.a.me=c.a.me∧∃ s,c'.so=c.so++s:=by
 rcases h with ⟨p,b,q,r⟩ | ⟨p,b,l,e,q,⟨x,r⟩ | ⟨_,_,r⟩ | ⟨rfl,y,_,z⟩⟩
 ·rw [r rfl];exact ⟨(owe_same q).1,[],(List.append_nil _).symm⟩
 ·exact absurd r.symm x
 ·cases r
 ·rw [z];exact ⟨(tells_same q).1,[soldOf c v],rfl⟩
theorem getD_setC (l:List Cm) (k i:Nat) (x:Cm) (hk:k<l.length):(l.set k x).getD i cm0=if i=k then x else l.getD i cm0:=by
 simp only [List.getD,List.getElem?_set];by_cases e:k=i
 ·subst e;simp [hk]
 ·rw [if_neg e,if_neg (fun q=>e q.symm)]
theorem getD_appC (l:List Cm) (x:Cm) (i:Nat) (h:i<l.length):(l++[x]).getD i cm0=l.getD i cm0:=by
 simp [List.getD,List.getElem?_append_left h]
theorem step_grows {t:Tm} {bk bk':List Cm} {v:Ev} (h:StepIs t bk v bk' 0):Grows bk bk':=by
 rcases h with ⟨_,r⟩ | ⟨_,_,_,r⟩ | ⟨_,_,_,_,s⟩ | ⟨_,_,_,r⟩ | ⟨p,q,k,c',hk,hh,s⟩
 ·cases r
 ·cases r
 ·rw [s];exact ⟨by rw [List.length_append];omega,fun i hi=>by rw [getD_appC _ _ _ hi];exact ⟨rfl,[],(List.append_nil _).symm⟩⟩
 ·cases r
 ·rw [s rfl];refine ⟨by rw [List.length_set];exact Nat.le_refl _,fun i hi=>?_⟩;rw [getD_setC _ _ _ _ hk.1];by_cases e:i=k
  ·subst e;rw [if_pos rfl];exact hap_grows hh
  ·rw [if_neg e];exact ⟨rfl,[],(List.append_nil _).symm⟩
end vnd
namespace acc
open tar (Du du0 Came RowD Ld PairT)
open Go.RowKit
def RollR (x:Ac) (m:Int) (b0:Bi) (y:Ac) (b:Bi) (f:Int):Prop:=((¬ RMay x m∧RErr x m f∧y=x)∨(RMay x m∧y=rolled x m∧f=0))∧b=b0
theorem proll (g:Nat) (x:Ac) (b:Bi) (p:Option Addr) (len cap:Nat) (m:Int) (w:World) (hw:Blk w g (wcs x b p len cap) 252) (hd:deb.Fresh w (g+1) p len cap x.ds) (ha:AMay x):Calls Tryz.prog 185 #[.pointer (some ⟨g,0,none⟩),zI m] w fun e w'=>DPost w g (RollR x m b) e w':=by
 have hgl:=hw.lt;have hmo:=ha.2.2.2.2.1;have HMA:Hid (deb.Mays x.ds):=ha.1;obtain ⟨me,rv,nx,mo,bo,fr,ds⟩:=x;obtain ⟨id,te,de,fe,pr,ch,un⟩:=b;simp only [] at hmo;have HI:Hid (Blk w g #[zI me,zI rv,zI nx,zI mo,zI bo,zI fr,.slice p len cap,zI id,zI te,zI de,zI fe,zI pr,zI ch,zI un] 252):=hw;have HD:Hid (deb.Fresh w (g+1) p len cap ds):=hd;have HIM:Hid (∀ W,Calls Tryz.prog 69 #[zI 0,zI 2399,zI m] W fun e w'=>e = .returned (.bool (decide (0≤m∧m≤2399)))∧w'=W):=fun W=>awithin 0 2399 m W;have q3:w.cell? ⟨g,3,none⟩=some (zI mo):=HI.o.cell 3;clear hw hd ha;by_cases h1:0≤m∧m≤2399
 ·rw [decide_eq_true h1] at HIM;by_cases h2:m<mo
  ·have d2:decide (m<mo)=true:=decide_eq_true h2;have HV:Hid (RollR ⟨me,rv,nx,mo,bo,fr,ds⟩ m ⟨id,te,de,fe,pr,ch,un⟩ ⟨me,rv,nx,mo,bo,fr,ds⟩ ⟨id,te,de,fe,pr,ch,un⟩ 23):=⟨.inl ⟨fun hh=>by have:mo≤m:=hh.2;omega,.inr ⟨h1,h2,rfl⟩,rfl⟩,rfl⟩
   clear h1 h2 hmo;go_enter Tryz.func185,Tryz.ntmps185;go_wp2_with fail;refine (HIM.o _).mono ?_;rintro e w2 ⟨rfl,hw2⟩;subst w2;go_wp2_with fail;go_ret;exact ⟨_,_,p,len,cap,23,rfl,HV.o,HI.o,HD.o,Chg.refl _ _⟩
  ·have d2:decide (m<mo)=false:=decide_eq_false h2;have HRM:Hid (RMay ⟨me,rv,nx,mo,bo,fr,ds⟩ m):=⟨h1,by show mo≤m;omega⟩
   by_cases h3:mo<m
   ·have d3:decide (mo<m)=true:=decide_eq_true h3;have hwr:IntKind.i64.wrap (m - mo)=m - mo:=by rw [IntKind.wrap_i64];omega
    have HAG:Hid (Calls Tryz.prog 201 #[.slice p len cap,zI (m - mo)] w.drew fun e w'=>deb.AgePost w.drew ds (m - mo) e w'):=deb.kage _ p len cap ds (m - mo) (fresh_drew HD.o).came (tar.wf_mid (by omega) (by omega));have HMR:Hid (0≤m - mo∧m - mo≤2400):=⟨by omega,by omega⟩
    have HNE:Hid (¬ m=mo):=by show ¬ _=_;omega
    clear h1 h2 h3;go_enter Tryz.func185,Tryz.ntmps185;go_wp2_with fail;refine (HIM.o _).mono ?_;rintro e w2 ⟨rfl,hw2⟩;subst w2;go_wp2_with fail;clear HIM d2 d3 q3;have q6:w.drew.cell? ⟨g,6,none⟩=some (.slice p len cap):=HI.o.cell 6;refine wp_region_held_drew (S:=fun v=>v.cell? ⟨g,3,none⟩=some (zI mo)) (by kernel_rfl) (show w.drew.cell? _=_ from HI.o.cell 3) (fun hHeld=>?_);refine zqs 0 26 (.pointer (some ⟨g,0,none⟩)) rfl rfl (by kernel_rfl) zid rfl (fun v hv=>by clear hv;go_simp) hHeld ?_;simp only [zq];refine zqs 1 27 (.pointer (some ⟨g,0,none⟩)) rfl rfl (by kernel_rfl) zid rfl (fun v hv=>by clear hv;go_simp) hHeld ?_;simp only [zq];refine zqs 2 28 (.pointer (some ⟨g,0,none⟩)) rfl rfl (by kernel_rfl) zid rfl (fun v hv=>by clear hv;go_simp) hHeld ?_;simp only [zq];refine zqs 3 29 (.pointer (some ⟨g,0,none⟩)) rfl rfl (by kernel_rfl) zid rfl (fun v hv=>by clear hv;go_simp) hHeld ?_;simp only [zq];refine zqs 4 30 (.pointer (some ⟨g,6,none⟩)) rfl rfl (by kernel_rfl) zid rfl (fun v hv=>by clear hv;go_simp) hHeld ?_;simp only [zq];refine zqs 6 32 (zI m) rfl rfl (by kernel_rfl) zid rfl (fun v hv=>by clear hv;go_simp) hHeld ?_;simp only [zq];refine zqs 7 33 (.pointer (some ⟨g,0,none⟩)) rfl rfl (by kernel_rfl) zid rfl (fun v hv=>by clear hv;go_simp) hHeld ?_;simp only [zq];refine zqs 8 34 (.pointer (some ⟨g,0,none⟩)) rfl rfl (by kernel_rfl) zid rfl (fun v hv=>by clear hv;go_simp) hHeld ?_;simp only [zq];refine zqs 9 35 (.pointer (some ⟨g,0,none⟩)) rfl rfl (by kernel_rfl) zid rfl (fun v hv=>by clear hv;go_simp) hHeld ?_;simp only [zq];refine zqs 10 36 (.pointer (some ⟨g,3,none⟩)) rfl rfl (by kernel_rfl) zid rfl (fun v hv=>by clear hv;go_simp) hHeld ?_;simp only [zq];refine zqt 11 37 (zI mo) rfl rfl (by kernel_rfl) zid (Or.inl ⟨by rfl,fun v hv=>by have g0:=hv;clear hv;go_simp⟩) hHeld ?_;simp only [zq];refine zqs 12 38 (zI (m - mo)) rfl rfl (by kernel_rfl) zid rfl (fun v hv=>by clear hv;go_simp) hHeld ?_
    simp only [zq];refine zqo 5 (by kernel_rfl) rfl (fun K hK=>?_);rw [if_pos (by rfl)];refine wp_runOp (v:= .slice p len cap) (w':=w.drew) 31 rfl (by clear hK;go_simp) ?_;refine hK.o _ _ (show w.drew.cell? _=_ from HI.o.cell 3) (fun hHeld=>?_);clear hK K q6;simp only [zq];refine zqo 13 (by kernel_rfl) rfl (fun K hK=>?_);rw [if_pos (by rfl)];refine wp_callOp 39 rfl (by clear hK;go_simp) HAG.o ?_;rintro e w1 ⟨q,n,c,z,f,rfl,hz,hf,hb1⟩;obtain ⟨rfl,hz2⟩:=hz.got HMA.o HMR.o;have HI1:Hid (Blk w1 g #[zI me,zI rv,zI nx,zI mo,zI bo,zI fr,.slice p len cap,zI id,zI te,zI de,zI fe,zI pr,zI ch,zI un] 252):=(Blk.drew HI.o 1).next hb1;have HC1:Hid (Chg w w1 g):=(Chg.of (bel_drew (Below.refl _ _) 1)).trans (.of hb1);have HF1:Hid (deb.Fresh w1 (g+1) q n c z):=hf.low (by show g+1≤w.heap.size;omega);have HZ:Hid (z=deb.ageAll ds (m - mo).toNat):=hz2;refine ⟨_,rfl,hK.o _ _ (HI1.o.cell 3) (fun hHeld=>?_)⟩;clear hK K hz hf hb1 hz2 HAG HI HD;simp only [zq];refine zqs 14 25 (.tuple #[.slice q n c,zI 0]) rfl rfl (by kernel_rfl) zid rfl (fun v hv=>by clear hv;go_simp) hHeld ?_;simp only [zq];refine zqs 15 40 (.slice q n c) rfl rfl (by kernel_rfl) zid rfl (fun v hv=>by clear hv;go_simp) hHeld ?_;simp only [zq];refine zqs 16 41 (zI 0) rfl rfl (by kernel_rfl) zid rfl (fun v hv=>by clear hv;go_simp) hHeld ?_;simp only [zq];refine zqs 17 42 (.pointer (some ⟨g,0,none⟩)) rfl rfl (by kernel_rfl) zid rfl (fun v hv=>by clear hv;go_simp) hHeld ?_;simp only [zq];refine zqs 18 43 (.pointer (some ⟨g,0,none⟩)) rfl rfl (by kernel_rfl) zid rfl (fun v hv=>by clear hv;go_simp) hHeld ?_;simp only [zq];refine zqs 19 44 (.pointer (some ⟨g,6,none⟩)) rfl rfl (by kernel_rfl) zid rfl (fun v hv=>by clear hv;go_simp) hHeld ?_;simp only [zq];refine zqo 20 (by kernel_rfl) rfl (fun K hK=>?_);rw [if_pos (by rfl)];refine wp_letOp1 49 _ _ rfl g 6 rfl (.slice q n c) rfl rfl (by kernel_rfl) rfl #[zI me,zI rv,zI nx,zI mo,zI bo,zI fr,.slice p len cap,zI id,zI te,zI de,zI fe,zI pr,zI ch,zI un] 252 HI1.o (by simp) rfl ?_
    intro W2 hU;have HI2:Hid (Blk W2 g #[zI me,zI rv,zI nx,zI mo,zI bo,zI fr,.slice q n c,zI id,zI te,zI de,zI fe,zI pr,zI ch,zI un] 252):=hU.blk;have HC2:Hid (Chg w W2 g):=HC1.o.trans (.upd hU);have HF2:Hid (deb.Fresh W2 (g+1) q n c z):=fresh_chg HF1.o (.upd hU);clear hU HF1 HC1;refine hK.o _ _ (HI2.o.cell 3) (fun hHeld=>?_);clear hK K HI1;refine wpAnyH_done (by kernel_rfl) ?_ _;clear hHeld;go_wp2_with (first | (refine wp_let1 rfl 3 _ _ rfl g 3 rfl .i64 m rfl (by kernel_rfl) #[zI me,zI rv,zI nx,zI mo,zI bo,zI fr,.slice q n c,zI id,zI te,zI de,zI fe,zI pr,zI ch,zI un] 252 HI2.o (by simp) ?_) | fail)
    intro W3 hU;have HI3:Hid (Blk W3 g #[zI me,zI rv,zI nx,zI m,zI bo,zI fr,.slice q n c,zI id,zI te,zI de,zI fe,zI pr,zI ch,zI un] 252):=hU.blk;have HC3:Hid (Chg w W3 g):=HC2.o.trans (.upd hU);have HF3:Hid (deb.Fresh W3 (g+1) q n c z):=fresh_chg HF2.o (.upd hU);clear hU HF2 HC2 HI2;go_wp2_with (first | (refine wp_let1 rfl 3 _ _ rfl g 4 rfl .i64 0 rfl (by kernel_rfl) #[zI me,zI rv,zI nx,zI m,zI bo,zI fr,.slice q n c,zI id,zI te,zI de,zI fe,zI pr,zI ch,zI un] 252 HI3.o (by simp) ?_) | fail)
    intro W4 hU;have HI4:Hid (Blk W4 g #[zI me,zI rv,zI nx,zI m,zI 0,zI fr,.slice q n c,zI id,zI te,zI de,zI fe,zI pr,zI ch,zI un] 252):=hU.blk;have HC4:Hid (Chg w W4 g):=HC3.o.trans (.upd hU);have HF4:Hid (deb.Fresh W4 (g+1) q n c z):=fresh_chg HF3.o (.upd hU);have HV:Hid (RollR ⟨me,rv,nx,mo,bo,fr,ds⟩ m ⟨id,te,de,fe,pr,ch,un⟩ ⟨me,rv,nx,m,0,fr,z⟩ ⟨id,te,de,fe,pr,ch,un⟩ 0):=⟨.inr ⟨HRM.o,by unfold rolled;rw [if_neg HNE.o,HZ.o],rfl⟩,rfl⟩
    clear hU HF3 HC3 HI3;go_wp2_with fail;go_ret;exact ⟨⟨me,rv,nx,m,0,fr,z⟩,_,q,n,c,0,rfl,HV.o,HI4.o,HF4.o,HC4.o⟩
   ·have d3:decide (mo<m)=false:=decide_eq_false h3;have HV:Hid (RollR ⟨me,rv,nx,mo,bo,fr,ds⟩ m ⟨id,te,de,fe,pr,ch,un⟩ ⟨me,rv,nx,mo,bo,fr,ds⟩ ⟨id,te,de,fe,pr,ch,un⟩ 0):=⟨.inr ⟨HRM.o,by unfold rolled;rw [if_pos (by show m=mo;omega)],rfl⟩,rfl⟩
    clear h1 h2 h3 hmo;go_enter Tryz.func185,Tryz.ntmps185;go_wp2_with fail;refine (HIM.o _).mono ?_;rintro e w2 ⟨rfl,hw2⟩;subst w2;go_wp2_with fail;go_ret;exact ⟨_,_,p,len,cap,0,rfl,HV.o,HI.o,HD.o,Chg.refl _ _⟩
 ·rw [decide_eq_false h1] at HIM;have HV:Hid (RollR ⟨me,rv,nx,mo,bo,fr,ds⟩ m ⟨id,te,de,fe,pr,ch,un⟩ ⟨me,rv,nx,mo,bo,fr,ds⟩ ⟨id,te,de,fe,pr,ch,un⟩ 2):=⟨.inl ⟨fun hh=>h1 hh.1,.inl ⟨h1,rfl⟩,rfl⟩,rfl⟩
  clear h1 hmo q3;go_enter Tryz.func185,Tryz.ntmps185;go_wp2_with fail;refine (HIM.o _).mono ?_;rintro e w2 ⟨rfl,hw2⟩;subst w2;go_wp2_with fail;go_ret;exact ⟨_,_,p,len,cap,2,rfl,HV.o,HI.o,HD.o,Chg.refl _ _⟩
def KcCheck:Prop:=∀ (W:World) (t:Tm) (pt:Option Addr) (lt ct:Nat),TCame W t pt lt ct→Calls Tryz.prog 37 #[t.v pt lt ct] W fun e w'=>tar.ErrPost W (TFault t) e w'
theorem kcheck:KcCheck:=by
 intro w t pt lt ct hc;have h:=hc.ts;unfold Tm.v;have HI0:Hid (∀ W,Calls Tryz.prog 69 #[zI 0,zI 100000,zI t.ff] W fun e w'=>e = .returned (.bool (decide (0≤t.ff∧t.ff≤100000)))∧w'=W):=fun W=>awithin 0 100000 t.ff W;have HI1:Hid (∀ W,Calls Tryz.prog 69 #[zI 0,zI 10000,zI t.fb] W fun e w'=>e = .returned (.bool (decide (0≤t.fb∧t.fb≤10000)))∧w'=W):=fun W=>awithin 0 10000 t.fb W;have HI2:Hid (∀ W,Calls Tryz.prog 69 #[zI 0,zI 10000,zI t.db] W fun e w'=>e = .returned (.bool (decide (0≤t.db∧t.db≤10000)))∧w'=W):=fun W=>awithin 0 10000 t.db W;have HI3:Hid (∀ W,Calls Tryz.prog 69 #[zI 0,zI 2097151,zI t.al] W fun e w'=>e = .returned (.bool (decide (0≤t.al∧t.al≤2097151)))∧w'=W):=fun W=>awithin 0 2097151 t.al W;obtain ⟨WW,HWW,HBK,HBA,-⟩:=sh1 w #[.slice pt lt ct,zI t.ff,zI t.fb,zI t.db,zI t.al] 24;have HTO:Hid (Calls Tryz.prog 68 #[.slice pt lt ct] WW fun e w'=>tar.ErrPost WW (tar.FaultIs t.ts) e w'):=tar.kcheck _ pt lt ct t.ts (h.below HBA.o);have c0:WW.cell? ⟨w.heap.size,0,none⟩=some (.slice pt lt ct):=HBK.o.cell 0;clear h hc;go_enter Tryz.func37,Tryz.ntmps37;go_upto_region 1 with fail
 rw [HWW.o];clear HWW;go_wp2_with fail;refine HTO.o.mono ?_;rintro e w1 ⟨f,rfl,hf,hb1⟩;have HB1:=shB HBA hb1;have HK1:=shN HBK hb1;have HF:Hid (tar.FaultIs t.ts f):=hf;clear hf hb1 HTO HBA HBK c0;obtain ⟨c0,c1,c2,c3,c4⟩:=scl5 HK1;by_cases h0:f=0
 ·have HR:Hid (tar.Right t.ts):=HF.o.ok.1 h0;subst h0;by_cases g0:0≤t.ff∧t.ff≤100000
  ·rw [decide_eq_true g0] at HI0;go_wp2_with fail;refine (HI0.o _).mono ?_;rintro e w2 ⟨rfl,hw2⟩;subst w2;by_cases g1:0≤t.fb∧t.fb≤10000
   ·rw [decide_eq_true g1] at HI1;go_wp2_with fail;refine (HI1.o _).mono ?_;rintro e w2 ⟨rfl,hw2⟩;subst w2;by_cases g2:0≤t.db∧t.db≤10000
    ·rw [decide_eq_true g2] at HI2;go_wp2_with fail;refine (HI2.o _).mono ?_;rintro e w2 ⟨rfl,hw2⟩;subst w2;by_cases g3:0≤t.al∧t.al≤2097151
     ·rw [decide_eq_true g3] at HI3;go_wp2_with fail;refine (HI3.o _).mono ?_;rintro e w2 ⟨rfl,hw2⟩;subst w2;have HV:Hid (TFault t 0):= .inr (.inr ⟨⟨HR.o,g0,g1,g2,g3⟩,rfl⟩);clear g0 g1 g2 g3;go_wp2_with fail;go_ret;exact ⟨0,rfl,HV.o,HB1.o⟩
     ·rw [decide_eq_false g3] at HI3;have HV:Hid (TFault t 2):= .inr (.inl ⟨HR.o,fun h=>g3 h.2.2.2,rfl⟩);clear g3;go_wp2_with fail;refine (HI3.o _).mono ?_;rintro e w2 ⟨rfl,hw2⟩;subst w2;go_wp2_with fail
      all_goals first
       | (rename_i q1 q2;exact absurd q1 (by simp [undef]))
       | (go_ret;exact ⟨2,rfl,HV.o,HB1.o⟩)
    ·rw [decide_eq_false g2] at HI2;have HV:Hid (TFault t 2):= .inr (.inl ⟨HR.o,fun h=>g2 h.2.2.1,rfl⟩);clear g2;go_wp2_with fail;refine (HI2.o _).mono ?_;rintro e w2 ⟨rfl,hw2⟩;subst w2;go_wp2_with fail
     all_goals first
      | (rename_i q1 q2;exact absurd q1 (by simp [undef]))
      | (go_ret;exact ⟨2,rfl,HV.o,HB1.o⟩)
   ·rw [decide_eq_false g1] at HI1;have HV:Hid (TFault t 2):= .inr (.inl ⟨HR.o,fun h=>g1 h.2.1,rfl⟩);clear g1;go_wp2_with fail;refine (HI1.o _).mono ?_;rintro e w2 ⟨rfl,hw2⟩;subst w2;go_wp2_with fail
    all_goals first
     | (rename_i q1 q2;exact absurd q1 (by simp [undef]))
     | (go_ret;exact ⟨2,rfl,HV.o,HB1.o⟩)
  ·rw [decide_eq_false g0] at HI0;have HV:Hid (TFault t 2):= .inr (.inl ⟨HR.o,fun h=>g0 h.1,rfl⟩);clear g0;go_wp2_with fail;refine (HI0.o _).mono ?_;rintro e w2 ⟨rfl,hw2⟩;subst w2;go_wp2_with fail
   all_goals first
    | (rename_i q1 q2;exact absurd q1 (by simp [undef]))
    | (go_ret;exact ⟨2,rfl,HV.o,HB1.o⟩)
 ·have d0:(f != 0)=true:=by simpa using h0
  have HV:Hid (TFault t f):= .inl ⟨fun h=>h0 (HF.o.ok.2 h),HF.o⟩;clear h0;go_wp2_with fail;go_ret;exact ⟨f,rfl,HV.o,HB1.o⟩
def BeginR (x:Ac) (t:Tm) (m:Int) (b0:Bi) (y:Ac) (b:Bi) (f:Int):Prop:=((¬ TRight t∧TFault t f∧y=x)∨(TRight t∧¬ RMay x m∧RErr x m f∧y=x)∨(TRight t∧RMay x m∧y=rolled x m∧f=0))∧b=b0
theorem pbegin (g:Nat) (x:Ac) (p:Option Addr) (len cap:Nat) (t:Tm) (pt:Option Addr) (lt ct:Nat) (b:Bi) (m:Int) (w:World) (hw:Blk w g (wcs x b p len cap) 252) (hd:deb.Fresh w (g+1) p len cap x.ds) (ha:AMay x) (ht:Came w pt lt ct t.ts) (hwf:wf4 t) (hfar:Far pt lt g):Calls Tryz.prog 160 #[.pointer (some ⟨g,0,none⟩),.agg #[.slice pt lt ct,zI t.ff,zI t.fb,zI t.db,zI t.al],zI m] w fun e w'=>DPost w g (BeginR x t m b) e w':=by
 have hgl:=hw.lt;have HCK:Hid (∀ W,Below w.heap.size w W→Calls Tryz.prog 37 #[.agg #[.slice pt lt ct,zI t.ff,zI t.fb,zI t.db,zI t.al]] W fun e w'=>tar.ErrPost W (TFault t) e w'):=fun W hW=>kcheck W t pt lt ct ⟨ht.below hW,hwf⟩;have HRL:Hid (∀ W,Blk W g (wcs x b p len cap) 252→deb.Fresh W (g+1) p len cap x.ds→Calls Tryz.prog 185 #[.pointer (some ⟨g,0,none⟩),zI m] W fun e w'=>DPost W g (RollR x m b) e w'):=fun W h1 h2=>proll g x b p len cap m W h1 h2 ha;have H0B:Hid (Below w.heap.size w (w.alloc (.cells #[.slice pt lt ct,zI t.ff,zI t.fb,zI t.db,zI t.al] 24))):=(Below.refl w.heap.size w).alloc (by simp) _;have H0t:Hid (Blk (w.alloc (.cells #[.slice pt lt ct,zI t.ff,zI t.fb,zI t.db,zI t.al] 24)) w.heap.size #[.slice pt lt ct,zI t.ff,zI t.fb,zI t.db,zI t.al] 24):=Blk.new w _ _;have H0g:Hid (Blk (w.alloc (.cells #[.slice pt lt ct,zI t.ff,zI t.fb,zI t.db,zI t.al] 24)) g (wcs x b p len cap) 252):=hw.alloc _;have H0D:Hid (deb.Fresh (w.alloc (.cells #[.slice pt lt ct,zI t.ff,zI t.fb,zI t.db,zI t.al] 24)) (g+1) p len cap x.ds):=hd.below H0B.o;clear hw hd ha ht hwf hfar;generalize hWW:(w.alloc (.cells #[.slice pt lt ct,zI t.ff,zI t.fb,zI t.db,zI t.al] 24))=W0 at *;have HWW:Hid ((w.alloc (.cells #[.slice pt lt ct,zI t.ff,zI t.fb,zI t.db,zI t.al] 24))=W0):=hWW;clear hWW;go_enter Tryz.func160,Tryz.ntmps160;go_upto_region 1 with fail
 rw [HWW.o];clear HWW
 go_wp2_with (first
  | (refine zqw rfl rfl rfl H0t zqu24 ?_)
  | fail)
 refine (HCK.o _ H0B.o).mono ?_;rintro e w1 ⟨f,rfl,hf,hb1⟩;have H1g:=shN H0g hb1;have H1D:Hid (deb.Fresh w1 (g+1) p len cap x.ds):=H0D.o.below hb1;have H1C:Hid (Chg w w1 g):= .of (bel_step H0B.o hb1);have HF:Hid (TFault t f):=hf;clear hf hb1 H0B H0t H0g H0D HCK;by_cases h0:f=0
 ·subst h0;have HT:Hid (TRight t):=HF.o.ok.1 rfl;go_wp2_with fail;refine (HRL.o _ H1g.o H1D.o).mono ?_;rintro e w2 ⟨y,b2,q,n,c,f,rfl,⟨hr,hb⟩,hi,hfr,hc⟩
  have HX:Hid (DPost w g (BeginR x t m b) (.returned (zI f)) w2):=by
   refine ⟨y,b2,q,n,c,f,rfl,⟨?_,hb⟩,hi,hfr,H1C.o.trans hc⟩;rcases hr with ⟨h1,h2,h3⟩ | ⟨h1,h2,h3⟩
   ·exact .inr (.inl ⟨HT.o,h1,h2,h3⟩)
   ·exact .inr (.inr ⟨HT.o,h1,h2,h3⟩)
  clear hr hb hi hfr hc HRL;go_wp2_with fail;go_ret;exact HX.o
 ·have d0:(f != 0)=true:=by simpa using h0
  have HX:Hid (DPost w g (BeginR x t m b) (.returned (zI f)) w1):=⟨x,b,p,len,cap,f,rfl,⟨.inl ⟨fun h=>h0 (HF.o.ok.2 h),HF.o,rfl⟩,rfl⟩,H1g.o,H1D.o,H1C.o⟩
  clear h0 HRL HF;go_wp2_with fail;go_ret;exact HX.o
def KcRekey:Prop:=∀ (W:World) (x:Ac) (p:Option Addr) (len cap:Nat),ACame W x p len cap→Calls Tryz.prog 79 #[x.v p len cap] W fun e w'=>BPost W (RekeyIs x) e w'
end acc
namespace book
open Go.RowKit
theorem bleft2 (kd me mo id te de fe pr ch un tg ow bp:Int) (w:World) (q2:(kd == 2)=true):Calls Tryz.prog 111 #[.agg #[zI kd,zI me,zI mo,zI id,zI te,zI de,zI fe,zI pr,zI ch,zI un,zI tg,zI ow,zI bp]] w fun e w'=>e = .returned (.agg #[zI 0,zI 0,zI 0,zI 0,zI 0,zI 0,zI 0,zI 0,zI 0,zI 0,zI 0,zI ow,zI bp])∧Below w.heap.size w w':=by
 go_enter Tryz.func111,Tryz.ntmps111;go_wp2;exact bodyPost_ret (v:= .agg #[zI 0,zI 0,zI 0,zI 0,zI 0,zI 0,zI 0,zI 0,zI 0,zI 0,zI 0,zI ow,zI bp]) (by simp [results,Tryz.results111,go_sem]) rfl ⟨rfl,bki.bel2 _ _ _⟩
theorem bleft3 (kd me mo id te de fe pr ch un tg ow bp:Int) (w:World) (q2:(kd == 2)=false) (q3:(kd == 3)=true):Calls Tryz.prog 111 #[.agg #[zI kd,zI me,zI mo,zI id,zI te,zI de,zI fe,zI pr,zI ch,zI un,zI tg,zI ow,zI bp]] w fun e w'=>e = .returned (.agg #[zI 0,zI 0,zI 0,zI 0,zI te,zI de,zI fe,zI pr,zI ch,zI 0,zI 0,zI ow,zI bp])∧Below w.heap.size w w':=by
 go_enter Tryz.func111,Tryz.ntmps111;go_wp2;exact bodyPost_ret (v:= .agg #[zI 0,zI 0,zI 0,zI 0,zI te,zI de,zI fe,zI pr,zI ch,zI 0,zI 0,zI ow,zI bp]) (by simp [results,Tryz.results111,go_sem]) rfl ⟨rfl,bki.bel2 _ _ _⟩
theorem bleft4 (kd me mo id te de fe pr ch un tg ow bp:Int) (w:World) (q2:(kd == 2)=false) (q3:(kd == 3)=false) (q4:(kd == 4)=true):Calls Tryz.prog 111 #[.agg #[zI kd,zI me,zI mo,zI id,zI te,zI de,zI fe,zI pr,zI ch,zI un,zI tg,zI ow,zI bp]] w fun e w'=>e = .returned (.agg #[zI 0,zI 0,zI mo,zI 0,zI te,zI de,zI fe,zI pr,zI ch,zI un,zI 0,zI ow,zI bp])∧Below w.heap.size w w':=by
 go_enter Tryz.func111,Tryz.ntmps111;go_wp2;exact bodyPost_ret (v:= .agg #[zI 0,zI 0,zI mo,zI 0,zI te,zI de,zI fe,zI pr,zI ch,zI un,zI 0,zI ow,zI bp]) (by simp [results,Tryz.results111,go_sem]) rfl ⟨rfl,bki.bel2 _ _ _⟩
theorem bleft5 (kd me mo id te de fe pr ch un tg ow bp:Int) (w:World) (q2:(kd == 2)=false) (q3:(kd == 3)=false) (q4:(kd == 4)=false) (q5:(kd == 5)=true):Calls Tryz.prog 111 #[.agg #[zI kd,zI me,zI mo,zI id,zI te,zI de,zI fe,zI pr,zI ch,zI un,zI tg,zI ow,zI bp]] w fun e w'=>e = .returned (.agg #[zI 0,zI 0,zI mo,zI id,zI te,zI de,zI fe,zI pr,zI ch,zI un,zI tg,zI 0,zI 0])∧Below w.heap.size w w':=by
 go_enter Tryz.func111,Tryz.ntmps111;go_wp2;exact bodyPost_ret (v:= .agg #[zI 0,zI 0,zI mo,zI id,zI te,zI de,zI fe,zI pr,zI ch,zI un,zI tg,zI 0,zI 0]) (by simp [results,Tryz.results111,go_sem]) rfl ⟨rfl,bki.bel2 _ _ _⟩
theorem bleft0 (kd me mo id te de fe pr ch un tg ow bp:Int) (w:World) (q2:(kd == 2)=false) (q3:(kd == 3)=false) (q4:(kd == 4)=false) (q5:(kd == 5)=false):Calls Tryz.prog 111 #[.agg #[zI kd,zI me,zI mo,zI id,zI te,zI de,zI fe,zI pr,zI ch,zI un,zI tg,zI ow,zI bp]] w fun e w'=>e = .returned (.agg #[zI 0,zI 0,zI mo,zI id,zI te,zI de,zI fe,zI pr,zI ch,zI un,zI tg,zI ow,zI bp])∧Below w.heap.size w w':=by
 go_enter Tryz.func111,Tryz.ntmps111;go_wp2;exact bodyPost_ret (v:= .agg #[zI 0,zI 0,zI mo,zI id,zI te,zI de,zI fe,zI pr,zI ch,zI un,zI tg,zI ow,zI bp]) (by simp [results,Tryz.results111,go_sem]) rfl ⟨rfl,bki.bel2 _ _ _⟩
theorem bleft (v:Ev) (w:World):Calls Tryz.prog 111 #[v.v] w fun e w'=>e = .returned (leftE v).v∧Below w.heap.size w w':=by
 obtain ⟨kd,me,mo,id,te,de,fe,pr,ch,un,tg,ow,bp⟩:=v;unfold leftE Ev.v;simp only;by_cases k2:kd=2
 ·rw [if_pos k2];exact bleft2 kd me mo id te de fe pr ch un tg ow bp w (by simpa using k2)
 rw [if_neg k2];by_cases k3:kd=3
 ·rw [if_pos k3];exact bleft3 kd me mo id te de fe pr ch un tg ow bp w (by simpa using k2) (by simpa using k3)
 rw [if_neg k3];by_cases k4:kd=4
 ·rw [if_pos k4];exact bleft4 kd me mo id te de fe pr ch un tg ow bp w (by simpa using k2) (by simpa using k3) (by simpa using k4)
 rw [if_neg k4];by_cases k5:kd=5
 ·rw [if_pos k5];exact bleft5 kd me mo id te de fe pr ch un tg ow bp w (by simpa using k2) (by simpa using k3) (by simpa using k4) (by simpa using k5)
 rw [if_neg k5];exact bleft0 kd me mo id te de fe pr ch un tg ow bp w (by simpa using k2) (by simpa using k3) (by simpa using k4) (by simpa using k5)
end book
namespace deb
open tar (Du du0 Came RowD Ld PairT wp_pairs)
open Go.RowKit
theorem seI (d:Nat) (a b:Int) (w:World):(Op.equalIn (d+1) 3 (zI a) (zI b)).run Tryz.prog w = .ok (a == b) w:=run_equalIn_int w d _ _ _ a b Tryz.underlying3
theorem sf0 (s c:Int) (w:World):(part 3 #[zI s,zI c] 0).run Tryz.prog w = .ok (zI s) w:=by kernel_rfl
theorem sf1 (s c:Int) (w:World):(part 3 #[zI s,zI c] 1).run Tryz.prog w = .ok (zI c) w:=by kernel_rfl
theorem eqDebt (s t b c:Int) (w:World) :
  (Op.equalIn 10000 70 (.agg #[zI s,zI b]) (.agg #[zI t,zI c])).run Tryz.prog w = .ok (s == t && b == c) w:=by
 rw [show (10000:Nat)=9999+1 from rfl,run_equalIn_agg w 9999 70 _ _ (by kernel_rfl) (by kernel_rfl)];simp only [Program.fieldsOf,Tryz.underlying70,Op.eqFields,Sem.run_bind,Sem.run_ite];by_cases h1:(s == t)=true <;> by_cases h2:(b == c)=true <;> simp [sf0,sf1,show (9999:Nat)=9998+1 from rfl,seI,h1,h2]
theorem keep_debts (a b:Option Addr) (n c1 c2:Nat) (zs:List Du) (w:World) (h1:RowD w a n zs) (h2:RowD w b n zs) (hn:n≤maxLen) :
  Calls Tryz.prog 74 #[.slice a n c1,.slice b n c2] w fun e w'=>e = .returned (.bool true)∧Below w.heap.size w w':=by
 have hne:((n:Int) != (n:Int))=false:=by simp
 unfold maxLen at hn;go_enter Tryz.func74,Tryz.ntmps74;go_wp2_with fail;go_loopw [5] (fun i wr=>∃ k:Nat,k≤n∧i=zI k∧Below w.heap.size w wr) (fun i _=>n - (intOf i).toNat)
 case atStart=>exact ⟨0,Nat.zero_le _,rfl,Below.refl _ _⟩
 case round=>
  obtain ⟨k,hk,rfl,hb⟩:=hrel;by_cases hlt:k<n
  ·obtain ⟨b1,o1,rfl,l1,hc1⟩:=h1.at (by omega);obtain ⟨b2,o2,rfl,l2,hc2⟩:=h2.at (by omega);have f1:wr.cell? ⟨b1,o1+k*2,none⟩=some (zI (zs.getD k du0).a):=(hb.cell (p:=⟨b1,o1+k*2,none⟩) l1).trans (hc1 k hlt).1;have f2:wr.cell? ⟨b1,o1+k*2+1,none⟩=some (zI (zs.getD k du0).b):=(hb.cell (p:=⟨b1,o1+k*2+1,none⟩) l1).trans (hc1 k hlt).2;have f3:wr.cell? ⟨b2,o2+k*2,none⟩=some (zI (zs.getD k du0).a):=(hb.cell (p:=⟨b2,o2+k*2,none⟩) l2).trans (hc2 k hlt).1;have f4:wr.cell? ⟨b2,o2+k*2+1,none⟩=some (zI (zs.getD k du0).b):=(hb.cell (p:=⟨b2,o2+k*2+1,none⟩) l2).trans (hc2 k hlt).2;have hq:∀ wz:World,(Op.equalIn 10000 70 (.agg #[zI (zs.getD k du0).a,zI (zs.getD k du0).b]) (.agg #[zI (zs.getD k du0).a,zI (zs.getD k du0).b])).run Tryz.prog wz = .ok true wz:=fun wz=>by rw [eqDebt];simp
   have HB:Hid (Below w.heap.size w wr):=hb;clear hc1 hc2 h1 h2 l1 l2 hb;generalize (zs.getD k du0).a=p at *;generalize (zs.getD k du0).b=d at *;go_wp2_with fail;go_region
   all_goals go_wp2_with fail
   go_roundw
   case rel=>exact ⟨k+1,by omega,by go_num,HB.o.drew⟩
   case measure=>simp [intOf];omega
  ·go_wp2_with fail;go_ret;exact ⟨rfl,hb⟩
end deb
namespace disk
open Go.RowKit cell
def KAppend:Prop:=∀ (W:World) (a:Option Addr) (n cap:Nat) (c:List Int) (b:Option Addr) (m cap2:Nat) (r:List Int),RowU W a n c→(a=none→cap=0)→n≤cap→n*4≤140737488351232→(∀ x∈c,0≤x∧x<4294967296)→RowU W b m r→(b=none→cap2=0)→m≤cap2→m*4≤140737488351232→(∀ x∈r,0≤x∧x<4294967296)→Calls Tryz.prog 108 #[.slice a n cap,.slice b m cap2] W fun e w'=>AppGot W c r e w'
end disk
end Go.Proofs.YtnpblpbohcegoaaGreatDoor
