import Derived.Test.YtnpblpbohcegoaaGreatDoorVVCut15
import Derived.Test.YtnpblpbohcegoaaGreatDoorVVCut17
set_option linter.unusedVariables false
set_option linter.unusedSimpArgs false
set_option maxHeartbeats 4000000
set_option maxRecDepth 100000
namespace Go.Proofs.YtnpblpbohcegoaaGreatDoor
namespace vnd
open disk (RepIs AppIs May repD lenAt appW)
open book (Ev ev0 EMay evL evOf EncIs DecIs Cm cm0 So so0 BookIs FirstAt NoneAt Tells billOf soldOf StepIs HapIs)
open acc (Ac Tm Bi SellIs GrantIs RekeyIs OweIs)
open ora (Pr IssueIs)
open cell (Wr wrt)
theorem getD_mapL (l:List Ev) (j:Nat) (h:j<l.length):(l.map evL).getD j []=evL (l.getD j ev0):=by
 simp [List.getD,List.getElem?_eq_getElem h]
theorem getD_inE {l:List Ev} {j:Nat} (h:j<l.length):l.getD j ev0∈l:=by
 have e:l.getD j ev0=l[j]:=by simp [List.getD,List.getElem?_eq_getElem h]
 rw [e];exact List.getElem_mem _
theorem map_back (l:List Ev):(l.map evL).map evOf=l:=by
 induction l with
 | nil=>rfl
 | cons v l ih=>rw [List.map_cons,List.map_cons,ih,book.evOf_L]
theorem kept_tape {c:List Int} {l:List Ev} {e:Nat} (h:disk.Tape c (l.map evL) e) (hm:∀ v∈l,EMay v):KeptIs c l 0:=by
 obtain ⟨h1,h2,h3⟩:=h;refine ⟨l.map evL,(e:Int),0,.inr (.inr ⟨h1,by rw [h2];exact h3,by rw [h2],by rw [h2],rfl⟩),.inr (.inl ⟨rfl,?_,(map_back l).symm,rfl⟩)⟩;intro j hj;rw [List.length_map] at hj;rw [getD_mapL l j hj];exact ⟨rfl,by rw [book.evOf_L];exact hm _ (getD_inE hj)⟩
theorem load_tape {t:Tm} {c:List Int} {l:List Ev} {e:Nat} {bk:List Cm} {a f:Int} (h:disk.Tape c (l.map evL) e) (hm:∀ v∈l,EMay v) (hb:BookIs t l bk a f):LoadIs t c bk f:=⟨l,0,kept_tape h hm,.inr ⟨rfl,a,hb⟩⟩
theorem rmay_ev (v:Ev):disk.RMay (evL v):=⟨by rw [book.evL_len];omega,by rw [book.evL_len];omega⟩
theorem keep_tape {c:List Int} {l:List Ev} {e:Nat} {v:Ev} {ls:List Wr} {f:Int} (h:disk.Tape c (l.map evL) e) (hm:∀ v∈l,EMay v) (hv:EMay v) (hn:l.length<120) (hf:e+13<c.length) (hk:KeepIs c v ls f):ls=appW c e (evL v)∧f=0:=by
 obtain ⟨l',e',hk',h'⟩:=hk;obtain ⟨rfl,rfl⟩:=hk'.one (kept_tape h hm);rcases h' with ⟨p,_⟩ | ⟨_,ws,g,hen,h2⟩
 ·exact absurd hn p
 ·obtain ⟨rfl,rfl⟩:=hen.one (.inl ⟨hv,rfl,rfl⟩);rcases h2 with ⟨p,_⟩ | ⟨_,ha⟩
  ·exact absurd rfl p
  ·rcases h.app ha (rmay_ev v) with ⟨_,b,d⟩ | ⟨b,_⟩
   ·exact ⟨b,d⟩
   ·rw [book.evL_len] at b;omega
theorem tape_next {c:List Int} {l:List Ev} {e:Nat} {v:Ev} (h:disk.Tape c (l.map evL) e) (hf:e+13<c.length):disk.Tape (wrt c (appW c e (evL v))) ((l++[v]).map evL) (e+14):=by
 have:=h.all (rmay_ev v) (by rw [book.evL_len];exact hf);rw [book.evL_len] at this;rw [List.map_append];exact this
theorem tape_cut {c:List Int} {l:List Ev} {e:Nat} {v:Ev} {k:Nat} (h:disk.Tape c (l.map evL) e) (hf:e+13<c.length) (hk:k<(appW c e (evL v)).length):disk.Tape (wrt c ((appW c e (evL v)).take k)) (l.map evL) e:=
 h.cut (by rw [book.evL_len];exact hf) hk
theorem book_ok {t:Tm} {l:List Ev} {bk:List Cm} {a:Int} (h:BookIs t l bk a 0):acc.TRight t∧l.length≤120∧a=0∧∃ st:Nat→List Cm,st 0=[]∧(∀ i,i<l.length→StepIs t (st i) (l.getD i ev0) (st (i+1)) 0)∧bk=st l.length:=by
 rcases h with ⟨_,p,_⟩ | ⟨_,_,_,_,p⟩ | ⟨p,q,k,st,s0,s1,⟨rfl,s2,s3,_⟩ | ⟨_,_,s2,_⟩⟩
 ·exact absurd rfl p
 ·cases p
 ·exact ⟨p,q,s3,st,s0,s1,s2⟩
 ·exact absurd rfl s2
theorem getD_app1 (l:List Ev) (v:Ev) (i:Nat) (h:i<l.length):(l++[v]).getD i ev0=l.getD i ev0:=by
 simp [List.getD,List.getElem?_append_left h]
theorem getD_app2 (l:List Ev) (v:Ev):(l++[v]).getD l.length ev0=v:=by
 simp [List.getD]
theorem book_next {t:Tm} {l:List Ev} {bk bk':List Cm} {v:Ev} (h:BookIs t l bk 0 0) (hl:l.length<120) (hs:StepIs t bk v bk' 0):BookIs t (l++[v]) bk' 0 0:=by
 obtain ⟨ht,_,_,st,s0,s1,rfl⟩:=book_ok h;obtain ⟨st',a0,a1,a2⟩:=book.run_more (l:=l++[v]) (k:=l.length) (st:=st) (bk:=bk') (fun i hi=>by rw [getD_app1 l v i hi];exact s1 i hi) (by rw [getD_app2];exact hs);refine .inr (.inr ⟨ht,by rw [List.length_append];simp;omega,l.length+1,st',a0.trans s0,a2,.inl ⟨by rw [List.length_append];rfl,a1.symm,rfl,rfl⟩⟩)
def Grows (a b:List Cm):Prop:=a.length≤b.length∧∀ i,i<a.length→(b.getD i cm0).a.me=(a.getD i cm0).a.me∧∃ s,(b.getD i cm0).so=(a.getD i cm0).so++s
theorem sell_same {a:Ac} {t:Tm} {te m:Int} {b:Ac} {l:Bi} (h:SellIs a t te m b l 0):b.me=a.me∧b.rv=a.rv∧b.nx=a.nx+1∧l.id=a.nx:=by
 rcases h with ⟨h,rfl,rfl⟩ | ⟨_,_,h,_⟩ | ⟨_,_,_,h,_⟩ | ⟨_,_,_,_,u,_,rfl,rfl⟩
 ·rcases h with ⟨_,h⟩ | ⟨_,h1,h2⟩ | ⟨_,_,_,h⟩
  ·cases h
  ·exact absurd (h2.ok.1 rfl) h1
  ·exact absurd rfl h.ne
 ·cases h
 ·cases h
 ·exact ⟨rfl,rfl,rfl,rfl⟩
theorem grant_same {a:Ac} {t:Tm} {m:Int} {b:Ac} {l:Bi} (h:GrantIs a t m b l 0):b.me=a.me∧b.rv=a.rv∧b.nx=a.nx+1∧l.id=a.nx:=by
 rcases h with ⟨h,rfl,rfl⟩ | ⟨_,_,h,_⟩ | ⟨_,_,_,h,_⟩ | ⟨_,_,_,_,h,_⟩ | ⟨_,_,_,_,_,rfl,rfl⟩
 ·rcases h with ⟨_,h⟩ | ⟨_,h1,h2⟩ | ⟨_,_,_,h⟩
  ·cases h
  ·exact absurd (h2.ok.1 rfl) h1
  ·exact absurd rfl h.ne
 ·cases h
 ·cases h
 ·cases h
 ·exact ⟨rfl,rfl,rfl,rfl⟩
theorem rekey_same {a b:Ac} {l:Bi} (h:RekeyIs a b l 0):b.me=a.me∧b.rv=a.rv+1∧b.nx=a.nx+1∧l.id=a.nx:=by
 rcases h with ⟨_,_,_,h⟩ | ⟨_,_,_,_,h⟩ | ⟨_,_,_,_,_,h⟩ | ⟨_,_,_,rfl,rfl,_⟩
 ·cases h
 ·cases h
 ·cases h
 ·exact ⟨rfl,rfl,rfl,rfl⟩
theorem owe_same {a b:Ac} {q:tar.Du} (h:OweIs a q b 0):b.me=a.me∧b.rv=a.rv∧b.nx=a.nx:=by
 rcases h with ⟨_,_,h⟩ | ⟨_,_,_,h⟩ | ⟨_,_,_,_,h⟩ | ⟨_,_,_,rfl,_⟩
 ·cases h
 ·cases h
 ·cases h
 ·exact ⟨rfl,rfl,rfl⟩
theorem tells_same {t:Tm} {c:Cm} {v:Ev} {b:Ac} {l:Bi} (h:Tells t c v b l 0):b.me=c.a.me∧c.a.rv≤b.rv∧b.nx=c.a.nx+1∧l.id=c.a.nx:=by
 rcases h with ⟨_,h⟩ | ⟨_,h⟩ | ⟨_,h⟩
 ·obtain ⟨h1,h2,h3,h4⟩:=sell_same h;exact ⟨h1,by omega,h3,h4⟩
 ·obtain ⟨h1,h2,h3,h4⟩:=grant_same h;exact ⟨h1,by omega,h3,h4⟩
 ·obtain ⟨h1,h2,h3,h4⟩:=rekey_same h;exact ⟨h1,by omega,h3,h4⟩
theorem hap_grows {t:Tm} {c c':Cm} {v:Ev} (h:HapIs t c v c' 0):c'.a.me=c.a.me∧∃ s,c'.so=c.so++s:=by
 rcases h with ⟨p,b,q,r⟩ | ⟨p,b,l,e,q,⟨x,r⟩ | ⟨_,_,r⟩ | ⟨rfl,y,_,z⟩⟩
 ·rw [r rfl];exact ⟨(owe_same q).1,[],(List.append_nil _).symm⟩
 ·exact absurd r.symm x
 ·cases r
 ·rw [z];exact ⟨(tells_same q).1,[soldOf c v],rfl⟩
theorem getD_setC (l:List Cm) (k i:Nat) (x:Cm) (hk:k<l.length):(l.set k x).getD i cm0=if i=k then x else l.getD i cm0:=by
 simp only [List.getD,List.getElem?_set];by_cases e:k=i
 ·subst e;simp [hk]
 ·rw [if_neg e,if_neg (fun q=>e q.symm)]
theorem getD_appC (l:List Cm) (x:Cm) (i:Nat) (h:i<l.length):(l++[x]).getD i cm0=l.getD i cm0:=by
 simp [List.getD,List.getElem?_append_left h]
theorem step_grows {t:Tm} {bk bk':List Cm} {v:Ev} (h:StepIs t bk v bk' 0):Grows bk bk':=by
 rcases h with ⟨_,r⟩ | ⟨_,_,_,r⟩ | ⟨_,_,_,_,s⟩ | ⟨_,_,_,r⟩ | ⟨p,q,k,c',hk,hh,s⟩
 ·cases r
 ·cases r
 ·rw [s];exact ⟨by rw [List.length_append];omega,fun i hi=>by rw [getD_appC _ _ _ hi];exact ⟨rfl,[],(List.append_nil _).symm⟩⟩
 ·cases r
 ·rw [s rfl];refine ⟨by rw [List.length_set];exact Nat.le_refl _,fun i hi=>?_⟩;rw [getD_setC _ _ _ _ hk.1];by_cases e:i=k
  ·subst e;rw [if_pos rfl];exact hap_grows hh
  ·rw [if_neg e];exact ⟨rfl,[],(List.append_nil _).symm⟩
end vnd
namespace acc
open tar (Du du0 Came RowD Ld PairT)
open Go.RowKit
theorem pgrant1 (B0 B1 g:Nat) (x:Ac) (p:Option Addr) (len cap:Nat) (t:Tm) (pt:Option Addr) (lt ct:Nat) (m:Int) (w:World) (hB0:Blk w B0 #[.slice pt lt ct,zI t.ff,zI t.fb,zI t.db,zI t.al] 24) (hB1:Blk w B1 #[zI m] 3) (hw:Blk w g (wcs x bi0 p len cap) 252) (hd:deb.Fresh w (g+1) p len cap x.ds) (ha:AMay x) (ht:Came w pt lt ct t.ts) (hwf:wf4 t) (hfar:Far pt lt g):Calls Tryz.prog 120 #[.pointer (some ⟨g,0,none⟩),.pointer (some ⟨B0,0,none⟩),.pointer (some ⟨B1,0,none⟩)] w fun e w'=>WPost w g (Or0 (GrantIs x t m)) e w':=by
 have HIN:Hid (Calls Tryz.prog 121 #[.pointer (some ⟨g,0,none⟩),.agg #[.slice pt lt ct,zI t.ff,zI t.fb,zI t.db,zI t.al],zI m] w fun e w'=>WPost w g (Or0 (GrantIs x t m)) e w'):=(pgrant g x p len cap t pt lt ct m w hw hd ha ht hwf hfar).mono fun e w' h=>h.w (Nat.le_of_lt hw.lt);have HK0:Hid (Blk w B0 #[.slice pt lt ct,zI t.ff,zI t.fb,zI t.db,zI t.al] 24):=hB0;have HK1:Hid (Blk w B1 #[zI m] 3):=hB1;have qB1:w.cell? ⟨B1,0,none⟩=some (zI m):=hB1.cell 0;clear hw ha hd ht hwf hfar;go_enter Tryz.func120,Tryz.ntmps120;go_wp2_with (first | (refine zqw rfl rfl rfl HK0 zqu24 ?_) | fail)
 refine HIN.o.mono ?_;rintro e w1 hx;have HX:Hid (WPost w g (Or0 (GrantIs x t m)) e w1):=hx;obtain ⟨y,b,q,n,c,f,rfl,_⟩:=hx;clear HIN;go_wp2_with fail;go_ret;exact HX.o
theorem kgrant:KcGrant:=by
 intro w x p len cap t pt lt ct m ha ht hm;unfold Ac.v Ac.cs Tm.v;obtain ⟨W0,HWW,H0d,H0t,H0m,H0r,H0l,H0B,hs0⟩:=sh5 w #[zI x.me,zI x.rv,zI x.nx,zI x.mo,zI x.bo,zI x.fr,.slice p len cap] 51 #[.slice pt lt ct,zI t.ff,zI t.fb,zI t.db,zI t.al] 24 #[zI m] 3 #[zI 0,zI 0,zI 0,zI 0,zI 0,zI 0,zS] 51 #[zI 0,zI 0,zI 0,zI 0,zI 0,zI 0,zI 0] 68;have H0R:Hid (Came W0 p len cap x.ds):=ha.ds.below H0B.o;go_enter Tryz.func77,Tryz.ntmps77;go_upto_region 1 with fail
 rw [HWW.o];clear HWW;have HXt:Hid (∀ W,Below W0.heap.size W0 W→Blk W (w.heap.size+1) #[.slice pt lt ct,zI t.ff,zI t.fb,zI t.db,zI t.al] 24):=fun W hW=>H0t.o.next hW;have HXm:Hid (∀ W,Below W0.heap.size W0 W→Blk W (w.heap.size+1+1) #[zI m] 3):=fun W hW=>H0m.o.next hW;have HTC:Hid (Came w pt lt ct t.ts):=ht.ts;have HBW:Hid (Below w.heap.size w W0):=H0B.o;have hbw:w.heap.size≤W0.heap.size:=H0B.o.size
 have HWK:Hid (Calls Tryz.prog 117 #[.agg #[zI x.me,zI x.rv,zI x.nx,zI x.mo,zI x.bo,zI x.fr,.slice p len cap],.func (.func 120) #[] #[.pointer (some ⟨w.heap.size+1,0,none⟩),.pointer (some ⟨w.heap.size+1+1,0,none⟩)]] W0 fun e w'=>BPost W0 (GrantIs x t m) e w'):=by
  refine pwork 120 #[.pointer (some ⟨w.heap.size+1,0,none⟩),.pointer (some ⟨w.heap.size+1+1,0,none⟩)] (GrantIs x t m) x p len cap W0 H0R.o (fun h=> .inl ⟨.inl ⟨h,rfl⟩,rfl,rfl⟩) (fun _ _=>by kernel_rfl) ?_;intro hm W g p' cap' hB hg hblk hld
  have HFR:deb.Fresh W (g+1) p' len cap' x.ds:=by
   obtain ⟨a0,c0,hv,hfr⟩:=deb.ld_fresh hld hm.1;injection hv with h1 h2 h3
   rw [h1,h2,h3];exact hfr
  have hfar:Far pt lt g:=fun hn y hy=>by have:=came_lt HTC.o hn y hy;omega
  exact pgrant1 _ _ g x p' len cap' t pt lt ct m W (HXt.o W hB) (HXm.o W hB) hblk HFR hm (HTC.o.below (HBW.o.trans (hB.mono hbw))) ht.wf hfar
 clear ha ht HXt HXm
 go_wp2_with (first
  | (refine zqw rfl rfl rfl H0d zqu51 ?_)
  | (refine zqw rfl rfl rfl H0t zqu24 ?_)
  | (refine wp_whole rfl 3 _ rfl _ rfl 3 _ _ H0m.o Tryz.underlying3 rfl (by kernel_rfl) ?_)
  | (refine zqw rfl rfl rfl H0r zqu51 ?_)
  | (refine zqw rfl rfl rfl H0l zqu68 ?_)
  | fail)
 refine HWK.o.mono ?_;rintro e w1 ⟨b,l,pr,lr,cr,fz,rfl,hi,hf,hb1⟩;have H1d:=shN H0d hb1;have H1t:=shN H0t hb1;have H1m:=shN H0m hb1;have H1r:=shN H0r hb1;have H1l:=shN H0l hb1;have H1R:Hid (Came w1 p len cap x.ds):=H0R.o.below hb1;have H1B:=shB H0B hb1;have hsw1:W0.heap.size≤w1.heap.size:=hb1.size;clear hb1 H0d H0t H0m H0r H0l H0R H0B;unfold Ac.v Ac.cs Bi.v;clear HWK;have H2F:Hid (deb.Fresh w1 W0.heap.size pr lr cr b.ds):=hf;have HUPF:Hid (0<lr→∀ y,pr=some y→y.block<w1.heap.size):=came_lt H2F.o.came;have HV:Hid (GrantIs x t m b l fz):=hi;clear hf hi
 go_wp2_with (first
  | (refine zql rfl rfl rfl rfl zqu51 (by simp [Value.oneCell']) H1r rfl ?_)
  | (refine zqw rfl rfl rfl H1d zqu51 ?_)
  | (refine zqw rfl rfl rfl H1t zqu24 ?_)
  | (refine wp_whole rfl 3 _ rfl _ rfl 3 _ _ H1m.o Tryz.underlying3 rfl (by kernel_rfl) ?_)
  | (refine zqw rfl rfl rfl H1r zqu51 ?_)
  | (refine zqw rfl rfl rfl H1l zqu68 ?_)
  | fail)
 intro W4 hU;have H3d:=shK hU H1d (by omega);have H3t:=shK hU H1t (by omega);have H3m:=shK hU H1m (by omega);have H3r:Hid (Blk W4 (w.heap.size+1+1+1) #[zI b.me,zI b.rv,zI b.nx,zI b.mo,zI b.bo,zI b.fr,.slice pr lr cr] 51):=hU.blk;have H3l:=shK hU H1l (by omega);have H3F:Hid (deb.Fresh W4 W0.heap.size pr lr cr b.ds):=fresh_updN H2F.o hU (fun hn y hy=>by have f1:=H2F.o.new hn y hy;have f2:=HUPF.o hn y hy;omega);have H3B:=shV hU H1B (by omega);have hsW4:W4.heap.size=w1.heap.size:=hU.size;clear hU H1d H1t H1m H1r H1l H2F H1B
 go_wp2_with (first
  | (refine zql rfl rfl rfl rfl zqu68 (by simp [Value.oneCell']) H3l rfl ?_)
  | (refine zqw rfl rfl rfl H3d zqu51 ?_)
  | (refine zqw rfl rfl rfl H3t zqu24 ?_)
  | (refine wp_whole rfl 3 _ rfl _ rfl 3 _ _ H3m.o Tryz.underlying3 rfl (by kernel_rfl) ?_)
  | (refine zqw rfl rfl rfl H3r zqu51 ?_)
  | (refine zqw rfl rfl rfl H3l zqu68 ?_)
  | fail)
 intro W5 hU;have H4d:=shK hU H3d (by omega);have H4t:=shK hU H3t (by omega);have H4m:=shK hU H3m (by omega);have H4r:=shK hU H3r (by omega);have H4l:Hid (Blk W5 (w.heap.size+1+1+1+1) #[zI l.id,zI l.te,zI l.de,zI l.fe,zI l.pr,zI l.ch,zI l.un] 68):=hU.blk;have H4F:Hid (deb.Fresh W5 W0.heap.size pr lr cr b.ds):=fresh_updN H3F.o hU (fun hn y hy=>by have f1:=H3F.o.new hn y hy;have f2:=HUPF.o hn y hy;omega);have H4B:=shV hU H3B (by omega);have hsW5:W5.heap.size=W4.heap.size:=hU.size;clear hU H3d H3t H3m H3r H3l H3F H3B;obtain ⟨Rr0,Rr1,Rr2,Rr3,Rr4,Rr5,Rr6⟩:=shc7 H4r;obtain ⟨Rl0,Rl1,Rl2,Rl3,Rl4,Rl5,Rl6⟩:=shc7 H4l;go_wp2_with fail;exact bodyPost_ret (v:= .tuple #[.agg #[zI b.me,zI b.rv,zI b.nx,zI b.mo,zI b.bo,zI b.fr,.slice pr lr cr],.agg #[zI l.id,zI l.te,zI l.de,zI l.fe,zI l.pr,zI l.ch,zI l.un],zI fz]) (by simp [results,Tryz.results77,Rr0.o,Rr1.o,Rr2.o,Rr3.o,Rr4.o,Rr5.o,Rr6.o,Rl0.o,Rl1.o,Rl2.o,Rl3.o,Rl4.o,Rl5.o,Rl6.o,go_sem]) rfl ⟨b,l,pr,lr,cr,fz,rfl,HV.o,H4F.o.low (by omega),H4B.o⟩
theorem prekey (g:Nat) (x:Ac) (p:Option Addr) (len cap:Nat) (w:World) (hw:Blk w g (wcs x bi0 p len cap) 252) (hd:deb.Fresh w (g+1) p len cap x.ds) (ha:AMay x):Calls Tryz.prog 125 #[.pointer (some ⟨g,0,none⟩)] w fun e w'=>DPost w g (Or0 (RekeyIs x)) e w':=by
 have hrv:=ha.2.2.1;have hnx:=ha.2.2.2.1;have HM:Hid (AMay x):=ha;have HI:Hid (Blk w g #[zI x.me,zI x.rv,zI x.nx,zI x.mo,zI x.bo,zI x.fr,.slice p len cap,zI 0,zI 0,zI 0,zI 0,zI 0,zI 0,zI 0] 252):=hw;have HD:Hid (deb.Fresh w (g+1) p len cap x.ds):=hd;have q1:w.cell? ⟨g,1,none⟩=some (zI x.rv):=HI.o.cell 1;clear hw hd ha;by_cases h1:x.rv<15
 ·have d1:(x.rv == 15)=false:=by simp;omega
  have hwr:IntKind.i64.wrap (x.rv+1)=x.rv+1:=by rw [IntKind.wrap_i64];omega
  have H1:Hid (x.rv<15):=h1;go_enter Tryz.func125,Tryz.ntmps125;go_wp2_with (first | (refine wp_let1 rfl 3 _ _ rfl g 1 rfl .i64 (x.rv+1) rfl (by kernel_rfl) #[zI x.me,zI x.rv,zI x.nx,zI x.mo,zI x.bo,zI x.fr,.slice p len cap,zI 0,zI 0,zI 0,zI 0,zI 0,zI 0,zI 0] 252 HI.o (by simp) ?_) | fail)
  intro W1 hU;have HI1:Hid (Blk W1 g #[zI x.me,zI (x.rv+1),zI x.nx,zI x.mo,zI x.bo,zI x.fr,.slice p len cap,zI 0,zI 0,zI 0,zI 0,zI 0,zI 0,zI 0] 252):=hU.blk;have HC1:Hid (Chg w W1 g):= .upd hU;have HD1:Hid (deb.Fresh W1 (g+1) p len cap x.ds):=fresh_chg HD.o (.upd hU);have HNU:Hid (Calls Tryz.prog 161 #[.pointer (some ⟨g,0,none⟩)] W1 fun e w'=>NumPost W1 g ⟨x.me,x.rv+1,x.nx,x.mo,x.bo,x.fr,x.ds⟩ bi0 p len cap e w'):=pnum g ⟨x.me,x.rv+1,x.nx,x.mo,x.bo,x.fr,x.ds⟩ bi0 p len cap W1 HI1.o hnx;clear hU q1 HI HD d1 h1;go_wp2_with fail;refine HNU.o.mono ?_;rintro e wN ⟨hcN,⟨hx,rfl,hiN⟩ | ⟨hx,rfl,hiN⟩⟩
  ·have HV:Hid (Or0 (RekeyIs x) ⟨x.me,x.rv+1,x.nx,x.mo,x.bo,x.fr,x.ds⟩ bi0 20):= .inl ⟨by decide,.inr (.inr (.inl ⟨HM.o,H1.o,hx,rfl,rfl,rfl⟩))⟩;have HDN:=fresh_chg HD1.o hcN;have HCN:=HC1.o.trans hcN;clear HNU hx;go_wp2_with fail;go_ret;exact ⟨⟨x.me,x.rv+1,x.nx,x.mo,x.bo,x.fr,x.ds⟩,bi0,p,len,cap,20,rfl,HV.o,hiN,HDN,HCN⟩
  ·have HV:Hid (Or0 (RekeyIs x) ⟨x.me,x.rv+1,x.nx+1,x.mo,x.bo,x.fr,x.ds⟩ ⟨x.nx,0,0,0,0,0,0⟩ 0):= .inr ⟨rfl,.inr (.inr (.inr ⟨HM.o,H1.o,hx,rfl,rfl,rfl⟩))⟩;have HDN:=fresh_chg HD1.o hcN;have HCN:=HC1.o.trans hcN;clear HNU hx;go_wp2_with fail;go_ret;exact ⟨⟨x.me,x.rv+1,x.nx+1,x.mo,x.bo,x.fr,x.ds⟩,⟨x.nx,0,0,0,0,0,0⟩,p,len,cap,0,rfl,HV.o,hiN,HDN,HCN⟩
 ·have d1:(x.rv == 15)=true:=by simp;omega
  have HV:Hid (Or0 (RekeyIs x) x bi0 24):= .inl ⟨by decide,.inr (.inl ⟨HM.o,h1,rfl,rfl,rfl⟩)⟩;clear h1 hrv hnx;go_enter Tryz.func125,Tryz.ntmps125;go_wp2_with fail;go_ret;exact ⟨x,bi0,p,len,cap,24,rfl,HV.o,HI.o,HD.o,Chg.refl _ _⟩
theorem krekey:KcRekey:=by
 intro w x p len cap ha;unfold Ac.v Ac.cs;obtain ⟨W0,HWW,H0d,H0r,H0l,H0B,hs0⟩:=sh3 w #[zI x.me,zI x.rv,zI x.nx,zI x.mo,zI x.bo,zI x.fr,.slice p len cap] 51 #[zI 0,zI 0,zI 0,zI 0,zI 0,zI 0,zS] 51 #[zI 0,zI 0,zI 0,zI 0,zI 0,zI 0,zI 0] 68;have H0R:Hid (Came W0 p len cap x.ds):=ha.ds.below H0B.o;go_enter Tryz.func79,Tryz.ntmps79;go_upto_region 1 with fail
 rw [HWW.o];clear HWW
 have HWK:Hid (Calls Tryz.prog 117 #[.agg #[zI x.me,zI x.rv,zI x.nx,zI x.mo,zI x.bo,zI x.fr,.slice p len cap],.func (.func 125) #[] #[]] W0 fun e w'=>BPost W0 (RekeyIs x) e w'):=by
  refine pwork 125 #[] (RekeyIs x) x p len cap W0 H0R.o (fun h=> .inl ⟨h,rfl,rfl,rfl⟩) (fun _ _=>by kernel_rfl) ?_;intro hm W g p' cap' hB hg hblk hld
  have HFR:deb.Fresh W (g+1) p' len cap' x.ds:=by
   obtain ⟨a0,c0,hv,hfr⟩:=deb.ld_fresh hld hm.1;injection hv with h1 h2 h3
   rw [h1,h2,h3];exact hfr
  exact (prekey g x p' len cap' W hblk HFR hm).mono fun e w' h=>h.w (Nat.le_of_lt hblk.lt)
 clear ha
 go_wp2_with (first
  | (refine zqw rfl rfl rfl H0d zqu51 ?_)
  | (refine zqw rfl rfl rfl H0r zqu51 ?_)
  | (refine zqw rfl rfl rfl H0l zqu68 ?_)
  | fail)
 refine HWK.o.mono ?_;rintro e w1 ⟨b,l,pr,lr,cr,fz,rfl,hi,hf,hb1⟩;have H1d:=shN H0d hb1;have H1r:=shN H0r hb1;have H1l:=shN H0l hb1;have H1R:Hid (Came w1 p len cap x.ds):=H0R.o.below hb1;have H1B:=shB H0B hb1;have hsw1:W0.heap.size≤w1.heap.size:=hb1.size;clear hb1 H0d H0r H0l H0R H0B;unfold Ac.v Ac.cs Bi.v;clear HWK;have H2F:Hid (deb.Fresh w1 W0.heap.size pr lr cr b.ds):=hf;have HUPF:Hid (0<lr→∀ y,pr=some y→y.block<w1.heap.size):=came_lt H2F.o.came;have HV:Hid (RekeyIs x b l fz):=hi;clear hf hi
 go_wp2_with (first
  | (refine zql rfl rfl rfl rfl zqu51 (by simp [Value.oneCell']) H1r rfl ?_)
  | (refine zqw rfl rfl rfl H1d zqu51 ?_)
  | (refine zqw rfl rfl rfl H1r zqu51 ?_)
  | (refine zqw rfl rfl rfl H1l zqu68 ?_)
  | fail)
 intro W4 hU;have H3d:=shK hU H1d (by omega);have H3r:Hid (Blk W4 (w.heap.size+1) #[zI b.me,zI b.rv,zI b.nx,zI b.mo,zI b.bo,zI b.fr,.slice pr lr cr] 51):=hU.blk;have H3l:=shK hU H1l (by omega);have H3F:Hid (deb.Fresh W4 W0.heap.size pr lr cr b.ds):=fresh_updN H2F.o hU (fun hn y hy=>by have f1:=H2F.o.new hn y hy;have f2:=HUPF.o hn y hy;omega);have H3B:=shV hU H1B (by omega);have hsW4:W4.heap.size=w1.heap.size:=hU.size;clear hU H1d H1r H1l H2F H1B
 go_wp2_with (first
  | (refine zql rfl rfl rfl rfl zqu68 (by simp [Value.oneCell']) H3l rfl ?_)
  | (refine zqw rfl rfl rfl H3d zqu51 ?_)
  | (refine zqw rfl rfl rfl H3r zqu51 ?_)
  | (refine zqw rfl rfl rfl H3l zqu68 ?_)
  | fail)
 intro W5 hU;have H4d:=shK hU H3d (by omega);have H4r:=shK hU H3r (by omega);have H4l:Hid (Blk W5 (w.heap.size+1+1) #[zI l.id,zI l.te,zI l.de,zI l.fe,zI l.pr,zI l.ch,zI l.un] 68):=hU.blk;have H4F:Hid (deb.Fresh W5 W0.heap.size pr lr cr b.ds):=fresh_updN H3F.o hU (fun hn y hy=>by have f1:=H3F.o.new hn y hy;have f2:=HUPF.o hn y hy;omega);have H4B:=shV hU H3B (by omega);have hsW5:W5.heap.size=W4.heap.size:=hU.size;clear hU H3d H3r H3l H3F H3B;obtain ⟨Rr0,Rr1,Rr2,Rr3,Rr4,Rr5,Rr6⟩:=shc7 H4r;obtain ⟨Rl0,Rl1,Rl2,Rl3,Rl4,Rl5,Rl6⟩:=shc7 H4l;go_wp2_with fail;exact bodyPost_ret (v:= .tuple #[.agg #[zI b.me,zI b.rv,zI b.nx,zI b.mo,zI b.bo,zI b.fr,.slice pr lr cr],.agg #[zI l.id,zI l.te,zI l.de,zI l.fe,zI l.pr,zI l.ch,zI l.un],zI fz]) (by simp [results,Tryz.results79,Rr0.o,Rr1.o,Rr2.o,Rr3.o,Rr4.o,Rr5.o,Rr6.o,Rl0.o,Rl1.o,Rl2.o,Rl3.o,Rl4.o,Rl5.o,Rl6.o,go_sem]) rfl ⟨b,l,pr,lr,cr,fz,rfl,HV.o,H4F.o.low (by omega),H4B.o⟩
end acc
namespace disk
open Go.RowKit cell
theorem make_wr (m:Nat) (h:m≤100000) (w:World):(Instr.makeSlice 76 (zI 0) (zI ((m:Int)+2))).run Tryz.prog w = .ok (.slice (some ⟨w.heap.size,0,none⟩) 0 (m+2)) (w.alloc (.cells (madeCells (Value.agg #[zI 0,.int .u32 0]).cells ((m+2)*2)) 122)):=by
 obtain ⟨i0,hi,hz0,hz1,hz2⟩:=info_parts info_wr;have:=run_make (P:=Tryz.prog) w 76 122 i0 (.agg #[zI 0,.int .u32 0]) Tryz.underlying76 hi hz0 .i64 .i64 0 ((m:Int)+2) (by omega) (by omega) (by rw [hz2];omega) (by omega);rw [hz1,show ((m:Int)+2).toNat=m+2 by omega] at this;exact this
theorem put_next2 (p k:Nat) (r:List Int):putW p r k++[⟨(p:Int)+1+(k:Int),r.getD k 0⟩]=putW p r (k+1):=by
 rw [putW,show ((p+k+1:Nat):Int)=(p:Int)+1+(k:Int) by omega]
theorem app_yes2 {c:List Int} {p k:Nat} {r:List Int} (hk:r.length=k) (h:p+k+1<c.length):putW p r k++[⟨(p:Int)+1+(k:Int),0⟩]++[⟨(p:Int),(k:Int)⟩]=appW c p r:=by
 subst hk;rw [← app_yes h,show (p:Int)+1+(r.length:Int)=(p:Int)+(r.length:Int)+1 by omega]
theorem app_no2 {c:List Int} {p k:Nat} {r:List Int} (hk:r.length=k) (h:¬ p+k+1<c.length):putW p r k++[⟨(p:Int),(k:Int)⟩]=appW c p r:=by
 subst hk;exact app_no h
theorem laying_any (a:Option Addr) (m cap2:Nat) (r c:List Int) (p n:Nat) (w:World) (h:RowU w a m r) (h1:1≤m) (h2:m≤64) (hp:p≤2048) (hn:n≤2048) (hc:c.length=n) :
  Calls Tryz.prog 155 #[.slice a m cap2,zI (p:Int),zI (n:Int)] w fun e w'=>∃ V,e = .returned V∧Lw w' w.heap.size V (appW c p r)∧Below w.heap.size w w':=by
 obtain ⟨b,o,rfl,lb,hcl⟩:=h.at (by omega);have HCL:Hid (∀ W,Below w.heap.size w W→∀ j,j<m→W.cell? ⟨b,o+j,none⟩=some (.int .u32 (r.getD j 0))):=fun W hB j hj=>(hB.cell (p:=⟨b,o+j,none⟩) lb).trans (hcl j hj);have HN:Hid (c.length=n∧r.length=m):=⟨hc,h.1⟩
 have hmk:=make_wr m (by omega) w;have HL0:Hid (Lw (w.alloc (.cells (madeCells (Value.agg #[zI 0,.int .u32 0]).cells ((m+2)*2)) 122)) w.heap.size (.slice (some ⟨w.heap.size,0,none⟩) 0 (m+2)) []):=World.ownsRow_made w _ (m+2) (Nat.le_refl _) (by unfold maxLen;omega) (size_madeCells _ _);have HB0:Hid (Below w.heap.size w (w.alloc (.cells (madeCells (Value.agg #[zI 0,.int .u32 0]).cells ((m+2)*2)) 122))):=(Below.refl _ _).alloc (Nat.le_refl _) _;clear h hc hcl lb;generalize (w.alloc (.cells (madeCells (Value.agg #[zI 0,.int .u32 0]).cells ((m+2)*2)) 122))=W0 at *;go_enter Tryz.func155,Tryz.ntmps155;go_wp2_with fail;clear hmk;go_loopw [7,8,19] (fun v7 v8 v19 wr=>∃ (k:Nat) (V:Value),k≤m∧V=v7∧v8=zI ((p:Int)+1+(k:Int))∧v19=zI (k:Int)∧Lw wr w.heap.size V (putW p r k)∧Below w.heap.size w wr) (fun _ _ v19 _=>m - (intOf v19).toNat)
 case atStart=>exact ⟨0,_,Nat.zero_le _,rfl,by go_num,rfl,HL0.o,HB0.o⟩
 case round=>
  obtain ⟨k,V,hk,hV,rfl,rfl,hlw,hbl⟩:=hrel;subst hV;have HBL:Hid (Below w.heap.size w wr):=hbl;have hs6:(putW p r k).length≤1000000:=by rw [put_len];omega
  have HUA:Hid (∀ o,Lw (wr.alloc o) w.heap.size V (putW p r k)):=fun o=>hlw.alloc o;have HBA:Hid (∀ o,Below w.heap.size w (wr.alloc o)):=fun o=>hbl.alloc hbl.size o;have HSA:Hid (∀ o,w.heap.size≤(wr.alloc o).heap.size):=fun o=>(hbl.alloc hbl.size o).size;clear hlw hbl HL0 HB0;by_cases hkm:k<m
  ·have k2:=HCL.o wr HBL.o k hkm;have HPN:Hid (putW p r k++[⟨(p:Int)+1+(k:Int),r.getD k 0⟩]=putW p r (k+1)):=put_next2 p k r;generalize r.getD k 0=u at *;go_wp2_with (first | (refine wp_write rfl _ _ rfl w.heap.size wr.heap.size V (putW p r k) ⟨(p:Int)+1+(k:Int),u⟩ rfl rfl (HUA.o _) ⟨(Blk.new wr _ _).cell 0,(Blk.new wr _ _).cell 1⟩ hs6 (HSA.o _) ?_;intro v3 w3 h3 hg3;have hb3:=own_bel (HUA.o _) hg3 (HBA.o _) (Nat.le_refl _) (HSA.o _);have H3:Hid (Lw w3 w.heap.size v3 (putW p r k++[(⟨(p:Int)+1+(k:Int),u⟩:Wr)])):=h3;have HB3:Hid (Below w.heap.size w w3):=hb3;clear h3 hg3 hb3) | fail)
   go_roundw
   case rel=>exact ⟨k+1,v3,by omega,rfl,by go_num,by go_num,by rw [← HPN.o];exact H3.o,HB3.o⟩
   case measure=>simp [intOf];omega
  ·obtain rfl:k=m:=by omega
   by_cases hz:(p:Int)+1+(k:Int)<(n:Int)
   ·have HQ:Hid (putW p r k++[⟨(p:Int)+1+(k:Int),0⟩]++[⟨(p:Int),(k:Int)⟩]=appW c p r):=app_yes2 HN.o.2 (by rw [HN.o.1];omega);have hs7:(putW p r k++[(⟨(p:Int)+1+(k:Int),0⟩:Wr)]).length≤1000000:=by rw [List.length_append,put_len];simp;omega
    go_upto_region 11 with (first | (refine wp_write rfl _ _ rfl w.heap.size wr.heap.size V (putW p r k) ⟨(p:Int)+1+(k:Int),0⟩ rfl rfl (HUA.o _) ⟨(Blk.new wr _ _).cell 0,(Blk.new wr _ _).cell 1⟩ hs6 (HSA.o _) ?_;intro v3 w3 h3 hg3;have hb3:=own_bel (HUA.o _) hg3 (HBA.o _) (Nat.le_refl _) (HSA.o _);have H3:Hid (Lw w3 w.heap.size v3 (putW p r k++[(⟨(p:Int)+1+(k:Int),0⟩:Wr)])):=h3;have HB3:Hid (Below w.heap.size w w3):=hb3;clear h3 hg3 hb3) | fail)
    have HU3:Hid (∀ o,Lw (w3.alloc o) w.heap.size v3 (putW p r k++[(⟨(p:Int)+1+(k:Int),0⟩:Wr)])):=fun o=>H3.o.alloc o;have HBB:Hid (∀ o,Below w.heap.size w (w3.alloc o)):=fun o=>HB3.o.alloc HB3.o.size o;have HS3:Hid (∀ o,w.heap.size≤(w3.alloc o).heap.size):=fun o=>(HB3.o.alloc HB3.o.size o).size;clear HUA HBA HSA HBL H3 HB3;go_wp2_with (first | (refine wp_write rfl _ _ rfl w.heap.size w3.heap.size v3 (putW p r k++[(⟨(p:Int)+1+(k:Int),0⟩:Wr)]) ⟨(p:Int),(k:Int)⟩ rfl rfl (HU3.o _) ⟨(Blk.new w3 _ _).cell 0,(Blk.new w3 _ _).cell 1⟩ hs7 (HS3.o _) ?_;intro v4 w4 h3 hg3;have hb3:=own_bel (HU3.o _) hg3 (HBB.o _) (Nat.le_refl _) (HS3.o _);have H4:Hid (Lw w4 w.heap.size v4 (putW p r k++[(⟨(p:Int)+1+(k:Int),0⟩:Wr)]++[(⟨(p:Int),(k:Int)⟩:Wr)])):=h3;have HB4:Hid (Below w.heap.size w w4):=hb3;clear h3 hg3 hb3) | fail)
    go_ret;exact ⟨v4,rfl,by rw [← HQ.o];exact H4.o,HB4.o⟩
   ·have HQ:Hid (putW p r k++[⟨(p:Int),(k:Int)⟩]=appW c p r):=app_no2 HN.o.2 (by rw [HN.o.1];omega);go_wp2_with (first | (refine wp_write rfl _ _ rfl w.heap.size wr.heap.size V (putW p r k) ⟨(p:Int),(k:Int)⟩ rfl rfl (HUA.o _) ⟨(Blk.new wr _ _).cell 0,(Blk.new wr _ _).cell 1⟩ hs6 (HSA.o _) ?_;intro v4 w4 h3 hg3;have hb3:=own_bel (HUA.o _) hg3 (HBA.o _) (Nat.le_refl _) (HSA.o _);have H4:Hid (Lw w4 w.heap.size v4 (putW p r k++[(⟨(p:Int),(k:Int)⟩:Wr)])):=h3;have HB4:Hid (Below w.heap.size w w4):=hb3;clear h3 hg3 hb3) | fail)
    go_ret;exact ⟨v4,rfl,by rw [← HQ.o];exact H4.o,HB4.o⟩
end disk
end Go.Proofs.YtnpblpbohcegoaaGreatDoor
