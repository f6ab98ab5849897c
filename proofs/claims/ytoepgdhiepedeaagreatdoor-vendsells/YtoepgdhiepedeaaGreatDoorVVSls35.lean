import Derived.Test.YtoepgdhiepedeaaGreatDoorVVSls32
import Derived.Test.YtoepgdhiepedeaaGreatDoorVVSls34
set_option linter.unusedVariables false
set_option linter.unusedSimpArgs false
set_option maxHeartbeats 4000000
set_option maxRecDepth 100000
namespace Go.Proofs.YtoepgdhiepedeaaGreatDoor
namespace disk
open Go.RowKit cell
theorem appended(a:Option Addr)(n cap:Nat)(c:List Int)(a2:Option Addr)(m cap2:Nat)(r:List Int)(w:World)(h:RowU w a n c)(hw:∀x∈c,0≤x∧x<4294967296)(h2:RowU w a2 m r):
  Calls Tryz.prog 58 #[.slice a n cap,.slice a2 m cap2] w λe w'=>AppPost w c r e w':=by
 have J:=h.1;have A:=h2.1;by_cases z:1≤m∧m≤64
 ·have HM:Hid (∀W,zC 47 #[zI (m:Int),zI 1,zI 64] W λe w'=>e=.returned (.bool true)∧w'=W):=λW=>in_yes _ _ _ W (by omega) (by omega);have a7:Hid (zC 81 #[.slice a n cap] w λe w'=>RepPost w c e w'):=replayed a n cap c w h hw;obtain⟨b,o,rfl,lb,hc⟩:=h2.at (by omega);have a0:Hid (∀W,zB w W→∀j,j<m→W.cell? ⟨b,o+j,none⟩=some (.int .u32 (r.getD j 0))):=λW hB j hj=>(hB.cell (p:=⟨b,o+j,none⟩) lb).trans (hc j hj);have C:Hid (RMay r):=⟨by omega,by omega⟩
  have l:Hid (c.length=n∧r.length=m):=⟨J,A⟩
  obtain⟨ac,ad⟩:=z;clear h hw hc lb J A h2;go_enter Tryz.func58,Tryz.ntmps58;go_wp2_with fail;refine(HM.o _).mono ?_;rintro e Y ⟨rfl,hq⟩;subst Y;go_wp2_with fail;refine a7.o.mono ?_;rintro e Y ⟨V0,sl,ah,x,f,rfl,-,-,D,S⟩;have G:Hid (zB w Y):=S;clear S;by_cases hf:f=0
  ·obtain⟨hmy,hl0,hx⟩:May c∧lenAt c (repD c).2=0∧x=((repD c).2:Int):=by
    rcases D with⟨_,_,_,e⟩|⟨_,_,_,_,e⟩|⟨T,q2,_,q4,_⟩
    ·rw[hf] at e;exact absurd e (by decide)
    ·rw[hf] at e;exact absurd e (by decide)
    ·exact⟨T,q2,q4⟩
   have a5:Hid ((repD c).2≤n):=by show _≤_;rw[← l.o.1];exact rep_bound c
   have a1:Hid (n≤(repD c).2+m→AppIs c r [] 16):=λhh=> .inr (.inr (.inr (.inl ⟨C.o,hmy,hl0,by rw[l.o.1,l.o.2];exact hh,rfl,rfl⟩)));have a4:Hid ((repD c).2+m<n→AppIs c r (appW c (repD c).2 r) 0):=λhh=> .inr (.inr (.inr (.inr ⟨C.o,hmy,hl0,by rw[l.o.1,l.o.2];exact hh,rfl,rfl⟩)));have ae:n≤2048:=by have:=hmy.2;rw[l.o.1] at this;exact this
   subst hf;subst hx;clear D hmy hl0;generalize (repD c).2=p at *;have ag:=a5.o;by_cases ab:(n:Int)≤(p:Int)+(m:Int)
   ·have F:Hid (AppIs c r [] 16):=a1.o (by omega);go_wp2_with fail;go_ret2;exact⟨zS,[],16,rfl,Lw.zero _ _,F.o,G.o⟩
   ·have F:Hid (AppIs c r (appW c p r) 0):=a4.o (by omega);go_wp2_with fail;go_loopw [10,11] (λaa M wr=>∃(k:Nat)(V:Value),k≤m∧V=aa∧M=zI (k:Int)∧Lw wr w.heap.size V (putW p r k)∧zB w wr) (λ_ M _=>m-(intOf M).toNat)
    case atStart=>exact⟨0,_,Nat.zero_le _,rfl,rfl,Lw.zero _ _,G.o⟩
    case round=>
     obtain⟨k,V,hk,hV,rfl,K,i⟩:=hrel;subst hV;have a3:Hid (Lw wr w.heap.size V (putW p r k)):=K;have N:Hid (zB w wr):=i;have L:(putW p r k).length≤1000000:=by rw[put_len];omega
     have g:Hid (∀o,Lw (wr.alloc o) w.heap.size V (putW p r k)):=λo=>K.alloc o;have B:Hid (∀o,zB w (wr.alloc o)):=λo=>i.alloc i.size o;have d:Hid (∀o,w.heap.size≤(wr.alloc o).heap.size):=λo=>(i.alloc i.size o).size;clear K i;by_cases a8:k<m
     ·have k2:=a0.o wr N.o k a8;have a6:Hid (putW p r k++[⟨(p:Int)+(k:Int)+1,r.getD k 0⟩]=putW p r (k+1)):=put_next p k r;generalize r.getD k 0=u at *;go_wp2_with (first|(refine wp_write rfl _ _ rfl w.heap.size wr.heap.size V (putW p r k) ⟨(p:Int)+(k:Int)+1,u⟩ rfl rfl (g.o _) ⟨(Blk.new wr _ _).cell 0,(Blk.new wr _ _).cell 1⟩ L (d.o _) ?_;intro U E Q t;have H:Hid (zB w E):=own_bel (g.o _) t (B.o _) zc (d.o _);have H3:Hid (Lw E w.heap.size U (putW p r (k+1))):=(by rw[← a6.o];exact Q);clear Q t)|fail)
      go_roundw
      case rel=>exact⟨k+1,U,by omega,rfl,by go_num,H3.o,H.o⟩
      case measure=>simp[intOf];omega
     ·obtain rfl:k=m:=by omega
      by_cases hz:(p:Int)+(k:Int)+1<(n:Int)
      ·have HQ:Hid (putW p r k++[⟨(p:Int)+(k:Int)+1,0⟩]++[⟨(p:Int),(k:Int)⟩]=appW c p r):=by
        have q:=app_yes (c:=c) (p:=p) (r:=r) (by rw[l.o.1,l.o.2];omega);rw[l.o.2] at q;exact q
       have a9:(putW p r k++[(⟨(p:Int)+(k:Int)+1,0⟩:Wr)]).length≤1000000:=by rw[List.length_append,put_len];simp;omega
       go_wp2_with (first|(refine wp_write rfl _ _ rfl w.heap.size wr.heap.size V (putW p r k) ⟨(p:Int)+(k:Int)+1,0⟩ rfl rfl (g.o _) ⟨(Blk.new wr _ _).cell 0,(Blk.new wr _ _).cell 1⟩ L (d.o _) ?_;intro U E Q t;have s:=own_bel (g.o _) t (B.o _) zc (d.o _);have P:Hid (∀o,Lw (E.alloc o) w.heap.size U (putW p r k++[(⟨(p:Int)+(k:Int)+1,0⟩:Wr)])):=(λo=>Q.alloc o);have H:Hid (∀o,zB w (E.alloc o)):=(λo=>s.alloc s.size o);have O:Hid (∀o,w.heap.size≤(E.alloc o).heap.size):=(λo=>(s.alloc s.size o).size);clear Q t s g B d a3 N)|(refine wp_write rfl _ _ rfl w.heap.size E.heap.size U (putW p r k++[(⟨(p:Int)+(k:Int)+1,0⟩:Wr)]) ⟨(p:Int),(k:Int)⟩ rfl rfl (P.o _) ⟨(Blk.new E _ _).cell 0,(Blk.new E _ _).cell 1⟩ a9 (O.o _) ?_;intro X Z R y;have I:Hid (zB w Z):=own_bel (P.o _) y (H.o _) zc (O.o _);have H4:Hid (Lw Z w.heap.size X (appW c p r)):=(by rw[← HQ.o];exact R);clear R y)|fail)
       go_ret2;exact⟨X,_,0,rfl,H4.o,F.o,I.o⟩
      ·have HQ:Hid (putW p r k++[⟨(p:Int),(k:Int)⟩]=appW c p r):=by
        have q:=app_no (c:=c) (p:=p) (r:=r) (by rw[l.o.1,l.o.2];omega);rw[l.o.2] at q;exact q
       go_wp2_with (first|(refine wp_write rfl _ _ rfl w.heap.size wr.heap.size V (putW p r k) ⟨(p:Int),(k:Int)⟩ rfl rfl (g.o _) ⟨(Blk.new wr _ _).cell 0,(Blk.new wr _ _).cell 1⟩ L (d.o _) ?_;intro X Z R y;have I:Hid (zB w Z):=own_bel (g.o _) y (B.o _) zc (d.o _);have H4:Hid (Lw Z w.heap.size X (appW c p r)):=(by rw[← HQ.o];exact R);clear R y)|fail)
       go_ret2;exact⟨X,_,0,rfl,H4.o,F.o,I.o⟩
  ·have F:Hid (AppIs c r [] f):=by
    rcases D with⟨T,_,_,rfl⟩|⟨T,q2,_,_,rfl⟩|⟨_,_,_,_,e⟩
    ·exact .inr (.inl ⟨C.o,T,rfl,rfl⟩)
    ·exact .inr (.inr (.inl ⟨C.o,T,q2,rfl,rfl⟩))
    ·exact absurd e hf
   have af:(f != 0)=true:=by simpa using hf
   clear D hf;go_wp2_with fail;go_ret2;exact⟨zS,[],f,rfl,Lw.zero _ _,F.o,G.o⟩
 ·have HM:Hid (∀W,zC 47 #[zI (m:Int),zI 1,zI 64] W λe w'=>e=.returned (.bool false)∧w'=W):=λW=>in_no _ _ _ W (by omega);have F:Hid (AppIs c r [] 1):=.inl ⟨λh=>z ⟨by rw[← A];exact h.1,by rw[← A];exact h.2⟩,rfl,rfl⟩;clear h hw h2 J A z;go_enter Tryz.func58,Tryz.ntmps58;go_wp2_with fail;refine(HM.o _).mono ?_;rintro e Y ⟨rfl,hq⟩;subst Y;go_wp2_with fail;go_ret2;exact⟨zS,[],1,rfl,Lw.zero _ _,F.o,zb⟩
end disk
namespace vnd
open disk (RepIs AppIs RepPost AppPost Lr Recs Sli sl0)
open book (Ev ev0 EMay evL evOf EncIs DecIs Cm cm0 So so0 BookIs BookPost Sees ECame RowE FirstAt NoneAt Tells EncPost DecPost)
open acc (Ac Tm Bi SellIs GrantIs RekeyIs OweIs)
open ora (Pr IssueIs)
open cell (Wr RowU RowW Lw Ws)
open rcp (Rc rc0)
open token (Tok fmtL)
open Go.RowKit
def WrPost(w:World)(R:List Wr→Int→Prop)(e:Ending)(w':World):Prop:=∃V ls f,e=.returned (.tuple #[V,zI f])∧R ls f∧Lw w' w.heap.size V ls∧zB w w'
theorem lw_low{w:World}{base base':Nat}{v:Value}{l:List Wr}(h:Lw w base v l)(hb:base'≤base):Lw w base' v l:=by
 refine⟨h.1,?_⟩;rcases h.2 with d|⟨g,a,b,e,c,rest⟩
 ·exact .inl d
 ·exact .inr ⟨g,a,b,e,Nat.le_trans hb c,rest⟩
theorem rkept(a:Option Addr)(n cap:Nat)(c:List Int)(w:World)(h:RowU w a n c)(hw:∀x∈c,0≤x∧x<4294967296):Calls Tryz.prog 42 #[.slice a n cap] w λe w'=>KeptPost w c e w':=by
 have af:=zh (disk.replayed a n cap c w h hw);have HW:=zh hw;clear h hw;go_enter Tryz.func42,Tryz.ntmps42;go_wp2_with fail;refine af.o.mono ?_;rintro e l ⟨V,i,o,x,f,rfl,J,t,L,X⟩;obtain⟨pa,pc,rfl⟩:=J.len;have d:=zh X;have r:=zh L;have ac:=zh J;have ae:=zh t;have b:=zh t.1;have ak:i.length≤2048:=by rw[t.1];exact rep_len L
 clear J t L X;by_cases h0:f=0
 ·subst h0;generalize hN:i.length=N at *;have HN:=zh hN;clear hN;go_wp2_with fail;go_loopw [7,8] (λu z wr=>∃(k:Nat)(U:Value),k≤N∧z=zI (k:Int)∧U=u∧book.Le wr l.heap.size U ((o.take k).map evOf)∧(∀j,j<k→DecOk (o.getD j []))∧zB l wr) (λ_ z _=>N-(intOf z).toNat)
  case atStart=>exact⟨0,_,Nat.zero_le _,rfl,rfl,book.Le.zero _ _,(λj F=>absurd F (Nat.not_lt_zero _)),zb⟩
  case round=>
   obtain⟨k,U,hk,rfl,hU,I,K,W⟩:=hrel;subst hU;have R:=zh I;have q:=zh K;have m:=zh W;by_cases a4:k<N
   ·have ai:decide ((k:Int)<(N:Int))=true:=by simp;omega
    have a3:k<i.length:=by rw[HN.o];exact a4
    have G:k<o.length:=by rw[← b.o];exact a4
    obtain⟨g,gc,a2,_,aj,_,a1⟩:=ac.o.row (by rw[HN.o];omega);have al:pa=some ⟨g,0,none⟩:=by injection a2
    subst al;obtain⟨⟨rb,ro,am,an,_⟩,B⟩:=ae.o.2 k a3;have ck:wr.cell? ⟨g,k,none⟩=some (i.getD k sl0).v:=(W.cell (p:=⟨g,k,none⟩) aj).trans (a1 k a3);unfold disk.Sli.v at ck;have ab:Hid (zC 82 #[.slice (i.getD k sl0).a (i.getD k sl0).n (i.getD k sl0).c] wr λe w'=>DecPost wr (o.getD k []) e w'):=book.rdecoded _ _ _ _ wr (B.below W) (λy hy=>HW.o y (rep_in r.o _ (getD_inR G) y hy));clear I K W a1 B am an a2;generalize (i.getD k sl0).a=sa at *;generalize (i.getD k sl0).n=sn at *;generalize (i.getD k sl0).c=sc at *;have ah:=zh (take_mapE o k G);have ao:((o.take k).map evOf).length≤1000000:=by rw[List.length_map,List.length_take];omega
    generalize (o.take k).map evOf=Z at *;go_wp2_with fail;refine ab.o.mono ?_;rintro e M ⟨v,f2,rfl,hd,s⟩;unfold book.Ev.v;have HX:=zye M #[zI v.kd,zI v.me,zI v.mo,zI v.id,zI v.te,zI v.de,zI v.fe,zI v.pr,zI v.ch,zI v.un,zI v.tg,zI v.ow,zI v.bp] 44;have O:Hid (zB l (M.alloc (.cells #[zI v.kd,zI v.me,zI v.mo,zI v.id,zI v.te,zI v.de,zI v.fe,zI v.pr,zI v.ch,zI v.un,zI v.tg,zI v.ow,zI v.bp] 44))):=(m.o.trans (s.mono m.o.size)).alloc (Nat.le_trans m.o.size s.size) _;have ad:Hid (book.Le (M.alloc (.cells #[zI v.kd,zI v.me,zI v.mo,zI v.id,zI v.te,zI v.de,zI v.fe,zI v.pr,zI v.ch,zI v.un,zI v.tg,zI v.ow,zI v.bp] 44)) l.heap.size U Z):=(R.o.next s).alloc _;have HD:=zh hd;have ap:=(Blk.new M #[zI v.kd,zI v.me,zI v.mo,zI v.id,zI v.te,zI v.de,zI v.fe,zI v.pr,zI v.ch,zI v.un,zI v.tg,zI v.ow,zI v.bp] 44).lt;clear hd s ck;go_upto_region 9 with fail
    generalize (M.alloc (.cells #[zI v.kd,zI v.me,zI v.mo,zI v.id,zI v.te,zI v.de,zI v.fe,zI v.pr,zI v.ch,zI v.un,zI v.tg,zI v.ow,zI v.bp] 44))=W3 at *;generalize M.heap.size=gx at *;by_cases T:f2=0
    ·subst T;obtain⟨Y,a5⟩:=dec_ok HD.o;have HV:=zh a5.symm
     have S:Hid (∀j,j<k+1→DecOk (o.getD j [])):=λj F=>by
      by_cases e:j=k
      ·subst e;exact Y
      ·exact q.o j (by omega)
     have a9:Hid (Blk (W3.alloc (.cells #[zI v.kd,zI v.me,zI v.mo,zI v.id,zI v.te,zI v.de,zI v.fe,zI v.pr,zI v.ch,zI v.un,zI v.tg,zI v.ow,zI v.bp] 44)) W3.heap.size v.cl.toArray 44):=Blk.new W3 _ _;have Q:Hid (book.Le (W3.alloc (.cells #[zI v.kd,zI v.me,zI v.mo,zI v.id,zI v.te,zI v.de,zI v.fe,zI v.pr,zI v.ch,zI v.un,zI v.tg,zI v.ow,zI v.bp] 44)) l.heap.size U Z):=ad.o.alloc _;have C:=zyf O (.cells #[zI v.kd,zI v.me,zI v.mo,zI v.id,zI v.te,zI v.de,zI v.fe,zI v.pr,zI v.ch,zI v.un,zI v.tg,zI v.ow,zI v.bp] 44);clear Y a5;go_wp2_with (first|refine zw ?_|(at_builtin;refine book.wp_ev rfl _ _ rfl l.heap.size W3.heap.size U Z v rfl rfl Q.o a9.o ao C.o.size ?_))
     intro v3 w3 h3 a0;have a8:Hid (zB l w3):=tar.own_bel Q.o a0 C.o zc C.o.size;have H3:=zh h3;clear h3 a0;go_wp2_with fail;go_roundw
     case rel=>exact⟨k+1,v3,by omega,by go_num,by first|rfl|trivial,by rw[← ah.o,HV.o];exact H3.o,S.o,a8.o⟩
     case measure=>simp[intOf];omega
    ·have d2:(f2 != 0)=true:=by simpa using T
     have P:Hid (KeptIs c [] f2):=⟨o,x,0,r.o,.inr (.inr ⟨rfl,T,rfl,k,G,q.o,by have:=dec_no HD.o T;rw[← this];exact HD.o⟩)⟩
     have D:=zh (d.o.trans (O.o.mono d.o.size));clear T;go_wp2_with fail;go_ret2;exact⟨none,0,0,[],f2,rfl,P.o,ecame_nil _,Nat.zero_le _,D.o⟩
   ·obtain rfl:k=N:=by omega
    have ai:decide ((k:Int)<(k:Int))=false:=by simp
    have ag:Hid (o.take k=o):=List.take_of_length_le (by rw[← b.o];exact zc);have P:Hid (KeptIs c (o.map evOf) 0):=⟨o,x,0,r.o,.inr (.inl ⟨rfl,λj F=>q.o j (by rw[b.o];exact F),rfl,rfl⟩)⟩
    have a7:∀v∈o.map evOf,book.wf13 v:=λv hv=>by
     obtain⟨z,hz,rfl⟩:=List.mem_map.1 hv;obtain⟨j,F,rfl⟩:=List.mem_iff_getElem.1 hz;have e:o.getD j []=o[j]:=by simp[List.getD,List.getElem?_eq_getElem F]
     have:=q.o j (by rw[b.o];exact F);rw[e] at this;exact book.wf_may this.2
    have H:=R.o;rw[ag.o] at H;obtain⟨pz,cz,a6,E⟩:=H.came (by rw[List.length_map,← b.o];omega) a7;have A:(o.map evOf).length=k:=by rw[List.length_map];exact b.o.symm
    rw[A] at a6 E;subst a6;have aa:=zh E;have D:=zh (d.o.trans (m.o.mono d.o.size));clear I K W H E a7 A;go_wp2_with fail;go_ret2;exact⟨pz,k,cz,_,0,rfl,P.o,aa.o,ak,D.o⟩
 ·have d0:(f != 0)=true:=by simpa using h0
  have P:Hid (KeptIs c [] f):=⟨o,x,f,r.o,.inl ⟨h0,rfl,rfl⟩⟩
  clear h0;go_wp2_with fail;go_ret2;exact⟨none,0,0,[],f,rfl,P.o,ecame_nil _,Nat.zero_le _,d.o⟩
theorem found_first{xs:List book.Cu}{bk:List Cm}{me x:Int}(hl:xs.length=bk.length)(hn:∀i,i<xs.length→book.Nums (xs.getD i book.cu0) (bk.getD i cm0).a)(h:book.FoundIs xs me x):(x=-1∧NoneAt bk me)∨(∃k:Nat,x=(k:Int)∧FirstAt bk me k∧k<xs.length):=by
 rcases h with⟨k,b,d,e,f⟩|⟨b,d⟩
 ·refine .inr ⟨k,f,⟨by rw[← hl];exact b,by rw[← (hn k b).1];exact d,λj c=>by rw[← (hn j (by omega)).1];exact e j c⟩,b⟩
 ·exact .inl ⟨d,λj c=>by rw[← (hn j (by rw[hl];exact c)).1];exact b j (by rw[hl];exact c)⟩
end vnd
namespace ora
open Go.RowKit
set_option maxRecDepth 100000
set_option maxHeartbeats 1000000 in
theorem oracles_any(a : Option Addr)(len cap : Nat)(l : List Pr)(w : World)(hr : RowP w a len l)(hn : a = none → cap = 0)(hl : len * 32 ≤ 140737488351232):
  Calls Tryz.prog 7 #[.agg #[.slice a len cap]] w λe w' => GaveO w l e w' := by
 obtain⟨i0, hi, hz0, hz1, hz2⟩ := info_parts info_pr
 have HX : Hid (Bi w ((w.alloc (.cells #[.slice a len cap] 28)).alloc (.cells #[.slice none 0 0] 28)) a len cap l) := ⟨(Bo.new hr).alloc _, Blk.new1 w _ _ _⟩
 have HZ : Hid (l.length = len) := hr.1
 have c0 := HX.out.bo.box.cell 0
 cases a with
 |none =>
  have hc := hn rfl
  have h0 : len = 0 := by rcases hr.2 with h|⟨b, off, h, _⟩; exact h; cases h
  subst hc h0
  obtain rfl : l = [] := List.eq_nil_of_length_eq_zero HZ.out
  have happ : ∀w : World, (Builtin.append_ #[26, 26] 26 #[.slice none 0 0, .slice none 0 0]).run Tryz.prog w=.ok (.slice none 0 0) w := λw => by kernel_rfl
  have R0 : Hid (_ = _) := HX.out.out.cell 0
  clear hr
  go_enter Tryz.func7, Tryz.ntmps7
  go_wp2_with fail
  exact bodyPost_ret (v :=.agg #[.slice none 0 0]) (by simp[results, Tryz.results7, R0.out, go_sem]) rfl ⟨_, rfl, Pw.zero _ _, HX.out.bo.bel⟩
 |some x =>
  have HR : Hid (RowP ((w.alloc (.cells #[.slice (some x) len cap] 28)).alloc (.cells #[.slice none 0 0] 28)) (some x) len l) := HX.out.bo.row
  have HSZ : Hid (w.heap.size + 2 ≤ ((w.alloc (.cells #[.slice (some x) len cap] 28)).alloc (.cells #[.slice none 0 0] 28)).heap.size) := HX.out.out.lt
  clear hr
  go_enter Tryz.func7, Tryz.ntmps7
  go_wp2_with (first
   |(at_builtin; refine wpList_append_own _ rfl _ _ 26 rfl (w.heap.size + 2) 87 i0 (.agg #[.int .i64 0, .int .i64 0, .int .i64 0, .int .i64 0]) 4 32 Tryz.underlying26 hi hz0 hz1 hz2 rfl (by decide) _ _ _ rfl (World.ownsRow_nil _ _ _ _) x len cap (cellsP l) rfl ?c0 ?c1 (oneP l) ?c3 ?c4 HSZ.out ?_)
   | go_in)
  case c0 => rw[cellsP_len, HZ.out]
  case c1 =>
   intro j u hu
   rcases HR.out.2 with h|⟨b, off, h, hc⟩
   ·rw[List.getElem?_eq_none (by rw[cellsP_len, HZ.out]; omega)] at hu; cases hu
   ·obtain rfl := Option.some.inj h
    rw[Addr.add_lit]
    exact cellsP_get HZ.out hc j u hu
  case c3 => unfold maxLen; omega
  case c4 => omega
  intro v' w' hown hg _
  have HW : Hid (Pw w' (w.heap.size + 2) v' l) := by show w'.ownsRow _ _ _ _ _ _; rw[HZ.out]; simpa using hown
  have hb' : zB w w' := HX.out.bo.bel.grown hg (by have := HSZ.out; omega) (λk hk => by simp[Value.ownBlock] at hk)
  have hout := Blk.pgrown HX.out.out hg (by simp[Value.ownBlock])
  have z0 := hout.cell 0
  have y0 := hout.free 0
  have HXX := hout.set 0 v'
  have R0 : Hid (_ = _) := HXX.cell 0
  have HF : Hid (Pw (w'.setCell ⟨w.heap.size + 1, 0, none⟩ v') w.heap.size v' l ∧ zB w (w'.setCell ⟨w.heap.size + 1, 0, none⟩ v')) := ⟨(HW.out.put _ _ _ (by omega)).low (by omega), bel_set hb' _ _ _ (by omega)⟩
  obtain⟨av, cv, hV, _, _, _⟩ := HW.out.row
  clear hown hg hb' hout c0
  subst hV
  go_wp2_with fail
  exact bodyPost_ret (v :=.agg #[.slice av l.length cv]) (by simp[results, Tryz.results7, R0.out, go_sem]) rfl ⟨_, rfl, HF.out.1, HF.out.2⟩
theorem peq(d : Nat)(a b : Int)(w : World): (Op.equalIn (d + 1) 3 (.int .i64 a) (.int .i64 b)).run Tryz.prog w=.ok (a==b) w := run_equalIn_int w d _ _ _ a b Tryz.underlying3
theorem pt0(a b c e : Int)(w : World): (part 3 #[.int .i64 a, .int .i64 b, .int .i64 c, .int .i64 e] 0).run Tryz.prog w=.ok (.int .i64 a) w := by kernel_rfl
theorem pt1(a b c e : Int)(w : World): (part 3 #[.int .i64 a, .int .i64 b, .int .i64 c, .int .i64 e] 1).run Tryz.prog w=.ok (.int .i64 b) w := by kernel_rfl
theorem pt2(a b c e : Int)(w : World): (part 3 #[.int .i64 a, .int .i64 b, .int .i64 c, .int .i64 e] 2).run Tryz.prog w=.ok (.int .i64 c) w := by kernel_rfl
theorem pt3(a b c e : Int)(w : World): (part 3 #[.int .i64 a, .int .i64 b, .int .i64 c, .int .i64 e] 3).run Tryz.prog w=.ok (.int .i64 e) w := by kernel_rfl
theorem eqPr(a b c e : Int)(w : World):
  (Op.equalIn 10000 87 (.agg #[.int .i64 a, .int .i64 b, .int .i64 c, .int .i64 e]) (.agg #[.int .i64 a, .int .i64 b, .int .i64 c, .int .i64 e])).run Tryz.prog w=.ok true w := by
 rw[show (10000 : Nat) = 9999 + 1 from rfl, run_equalIn_agg w 9999 87 _ _ (by kernel_rfl) (by kernel_rfl)]
 simp only[Program.fieldsOf, Tryz.underlying87, Op.eqFields, Sem.run_bind, Sem.run_ite]
 simp[pt0, pt1, pt2, pt3, show (9999 : Nat) = 9998 + 1 from rfl, peq]
set_option maxHeartbeats 2000000 in
theorem same_any(a b : Option Addr)(n c1 c2 : Nat)(l : List Pr)(w : World)(h1 : RowP w a n l)(h2 : RowP w b n l)(hn : n * 32 ≤ 140737488351232):
  Calls Tryz.prog 12 #[.agg #[.slice a n c1], .agg #[.slice b n c2]] w λe w' => e=.returned (.bool true) ∧ zB w w' := by
 have hne : ((n : Int) != (n : Int)) = false := by simp
 have hn' : n ≤ 140737488351232 := by omega
 clear hn
 have HB0 : Hid (Blk ((w.alloc (.cells #[.slice a n c1] 28)).alloc (.cells #[.slice b n c2] 28)) w.heap.size #[.slice a n c1] 28 ∧ Blk ((w.alloc (.cells #[.slice a n c1] 28)).alloc (.cells #[.slice b n c2] 28)) (w.heap.size + 1) #[.slice b n c2] 28 ∧ zB w ((w.alloc (.cells #[.slice a n c1] 28)).alloc (.cells #[.slice b n c2] 28))) :=
  ⟨(Blk.new w _ _).alloc _, Blk.new1 w _ _ _, (zb.alloc zc _).alloc (palloc_le zc _) _⟩
 have HR : Hid (RowP w a n l ∧ RowP w b n l) := ⟨h1, h2⟩
 clear h1 h2
 have c0 := HB0.out.1.cell 0
 have e0 := HB0.out.2.1.cell 0
 go_enter Tryz.func12, Tryz.ntmps12
 go_wp2_with fail
 clear c0 e0
 generalize (w.alloc (.cells #[.slice a n c1] 28)).alloc (.cells #[.slice b n c2] 28) = W0 at *
 go_loopw [5] (λj wr => ∃k : Nat, k ≤ n ∧ j=.int .i64 (k : Int) ∧ Blk wr w.heap.size #[.slice a n c1] 28 ∧ Blk wr (w.heap.size + 1) #[.slice b n c2] 28 ∧ zB w wr) (λj _ => n-(intOf j).toNat)
 case atStart => exact⟨0, Nat.zero_le _, rfl, HB0.out⟩
 case round =>
  obtain⟨k, hk, rfl, hx⟩ := hrel
  have HI : Hid (Blk wr w.heap.size #[.slice a n c1] 28 ∧ Blk wr (w.heap.size + 1) #[.slice b n c2] 28 ∧ zB w wr) := hx
  clear hx
  have c0 := HI.out.1.cell 0
  have e0 := HI.out.2.1.cell 0
  by_cases hlt : k<n
  ·obtain⟨b1, o1, rfl, _, hc1⟩ := (HR.out.1.below HI.out.2.2).at (by omega)
   obtain⟨b2, o2, rfl, _, hc2⟩ := (HR.out.2.below HI.out.2.2).at (by omega)
   obtain⟨f0, f1, f2, f3⟩ := hc1 k hlt
   obtain⟨g0, g1, g2, g3⟩ := hc2 k hlt
   have hq := eqPr (l.getD k pr0).m (l.getD k pr0).r (l.getD k pr0).b (l.getD k pr0).t
   clear hc1 hc2
   generalize (l.getD k pr0).m = pm at *
   generalize (l.getD k pr0).r = prr at *
   generalize (l.getD k pr0).b = pb at *
   generalize (l.getD k pr0).t = pt at *
   go_wp2_with fail
   go_region
   all_goals go_wp2_with fail
   go_roundw
   case rel => exact⟨k + 1, by omega, by go_num, HI.out.1, HI.out.2.1, HI.out.2.2.drew⟩
   case measure => simp[intOf]; omega
  ·go_wp2_with fail
   go_ret
   exact⟨rfl, HI.out.2.2⟩
theorem oracles_row(a : Option Addr)(n cap : Nat)(l : List Pr)(w : World)(h : Came w a n cap l):
  Calls Tryz.prog 7 #[.agg #[.slice a n cap]] w λe w' => Copied w n l e w' :=
 (oracles_any a n cap l w h.row h.nil h.small).mono λe w' ⟨v, he, hv, hb⟩ => by
  obtain⟨x, c, rfl, d, f, b⟩ := hv.row
  rw[h.row.1] at he d b
  exact⟨x, c, he, ⟨d, f, b, h.small⟩, hb⟩
end ora
section
open Go.RowKit
theorem wp_wholeG{P:Program}{ops:Array Oper}{rest:List Oper}{o:Oper}{a:Act}{w:World}{Q:Exit→Act→World→Prop}(hw:Region.wanted o (yielded ops a.tmps)=true)(ty:TypeId)(x:Operand)(ho:o.op=.load ty x)
  (g:Nat) (hx:a.eval x=.pointer (some ⟨g,0,none⟩)) (t:TypeId) (cs:Array Value) (d:TypeDesc) (hB:Blk w g cs t)
  (hu:P.underlying ty=some d) (hd:d.isRow=true) (hi:(P.info? ty).map (·.size)=some cs.size)
  (h:wpList P ops Q rest (a.put o.dst (.agg cs)) w):wpList P ops Q (o::rest) a w:=
 wpList_step λK hK=>by
  rw[if_pos hw]
  exact wp_load_mid (P:=P) (op:=o) (a:=a) (w:=w) (K:=K) (Q:=Q) ty x ho g 0 hx cs.toList d (λj v hv=>by rw[Nat.zero_add,hB.cell j];simpa using hv) hu hd (by simpa using hi) (by simpa using hK _ _ h)
end
section
open Go.RowKit
theorem zg {P : Program} {ops : Array Oper} {rest : List Oper} {o : Oper} {a : Act} {w : World} {Q : Exit → Act → World → Prop} {ty : TypeId} {x : Operand} {g : Nat} {t : TypeId} {cs : Array Value}
 (h : wpList P ops Q rest (a.put o.dst (.agg cs)) w) (hw : Region.wanted o (yielded ops a.tmps) = true := by exact rfl) (ho : o.op = .load ty x := by exact rfl) (hx : a.eval x = .pointer (some ⟨g, 0, none⟩) := by exact rfl)
 (hB : Hid (Blk w g cs t) := by assumption) (hr : zqr P ty cs.size := by first|exact zqu24|exact zqu28|exact zqu33|exact zqu35|exact zqu42|exact zqu44|exact zqu55|exact zqu61|exact zqu65|exact zqu71|exact zqu73|exact zqu93|exact zqu132|exact zqu170|exact zqu183|exact zqu212) : wpList P ops Q (o :: rest) a w := by
 obtain ⟨d, h1, h2, h3⟩ := hr
 exact wp_wholeG hw ty x ho g hx t cs d hB.out h1 (by cases d <;> first | rfl | exact h2 | exact absurd h2 (by simp)) h3 h
end
namespace token
open words
open Go.RowKit
theorem blk_ex{w w':World}{G z:Nat}{cs:Array Value}{t:TypeId}(h:Blk w G cs t)(he:Ex w w' z)(hne:G≠z):Blk w' G cs t:=by
 have a:=h.lt;unfold Blk at *;rw[he.block G a hne];exact h
theorem number_abs(k:Tok)(B M1 M2 M3:Nat)(w:World)
  (HF:Hid (∀W,zC 25 #[.agg #[zI (k.c:Int),zI (k.i:Int),zI (k.a:Int),zI (k.t:Int)]] W λe w'=>e=.returned (.tuple #[zI (B:Int),zI 0])∧zB W w'))
  (HE:Hid (B*65536=M1∧M1+k.t=M2∧M2*97=M3)) (hB:B<9223372036854775808) (ht:k.t<9223372036854775808)
  (HL:Hid ((dig B).length≤100∧(dig 65536).length≤100∧(dig M1).length≤100∧(dig k.t).length≤100∧(dig M2).length≤100∧(dig 97).length≤100)):
  Calls Tryz.prog 59 #[k.v] w λe w'=>NewPost w M3 e w':=by
 have M:Hid (zB w (w.alloc (.cells #[zI (k.c:Int),zI (k.i:Int),zI (k.a:Int),zI (k.t:Int)] 73))):=zb.alloc zc _;have a0:Hid (Blk (w.alloc (.cells #[zI (k.c:Int),zI (k.i:Int),zI (k.a:Int),zI (k.t:Int)] 73)) w.heap.size #[zI (k.c:Int),zI (k.i:Int),zI (k.a:Int),zI (k.t:Int)] 73):=Blk.new _ _ _;unfold Tok.v;go_enter Tryz.func59,Tryz.ntmps59;go_wp2_with fail;refine(HF.o _).mono ?_;rintro e w1 ⟨rfl,d⟩;have N:=shB M d;have y:=shN a0 d;clear d;go_wp2_with fail;refine(newInt_any B _ hB).mono ?_;rintro e w2 ⟨z,rfl,hz,C,f⟩;have O:=shB N f;have a1:=shN y f;have A:Hid (w.heap.size<z):=Nat.lt_of_lt_of_le y.o.lt hz;have p:Hid (Bg w2 z B):=C;clear f C hz;go_wp2_with fail;refine(newInt_any 65536 _ (by decide)).mono ?_;rintro e w3 ⟨q3,rfl,a4,D,b⟩;have P:=shB O b;have a2:=shN a1 b;have N3:=p.o.below b;have L:=p.o.ob.lt;have I:q3≠z:=by omega
 have q:Hid (Bg w3 z B):=N3;have X:Hid (Bg w3 q3 65536):=D;clear b D a4 N3 L;go_wp2_with fail;refine(Mul_any z z q3 B 65536 _ q.o X.o q.o.ob I HL.o.1 HL.o.2.1).mono ?_;rintro e w4 ⟨rfl,j,n⟩;rw[HE.o.1] at j;have Q:Hid (zB w w4):=n.below P.o (by have:=A.o;omega);have a3:Hid (Blk w4 w.heap.size #[zI (k.c:Int),zI (k.i:Int),zI (k.a:Int),zI (k.t:Int)] 73):=blk_ex a2.o n (by have:=A.o;omega);have r:Hid (Bg w4 z M1):=j;have x3:=a3.o.cell 3;clear j n I;go_wp2_with fail;refine(newInt_any k.t _ ht).mono ?_;rintro e w5 ⟨q5,rfl,a5,E,g⟩;have R:=shB Q g;have N5:=r.o.below g;have L:=r.o.ob.lt;have J:q5≠z:=by omega
 have s:Hid (Bg w5 z M1):=N5;have Y:Hid (Bg w5 q5 k.t):=E;clear g E a5 N5 L x3;go_wp2_with fail;refine(Add_any z z q5 M1 k.t _ s.o Y.o s.o.ob J HL.o.2.2.1 HL.o.2.2.2.1).mono ?_;rintro e w6 ⟨rfl,l,G⟩;rw[HE.o.2.1] at l;have S:Hid (zB w w6):=G.below R.o (by have:=A.o;omega);have u:Hid (Bg w6 z M2):=l;clear l G J;go_wp2_with fail;refine(newInt_any 97 _ (by decide)).mono ?_;rintro e w7 ⟨q7,rfl,a6,F,h⟩;have T:=shB S h;have N7:=u.o.below h;have L:=u.o.ob.lt;have K:q7≠z:=by omega
 have x:Hid (Bg w7 z M2):=N7;have Z:Hid (Bg w7 q7 97):=F;clear h F a6 N7 L;go_wp2_with fail;refine(Mul_any z z q7 M2 97 _ x.o Z.o x.o.ob K HL.o.2.2.2.2.1 HL.o.2.2.2.2.2).mono ?_;rintro e w8 ⟨rfl,m,H⟩;rw[HE.o.2.2] at m;have U:Hid (zB w w8):=H.below T.o (by have:=A.o;omega);have V:Hid (Bg w8 z M3):=m;clear m H K;go_wp2_with fail;go_ret;exact NewPost.mk (by have:=A.o;omega) V.o U.o
theorem number_any(k:Tok)(w:World)(hk:k.ok):
  Calls Tryz.prog 59 #[k.v] w λe w'=>NewPost w (k.num*97) e w':=by
 have b:=body_bd hk;have f:=num_lt hk;have g:=hk.t2;have c:k.body*65536+k.t=k.num:=by unfold Tok.body Tok.num;omega
 have a:∀m,m<4294967296^8→(dig m).length≤100:=λm d=>len100 d;refine number_abs k k.body (k.body*65536) k.num (k.num*97) w (λW=>bodyOf_ok k W hk) ⟨rfl,c,rfl⟩ (by omega) (by omega) ⟨a _ (Nat.lt_of_le_of_lt b (by decide)),a _ (by decide),a _ (Nat.lt_of_le_of_lt (show k.body*65536≤8796093022207*65536 by omega) (by decide)),a _ (Nat.lt_of_le_of_lt g (by decide)),a _ (Nat.lt_trans f (by decide)),a _ (by decide)⟩
end token
end Go.Proofs.YtoepgdhiepedeaaGreatDoor
