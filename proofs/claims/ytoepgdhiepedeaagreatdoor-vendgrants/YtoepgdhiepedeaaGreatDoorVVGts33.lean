import Derived.Test.YtoepgdhiepedeaaGreatDoorVVGts30
import Derived.Test.YtoepgdhiepedeaaGreatDoorVVGts31
import Derived.Test.YtoepgdhiepedeaaGreatDoorVVGts32
set_option linter.unusedVariables false
set_option linter.unusedSimpArgs false
set_option maxHeartbeats 4000000
set_option maxRecDepth 100000
namespace Go.Proofs.YtoepgdhiepedeaaGreatDoor
namespace vnd
open disk (RepIs AppIs RepPost Lr Recs Sli sl0)
open book (Ev ev0 EMay evL evOf EncIs DecIs Cm cm0 So so0 BookIs BookPost Sees ECame RowE FirstAt NoneAt Tells DecPost)
open acc (Ac Tm Bi SellIs GrantIs RekeyIs OweIs)
open ora (Pr IssueIs)
open cell (Wr RowU)
open rcp (Rc rc0)
open token (Tok fmtL)
open Go.RowKit
theorem rkept(a:Option Addr)(n cap:Nat)(c:List Int)(w:World)(h:RowU w a n c)(hw:∀x∈c,0≤x∧x<4294967296):Calls Tryz.prog 42 #[.slice a n cap] w λe w'=>KeptPost w c e w':=by
 have af:=zh (disk.replayed a n cap c w h hw);have HW:=zh hw;clear h hw;go_enter Tryz.func42,Tryz.ntmps42;go_wp2_with fail;refine af.o.mono ?_;rintro e l ⟨V,i,o,x,f,rfl,J,t,L,X⟩;obtain⟨pa,pc,rfl⟩:=J.len;have d:=zh X;have r:=zh L;have ac:=zh J;have ae:=zh t;have b:=zh t.1;have ak:i.length≤2048:=by rw[t.1];exact rep_len L
 clear J t L X;by_cases h0:f=0
 ·subst h0;generalize hN:i.length=N at *;have HN:=zh hN;clear hN;go_wp2_with fail;go_loopw [7,8] (λu z wr=>∃(k:Nat)(U:Value),k≤N∧z=zI (k:Int)∧U=u∧book.Le wr l.heap.size U ((o.take k).map evOf)∧(∀j,j<k→DecOk (o.getD j []))∧zB l wr) (λ_ z _=>N-(intOf z).toNat)
  case atStart=>exact⟨0,_,Nat.zero_le _,rfl,rfl,book.Le.zero _ _,(λj F=>absurd F (Nat.not_lt_zero _)),zb⟩
  case round=>
   obtain⟨k,U,hk,rfl,hU,I,K,W⟩:=hrel;subst hU;have R:=zh I;have q:=zh K;have m:=zh W;by_cases a4:k<N
   ·have ai:decide ((k:Int)<(N:Int))=true:=by simp;omega
    have a3:k<i.length:=by rw[HN.o];exact a4
    have G:k<o.length:=by rw[← b.o];exact a4
    obtain⟨g,gc,a2,_,aj,_,a1⟩:=ac.o.row (by rw[HN.o];omega);have al:pa=some ⟨g,0,none⟩:=by injection a2
    subst al;obtain⟨⟨rb,ro,am,an,_⟩,B⟩:=ae.o.2 k a3;have ck:wr.cell? ⟨g,k,none⟩=some (i.getD k sl0).v:=(W.cell (p:=⟨g,k,none⟩) aj).trans (a1 k a3);unfold disk.Sli.v at ck;have ab:Hid (zC 82 #[.slice (i.getD k sl0).a (i.getD k sl0).n (i.getD k sl0).c] wr λe w'=>DecPost wr (o.getD k []) e w'):=book.rdecoded _ _ _ _ wr (B.below W) (λy hy=>HW.o y (rep_in r.o _ (getD_inR G) y hy));clear I K W a1 B am an a2;generalize (i.getD k sl0).a=sa at *;generalize (i.getD k sl0).n=sn at *;generalize (i.getD k sl0).c=sc at *;have ah:=zh (take_mapE o k G);have ao:((o.take k).map evOf).length≤1000000:=by rw[List.length_map,List.length_take];omega
    generalize (o.take k).map evOf=Z at *;go_wp2_with fail;refine ab.o.mono ?_;rintro e M ⟨v,f2,rfl,hd,s⟩;unfold book.Ev.v;have HX:=zye M #[zI v.kd,zI v.me,zI v.mo,zI v.id,zI v.te,zI v.de,zI v.fe,zI v.pr,zI v.ch,zI v.un,zI v.tg,zI v.ow,zI v.bp] 44;have O:Hid (zB l (M.alloc (.cells #[zI v.kd,zI v.me,zI v.mo,zI v.id,zI v.te,zI v.de,zI v.fe,zI v.pr,zI v.ch,zI v.un,zI v.tg,zI v.ow,zI v.bp] 44))):=(m.o.trans (s.mono m.o.size)).alloc (Nat.le_trans m.o.size s.size) _;have ad:Hid (book.Le (M.alloc (.cells #[zI v.kd,zI v.me,zI v.mo,zI v.id,zI v.te,zI v.de,zI v.fe,zI v.pr,zI v.ch,zI v.un,zI v.tg,zI v.ow,zI v.bp] 44)) l.heap.size U Z):=(R.o.next s).alloc _;have HD:=zh hd;have ap:=(Blk.new M #[zI v.kd,zI v.me,zI v.mo,zI v.id,zI v.te,zI v.de,zI v.fe,zI v.pr,zI v.ch,zI v.un,zI v.tg,zI v.ow,zI v.bp] 44).lt;clear hd s ck;go_upto_region 9 with fail
    generalize (M.alloc (.cells #[zI v.kd,zI v.me,zI v.mo,zI v.id,zI v.te,zI v.de,zI v.fe,zI v.pr,zI v.ch,zI v.un,zI v.tg,zI v.ow,zI v.bp] 44))=W3 at *;generalize M.heap.size=gx at *;by_cases T:f2=0
    ·subst T;obtain⟨Y,a5⟩:=dec_ok HD.o;have HV:=zh a5.symm
     have S:Hid (∀j,j<k+1→DecOk (o.getD j [])):=λj F=>by
      by_cases e:j=k
      ·subst e;exact Y
      ·exact q.o j (by omega)
     have a9:Hid (Blk (W3.alloc (.cells #[zI v.kd,zI v.me,zI v.mo,zI v.id,zI v.te,zI v.de,zI v.fe,zI v.pr,zI v.ch,zI v.un,zI v.tg,zI v.ow,zI v.bp] 44)) W3.heap.size v.cl.toArray 44):=Blk.new W3 _ _;have Q:Hid (book.Le (W3.alloc (.cells #[zI v.kd,zI v.me,zI v.mo,zI v.id,zI v.te,zI v.de,zI v.fe,zI v.pr,zI v.ch,zI v.un,zI v.tg,zI v.ow,zI v.bp] 44)) l.heap.size U Z):=ad.o.alloc _;have C:=zyf O (.cells #[zI v.kd,zI v.me,zI v.mo,zI v.id,zI v.te,zI v.de,zI v.fe,zI v.pr,zI v.ch,zI v.un,zI v.tg,zI v.ow,zI v.bp] 44);clear Y a5;go_wp2_with (first|refine zw ?_|(at_builtin;refine book.wp_ev rfl _ _ rfl l.heap.size W3.heap.size U Z v rfl rfl Q.o a9.o ao C.o.size ?_))
     intro v3 w3 h3 a0;have a8:Hid (zB l w3):=tar.own_bel Q.o a0 C.o zc C.o.size;have H3:=zh h3;clear h3 a0;go_wp2_with fail;go_roundw
     case rel=>exact⟨k+1,v3,by omega,by go_num,by first|rfl|trivial,by rw[← ah.o,HV.o];exact H3.o,S.o,a8.o⟩
     case measure=>simp[intOf];omega
    ·have d2:(f2 != 0)=true:=by simpa using T
     have P:Hid (KeptIs c [] f2):=⟨o,x,0,r.o,.inr (.inr ⟨rfl,T,rfl,k,G,q.o,by have:=dec_no HD.o T;rw[← this];exact HD.o⟩)⟩
     have D:=zh (d.o.trans (O.o.mono d.o.size));clear T;go_wp2_with fail;go_ret2;exact⟨none,0,0,[],f2,rfl,P.o,ecame_nil _,Nat.zero_le _,D.o⟩
   ·obtain rfl:k=N:=by omega
    have ai:decide ((k:Int)<(k:Int))=false:=by simp
    have ag:Hid (o.take k=o):=List.take_of_length_le (by rw[← b.o];exact zc);have P:Hid (KeptIs c (o.map evOf) 0):=⟨o,x,0,r.o,.inr (.inl ⟨rfl,λj F=>q.o j (by rw[b.o];exact F),rfl,rfl⟩)⟩
    have a7:∀v∈o.map evOf,book.wf13 v:=λv hv=>by
     obtain⟨z,hz,rfl⟩:=List.mem_map.1 hv;obtain⟨j,F,rfl⟩:=List.mem_iff_getElem.1 hz;have e:o.getD j []=o[j]:=by simp[List.getD,List.getElem?_eq_getElem F]
     have:=q.o j (by rw[b.o];exact F);rw[e] at this;exact book.wf_may this.2
    have H:=R.o;rw[ag.o] at H;obtain⟨pz,cz,a6,E⟩:=H.came (by rw[List.length_map,← b.o];omega) a7;have A:(o.map evOf).length=k:=by rw[List.length_map];exact b.o.symm
    rw[A] at a6 E;subst a6;have aa:=zh E;have D:=zh (d.o.trans (m.o.mono d.o.size));clear I K W H E a7 A;go_wp2_with fail;go_ret2;exact⟨pz,k,cz,_,0,rfl,P.o,aa.o,ak,D.o⟩
 ·have d0:(f != 0)=true:=by simpa using h0
  have P:Hid (KeptIs c [] f):=⟨o,x,f,r.o,.inl ⟨h0,rfl,rfl⟩⟩
  clear h0;go_wp2_with fail;go_ret2;exact⟨none,0,0,[],f,rfl,P.o,ecame_nil _,Nat.zero_le _,d.o⟩
end vnd
namespace token
open words
open Go.RowKit
theorem words_no(c i a t:Int)(w:World)(ht:TTab w)(h:flawT c i a t≠0):
  Calls Tryz.prog 78 #[.agg #[zI c,zI i,zI a,zI t]] w λe w'=>e=.returned (.tuple #[.agg #[.int .u32 0,.int .u32 0,.int .u32 0],zI (flawT c i a t)])∧zB w w':=by
 have p:Hid (∀W,TTab W→zC 111 #[.agg #[zI c,zI i,zI a,zI t]] W λe w'=>e=.returned (zI (flawT c i a t))∧zB W w'):=λW y=>flaw_any c i a t W y;have C:(flawT c i a t != 0)=true:=by simpa using h
 have d:zB w ((w.alloc (.cells #[zI c,zI i,zI a,zI t] 73)).alloc (.cells #[.int .u32 0,.int .u32 0,.int .u32 0] 135)):=(bel_box _ _).alloc (by simp) _;have n:Hid (zB w ((w.alloc (.cells #[zI c,zI i,zI a,zI t] 73)).alloc (.cells #[.int .u32 0,.int .u32 0,.int .u32 0] 135))):=d;have q:Hid (TTab ((w.alloc (.cells #[zI c,zI i,zI a,zI t] 73)).alloc (.cells #[.int .u32 0,.int .u32 0,.int .u32 0] 135))):=ht.below d;have r:Hid (Blk ((w.alloc (.cells #[zI c,zI i,zI a,zI t] 73)).alloc (.cells #[.int .u32 0,.int .u32 0,.int .u32 0] 135)) (w.heap.size+1) #[.int .u32 0,.int .u32 0,.int .u32 0] 135):=Blk.new1 _ _ _ _;clear ht h d;generalize flawT c i a t=f at *;go_enter Tryz.func78,Tryz.ntmps78;go_wp2_with fail;refine(p.o _ q.o).mono ?_;rintro e m ⟨rfl,g⟩;have b:=r.o.next g;have j:=bel_step n.o g;have l:Hid (zB w (((m.setCell ⟨w.heap.size+1,0,none⟩ (.int .u32 0)).setCell ⟨w.heap.size+1,1,none⟩ (.int .u32 0)).setCell ⟨w.heap.size+1,2,none⟩ (.int .u32 0))):=bel_set (bel_set (bel_set j _ _ _ (by omega)) _ _ _ (by omega)) _ _ _ (by omega);have k:Blk (((m.setCell ⟨w.heap.size+1,0,none⟩ (.int .u32 0)).setCell ⟨w.heap.size+1,1,none⟩ (.int .u32 0)).setCell ⟨w.heap.size+1,2,none⟩ (.int .u32 0)) (w.heap.size+1) #[.int .u32 0,.int .u32 0,.int .u32 0] 135:=((b.set 0 _).set 1 _).set 2 _;have s:Hid (_=_):=k.cell 0;have u:Hid (_=_):=k.cell 1;have x:Hid (_=_):=k.cell 2;have D:=b.cell 0;have E:=b.cell 1;have F:=b.cell 2;have z:=b.free 0;have A:=b.free 1;have B:=b.free 2;clear g b k j;go_wp2_with fail;refine bodyPost_ret (v:=.tuple #[.agg #[.int .u32 0,.int .u32 0,.int .u32 0],zI f]) (by simp[results,Tryz.results78,s.o,u.o,x.o,go_sem]) rfl ⟨rfl,l.o⟩
def WordsPost(w:World)(k:Tok)(e:Ending)(w':World):Prop:=∃a b c:Nat,e=.returned (.tuple #[.agg #[.int .u32 (a:Int),.int .u32 (b:Int),.int .u32 (c:Int)],zI 0])∧WN a b c (k.num*97)∧zB w w'
theorem words_ok(k:Tok)(w:World)(ht:TTab w)(hk:k.ok):
  Calls Tryz.prog 78 #[k.v] w λe w'=>WordsPost w k e w':=by
 have M:Hid (∀W,TTab W→zC 111 #[.agg #[zI (k.c:Int),zI (k.i:Int),zI (k.a:Int),zI (k.t:Int)]] W λe w'=>e=.returned (zI 0)∧zB W w'):=λW r=>by
  have:=flaw_any k.c k.i k.a k.t W r
  rwa [flaw_tok.2 hk] at this
 have O:Hid (∀W,TTab W→zC 113 #[.agg #[zI (k.c:Int),zI (k.i:Int),zI (k.a:Int),zI (k.t:Int)]] W λe w'=>PackPost W k e w'):=λW r=>pack_any k W hk r
 have P:Hid (∀(x y z:Nat) W,WN x y z k.num→zC 124 #[.agg #[.int .u32 (x:Int),.int .u32 (y:Int),.int .u32 (z:Int)],.int .u32 97] W λe w'=>∃(d f g:Nat)(o:Int),e=.returned (.tuple #[.agg #[.int .u32 (d:Int),.int .u32 (f:Int),.int .u32 (g:Int)],.int .u32 o])∧WN d f g (k.num*97)∧zB W w'):=λx y z W r=>
  times_wn x y z k.num 97 W r (by omega) (by have:=num_bd hk;omega)
 have m:zB w ((w.alloc (.cells #[zI (k.c:Int),zI (k.i:Int),zI (k.a:Int),zI (k.t:Int)] 73)).alloc (.cells #[.int .u32 0,.int .u32 0,.int .u32 0] 135)):=(bel_box _ _).alloc (by simp) _;have L:Hid (zB w ((w.alloc (.cells #[zI (k.c:Int),zI (k.i:Int),zI (k.a:Int),zI (k.t:Int)] 73)).alloc (.cells #[.int .u32 0,.int .u32 0,.int .u32 0] 135))):=m;have G:Hid (TTab ((w.alloc (.cells #[zI (k.c:Int),zI (k.i:Int),zI (k.a:Int),zI (k.t:Int)] 73)).alloc (.cells #[.int .u32 0,.int .u32 0,.int .u32 0] 135))):=ht.below m;have Q:Hid (Blk ((w.alloc (.cells #[zI (k.c:Int),zI (k.i:Int),zI (k.a:Int),zI (k.t:Int)] 73)).alloc (.cells #[.int .u32 0,.int .u32 0,.int .u32 0] 135)) (w.heap.size+1) #[.int .u32 0,.int .u32 0,.int .u32 0] 135):=Blk.new1 _ _ _ _;have R:Hid (Blk ((w.alloc (.cells #[zI (k.c:Int),zI (k.i:Int),zI (k.a:Int),zI (k.t:Int)] 73)).alloc (.cells #[.int .u32 0,.int .u32 0,.int .u32 0] 135)) w.heap.size #[zI (k.c:Int),zI (k.i:Int),zI (k.a:Int),zI (k.t:Int)] 73):=(Blk.new _ _ _).alloc _;clear ht hk m;unfold Tok.v;go_enter Tryz.func78,Tryz.ntmps78;go_wp2_with fail;refine(M.o _ G.o).mono ?_;rintro e V ⟨rfl,h⟩;have A:=shB L h;have F:Hid (TTab V):=G.o.below h;have D:=shN Q h;have s:=R.o.next h;have I:=s.cell 0;have J:=s.cell 1;have K:=s.cell 2;have X:=s.cell 3;clear h s;go_wp2_with fail;refine(O.o _ F.o).mono ?_;rintro e w2 ⟨x,y,z,rfl,j,n⟩;have p:=shB A n;have E:=shN D n;have N:Hid (WN x y z k.num):=j;clear n j I J K X;go_wp2_with fail;refine(P.o _ _ _ _ N.o).mono ?_;rintro e H ⟨d,f,g,o,rfl,j,l⟩;have q:=(bel_step p.o l).alloc (bel_step p.o l).size (.cells #[.int .u32 (d:Int),.int .u32 (f:Int),.int .u32 (g:Int)] 135);have b:=(E.o.next l).alloc (.cells #[.int .u32 (d:Int),.int .u32 (f:Int),.int .u32 (g:Int)] 135)
 have C:Hid (WN d f g (k.num*97)):=j;clear l j;have B:Hid (zB w ((((H.alloc (.cells #[.int .u32 (d:Int),.int .u32 (f:Int),.int .u32 (g:Int)] 135)).setCell ⟨w.heap.size+1,0,none⟩ (.int .u32 (d:Int))).setCell ⟨w.heap.size+1,1,none⟩ (.int .u32 (f:Int))).setCell ⟨w.heap.size+1,2,none⟩ (.int .u32 (g:Int)))):=bel_set (bel_set (bel_set q _ _ _ (by omega)) _ _ _ (by omega)) _ _ _ (by omega);have u:Blk ((((H.alloc (.cells #[.int .u32 (d:Int),.int .u32 (f:Int),.int .u32 (g:Int)] 135)).setCell ⟨w.heap.size+1,0,none⟩ (.int .u32 (d:Int))).setCell ⟨w.heap.size+1,1,none⟩ (.int .u32 (f:Int))).setCell ⟨w.heap.size+1,2,none⟩ (.int .u32 (g:Int))) (w.heap.size+1) #[.int .u32 (d:Int),.int .u32 (f:Int),.int .u32 (g:Int)] 135:=((b.set 0 _).set 1 _).set 2 _;have S:Hid (_=_):=u.cell 0;have T:Hid (_=_):=u.cell 1;have U:Hid (_=_):=u.cell 2;have I:=b.cell 0;have J:=b.cell 1;have K:=b.cell 2;have Y:=b.free 0;have Z:=b.free 1;have f2:=b.free 2;clear u b q;go_wp2_with fail;refine bodyPost_ret (v:=.tuple #[.agg #[.int .u32 (d:Int),.int .u32 (f:Int),.int .u32 (g:Int)],zI 0]) (by simp[results,Tryz.results78,S.o,T.o,U.o,go_sem]) rfl ⟨d,f,g,rfl,C.o,B.o⟩
end token
namespace disk
open Go.RowKit cell
theorem make_wr(m:Nat)(h:m≤100000)(w:World):(Instr.makeSlice 31 (zI 0) (zI ((m:Int)+2))).run Tryz.prog w=.ok (.slice (some ⟨w.heap.size,0,none⟩) 0 (m+2)) (w.alloc (.cells (madeCells (Value.agg #[zI 0,.int .u32 0]).cells ((m+2)*2)) 85)):=by
 obtain⟨e,d,a,b,c⟩:=info_parts info_wr;have:=run_make (P:=Tryz.prog) w 31 85 e (.agg #[zI 0,.int .u32 0]) Tryz.underlying31 d a .i64 .i64 0 ((m:Int)+2) (by omega) (by omega) (by rw[c];omega) (by omega);rw[b,show ((m:Int)+2).toNat=m+2 by omega] at this;exact this
theorem put_next2(p k:Nat)(r:List Int):putW p r k++[⟨(p:Int)+1+(k:Int),r.getD k 0⟩]=putW p r (k+1):=by
 rw[putW,show ((p+k+1:Nat):Int)=(p:Int)+1+(k:Int) by omega]
theorem app_yes2{c:List Int}{p k:Nat}{r:List Int}(hk:r.length=k)(h:p+k+1<c.length):putW p r k++[⟨(p:Int)+1+(k:Int),0⟩]++[⟨(p:Int),(k:Int)⟩]=appW c p r:=by
 subst hk;rw[← app_yes h,show (p:Int)+1+(r.length:Int)=(p:Int)+(r.length:Int)+1 by omega]
theorem app_no2{c:List Int}{p k:Nat}{r:List Int}(hk:r.length=k)(h:¬ p+k+1<c.length):putW p r k++[⟨(p:Int),(k:Int)⟩]=appW c p r:=by
 subst hk;exact app_no h
theorem laying_any(a:Option Addr)(m cap2:Nat)(r c:List Int)(p n:Nat)(w:World)(h:RowU w a m r)(h1:1≤m)(h2:m≤64)(hp:p≤2048)(hn:n≤2048)(hc:c.length=n):
  Calls Tryz.prog 123 #[.slice a m cap2,zI (p:Int),zI (n:Int)] w λe w'=>∃V,e=.returned V∧Lw w' w.heap.size V (appW c p r)∧zB w w':=by
 obtain⟨b,o,rfl,X,E⟩:=h.at (by omega);have O:Hid (∀W,zB w W→∀j,j<m→W.cell? ⟨b,o+j,none⟩=some (.int .u32 (r.getD j 0))):=λW Y j hj=>(Y.cell (p:=⟨b,o+j,none⟩) X).trans (E j hj);have I:Hid (c.length=n∧r.length=m):=⟨hc,h.1⟩
 have T:=make_wr m (by omega) w;have P:Hid (Lw (w.alloc (.cells (madeCells (Value.agg #[zI 0,.int .u32 0]).cells ((m+2)*2)) 85)) w.heap.size (.slice (some ⟨w.heap.size,0,none⟩) 0 (m+2)) []):=World.ownsRow_made w _ (m+2) zc (by unfold maxLen;omega) (size_madeCells _ _);have L:Hid (zB w (w.alloc (.cells (madeCells (Value.agg #[zI 0,.int .u32 0]).cells ((m+2)*2)) 85))):=zb.alloc zc _;clear h hc E X;generalize (w.alloc (.cells (madeCells (Value.agg #[zI 0,.int .u32 0]).cells ((m+2)*2)) 85))=W0 at *;go_enter Tryz.func123,Tryz.ntmps123;go_wp2_with fail;clear T;go_loopw [7,8,19] (λv7 v8 A wr=>∃(k:Nat)(V:Value),k≤m∧V=v7∧v8=zI ((p:Int)+1+(k:Int))∧A=zI (k:Int)∧Lw wr w.heap.size V (putW p r k)∧zB w wr) (λ_ _ A _=>m-(intOf A).toNat)
 case atStart=>exact⟨0,_,Nat.zero_le _,rfl,by go_num,rfl,P.o,L.o⟩
 case round=>
  obtain⟨k,V,hk,Z,rfl,rfl,F,q⟩:=hrel;subst Z;have N:Hid (zB w wr):=q;have z:(putW p r k).length≤1000000:=by rw[put_len];omega
  have l:Hid (∀o,Lw (wr.alloc o) w.heap.size V (putW p r k)):=λo=>F.alloc o;have y:Hid (∀o,zB w (wr.alloc o)):=λo=>q.alloc q.size o;have i:Hid (∀o,w.heap.size≤(wr.alloc o).heap.size):=λo=>(q.alloc q.size o).size;clear F q;by_cases S:k<m
  ·have k2:=O.o wr N.o k S;have Q:Hid (putW p r k++[⟨(p:Int)+1+(k:Int),r.getD k 0⟩]=putW p r (k+1)):=put_next2 p k r;generalize r.getD k 0=u at *;go_wp2_with (first|(refine wp_write rfl _ _ rfl w.heap.size wr.heap.size V (putW p r k) ⟨(p:Int)+1+(k:Int),u⟩ rfl rfl (l.o _) ⟨(Blk.new wr _ _).cell 0,(Blk.new wr _ _).cell 1⟩ z (i.o _) ?_;intro B t s f;have d:=own_bel (l.o _) f (y.o _) zc (i.o _);have J:Hid (Lw t w.heap.size B (putW p r k++[(⟨(p:Int)+1+(k:Int),u⟩:Wr)])):=s;have g:Hid (zB w t):=d;clear s f d)|fail)
   go_roundw
   case rel=>exact⟨k+1,B,by omega,rfl,by go_num,by go_num,by rw[← Q.o];exact J.o,g.o⟩
   case measure=>simp[intOf];omega
  ·obtain rfl:k=m:=by omega
   by_cases hz:(p:Int)+1+(k:Int)<(n:Int)
   ·have R:Hid (putW p r k++[⟨(p:Int)+1+(k:Int),0⟩]++[⟨(p:Int),(k:Int)⟩]=appW c p r):=app_yes2 I.o.2 (by rw[I.o.1];omega);have U:(putW p r k++[(⟨(p:Int)+1+(k:Int),0⟩:Wr)]).length≤1000000:=by rw[List.length_append,put_len];simp;omega
    go_upto_region 11 with(first|(refine wp_write rfl _ _ rfl w.heap.size wr.heap.size V (putW p r k) ⟨(p:Int)+1+(k:Int),0⟩ rfl rfl (l.o _) ⟨(Blk.new wr _ _).cell 0,(Blk.new wr _ _).cell 1⟩ z (i.o _) ?_;intro B t s f;have d:=own_bel (l.o _) f (y.o _) zc (i.o _);have J:Hid (Lw t w.heap.size B (putW p r k++[(⟨(p:Int)+1+(k:Int),0⟩:Wr)])):=s;have g:Hid (zB w t):=d;clear s f d)|fail)
    have D:Hid (∀o,Lw (t.alloc o) w.heap.size B (putW p r k++[(⟨(p:Int)+1+(k:Int),0⟩:Wr)])):=λo=>J.o.alloc o;have M:Hid (∀o,zB w (t.alloc o)):=λo=>g.o.alloc g.o.size o;have C:Hid (∀o,w.heap.size≤(t.alloc o).heap.size):=λo=>(g.o.alloc g.o.size o).size;go_wp2_with (first|(refine wp_write rfl _ _ rfl w.heap.size t.heap.size B (putW p r k++[(⟨(p:Int)+1+(k:Int),0⟩:Wr)]) ⟨(p:Int),(k:Int)⟩ rfl rfl (D.o _) ⟨(Blk.new t _ _).cell 0,(Blk.new t _ _).cell 1⟩ U (C.o _) ?_;intro G H s f;have d:=own_bel (D.o _) f (M.o _) zc (C.o _);have K:Hid (Lw H w.heap.size G (putW p r k++[(⟨(p:Int)+1+(k:Int),0⟩:Wr)]++[(⟨(p:Int),(k:Int)⟩:Wr)])):=s;have x:Hid (zB w H):=d;clear s f d)|fail)
    go_ret;exact⟨G,rfl,by rw[← R.o];exact K.o,x.o⟩
   ·have R:Hid (putW p r k++[⟨(p:Int),(k:Int)⟩]=appW c p r):=app_no2 I.o.2 (by rw[I.o.1];omega);go_wp2_with (first|(refine wp_write rfl _ _ rfl w.heap.size wr.heap.size V (putW p r k) ⟨(p:Int),(k:Int)⟩ rfl rfl (l.o _) ⟨(Blk.new wr _ _).cell 0,(Blk.new wr _ _).cell 1⟩ z (i.o _) ?_;intro G H s f;have d:=own_bel (l.o _) f (y.o _) zc (i.o _);have K:Hid (Lw H w.heap.size G (putW p r k++[(⟨(p:Int),(k:Int)⟩:Wr)])):=s;have x:Hid (zB w H):=d;clear s f d)|fail)
    go_ret;exact⟨G,rfl,by rw[← R.o];exact K.o,x.o⟩
end disk
namespace token
open words
open Go.RowKit
theorem str_list(ns:List Int):(strOf ns).data.toList=ns.map byt:=by
 have h:∀(ns:List Int)(r:ByteArray),(ns.foldl (λr n=>r.push (UInt8.ofNat n.toNat)) r).data.toList=r.data.toList++ns.map byt:=by
  intro ns
  induction ns with
  |nil=>intro r;simp
  |cons x l ih=>intro r;rw[List.foldl_cons,ih];simp[ByteArray.push,byt]
 have:=h ns ByteArray.empty;simpa [strOf] using this
theorem str_size(ns:List Int):(strOf ns).size=ns.length:=by
 rw[← check.len_eq,str_list];simp
theorem rep_list(n:Nat):Lib.repeatL [48] n=List.replicate n 48:=by
 induction n with
 |zero=>rfl
 |succ n ih=>rw[Lib.repeatL,ih];rfl
theorem bytes_ext{a b:ByteArray}(h:a.data.toList=b.data.toList):a=b:=by
 cases a;cases b;congr 1;exact Array.toList_inj.1 h
theorem pad_fmt(V n:Nat)(h:n+(decL V).length=20):(⟨(Lib.repeatL [48] n).toArray⟩:ByteArray)++strOf (decL V)=fmtB V:=by
 apply bytes_ext;rw[fmtB_list,show ((⟨(Lib.repeatL [48] n).toArray⟩:ByteArray)++strOf (decL V)).data.toList=Lib.repeatL [48] n++(strOf (decL V)).data.toList by simp,str_list,rep_list];unfold fmtL;rw[show 20-(decL V).length=n by omega]
theorem show_wn(a b c V:Nat)(w:World)(h:WN a b c V):
  Calls Tryz.prog 79 #[.agg #[.int .u32 (a:Int),.int .u32 (b:Int),.int .u32 (c:Int)]] w λe w'=>e=.returned (.string (strOf (decL V)))∧zB w w':=by
 have d:=wn_ok h;have:=show_any ⟨a,b,c⟩ w d.1
 rwa [d.2,Int.toNat_natCast] at this
theorem format_ok(k:Tok)(w:World)(ht:TTab w)(hk:k.ok):
  Calls Tryz.prog 41 #[k.v] w λe w'=>e=.returned (.tuple #[.string (fmtB (97*k.num)),zI 0])∧zB w w':=by
 have B:Hid (∀W,TTab W→zC 78 #[.agg #[zI (k.c:Int),zI (k.i:Int),zI (k.a:Int),zI (k.t:Int)]] W λe w'=>WordsPost W k e w'):=λW u=>words_ok k W u hk;have y:=num_bd hk;have x:=dec_len20 (V:=k.num*97) (by omega);have h:=str_size (decL (k.num*97));have s:Hid (∀(a b c:Nat) W,WN a b c (k.num*97)→zC 79 #[.agg #[.int .u32 (a:Int),.int .u32 (b:Int),.int .u32 (c:Int)]] W λe w'=>e=.returned (.string (strOf (decL (k.num*97))))∧zB W w'):=λa b c W u=>show_wn a b c _ W u;obtain⟨n,hn⟩:∃n:Nat,n+(decL (k.num*97)).length=20:=⟨20-(decL (k.num*97)).length,by omega⟩
 have r:Hid (∀W,zC 80 #[.string ⟨#[48]⟩,zI (n:Int)] W λe w'=>e=.returned (.string ⟨(Lib.repeatL [48] n).toArray⟩)∧zB W w'):=λW=>Tryz.strings_Repeat ⟨#[48]⟩ n W (by omega) (by show 1*n≤_;omega)
 have F:Hid ((⟨(Lib.repeatL [48] n).toArray⟩:ByteArray)++strOf (decL (k.num*97))=fmtB (97*k.num)):=by
  show _=_;rw[pad_fmt _ _ hn,Nat.mul_comm]
 have H:(⟨(Lib.repeatL [48] n).toArray⟩:ByteArray).size=n:=by
  show (Lib.repeatL [48] n).toArray.size=n;rw[rep_list];simp
 have C:Hid (TTab (w.alloc (.cells #[zI (k.c:Int),zI (k.i:Int),zI (k.a:Int),zI (k.t:Int)] 73))):=ht.below (bel_box _ _);have z:Hid (zB w (w.alloc (.cells #[zI (k.c:Int),zI (k.i:Int),zI (k.a:Int),zI (k.t:Int)] 73))):=bel_box _ _;rw[← h] at hn x;clear ht hk y h;generalize strOf (decL (k.num*97))=D at *;generalize (⟨(Lib.repeatL [48] n).toArray⟩:ByteArray)=Z at *;have G:(20:Int)-(D.size:Int)=(n:Int):=by omega
 unfold Tok.v;go_enter Tryz.func41,Tryz.ntmps41;go_wp2_with fail;refine(B.o _ C.o).mono ?_;rintro e A ⟨a,b,c,rfl,j,d⟩;have l:=Blk.new A #[.int .u32 (a:Int),.int .u32 (b:Int),.int .u32 (c:Int)] 135;have m:Hid (zB w (A.alloc (.cells #[.int .u32 (a:Int),.int .u32 (b:Int),.int .u32 (c:Int)] 135))):=(bel_step z.o d).alloc (bel_step z.o d).size _;have E:Hid (WN a b c (k.num*97)):=j;have c0:=l.cell 0;have c1:=l.cell 1;have c2:=l.cell 2;clear d j l;go_wp2_with fail;refine(s.o _ _ _ _ E.o).mono ?_;rintro e I ⟨rfl,f⟩;have p:=shB m f;clear f c0 c1 c2;go_wp2_with fail;refine(r.o _).mono ?_;rintro e J ⟨rfl,g⟩;have q:=shB p g;clear g;go_wp2_with fail;refine bodyPost_ret (v:=.tuple #[.string (Z++D),zI 0]) (by simp[results,Tryz.results41,go_sem]) rfl ⟨by rw[F.o],q.o⟩
end token
end Go.Proofs.YtoepgdhiepedeaaGreatDoor
