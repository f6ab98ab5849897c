import Derived.Test.YtoepgdhiepedeaaGreatDoorVVRys41
set_option linter.unusedVariables false
set_option linter.unusedSimpArgs false
set_option maxHeartbeats 4000000
set_option maxRecDepth 100000
namespace Go.Proofs.YtoepgdhiepedeaaGreatDoor
namespace book
open Go.RowKit cell
theorem kdec:KDec:=by
 intro w a n h l U a9 ac T i;have ad:∀(fn:Fn)(first h:Array Value)(w:World),(Instr.makeFunc fn first h).run Tryz.prog w=.ok (.func fn first h) w:=λ_ _ _ _=>rfl;have x:=zh U.1;have a3:Hid (Blk ((w.alloc (.cells #[zI 0,zI 0,zI 0,zI 0,zI 0,zI 0,zI 0,zI 0,zI 0,zI 0,zI 0,zI 0,zI 0] 44)).alloc (.cells #[zI 0] 36)) w.heap.size #[zI 0,zI 0,zI 0,zI 0,zI 0,zI 0,zI 0,zI 0,zI 0,zI 0,zI 0,zI 0,zI 0] 44):=(Blk.new _ _ _).alloc _;have u:Hid (Blk ((w.alloc (.cells #[zI 0,zI 0,zI 0,zI 0,zI 0,zI 0,zI 0,zI 0,zI 0,zI 0,zI 0,zI 0,zI 0] 44)).alloc (.cells #[zI 0] 36)) (w.heap.size+1) #[zI 0] 36):=Blk.new1 _ _ _ _;have q:Hid (zB w ((w.alloc (.cells #[zI 0,zI 0,zI 0,zI 0,zI 0,zI 0,zI 0,zI 0,zI 0,zI 0,zI 0,zI 0,zI 0] 44)).alloc (.cells #[zI 0] 36))):=(zb.alloc zc _).alloc (by simp) _;by_cases hn:n=13
 case neg=>
  have nn:((n:Int) != 13)=true:=by simp;omega
  have a2:Hid (l.length≠13):=by show _≠_;rw[x.o];exact hn
  clear hn U i;go_enter_defers Tryz.func105,Tryz.ntmps105;go_upto_region 2 with fail
  generalize ((w.alloc (.cells #[zI 0,zI 0,zI 0,zI 0,zI 0,zI 0,zI 0,zI 0,zI 0,zI 0,zI 0,zI 0,zI 0] 44)).alloc (.cells #[zI 0] 36))=W1 at *;go_wp2_with refine zs ?_;intro r c;have y:=zyb c;have E:=zk1 c u;have s:Hid (zB w r):=c.bel _ _ zc q.o;clear c;go_wp2_with refine zl ?_;intro W3 c;have a4:=zk1 c y;have p:=zx0 c;have V:=zk c s;clear c;go_wp2_with fail;obtain⟨I,J,K,L,M,N,O,P,Q,R,j,k,m⟩:=scl13 a4;show Leaves _ _ _ _ [] .returning W3;refine⟨.tuple #[.agg #[zI 0,zI 0,zI 0,zI 0,zI 0,zI 0,zI 0,zI 0,zI 0,zI 0,zI 0,zI 0,zI 0],zI 1],by simp[results,Tryz.results105,I,J,K,L,M,N,O,P,Q,R,j,k,m,p,go_sem],?_⟩;exact⟨ev0,1,rfl,.inl ⟨a2.o,rfl,rfl⟩,V.o⟩
 subst hn;have G:Hid (∀W,zB w W→zC 151 #[.slice a 13 h] W λe w'=>e=.returned (evOf l).v∧zB W w'):=λW hB=>bevent a h l W (U.below hB) i;clear U i;obtain⟨v,hv⟩:∃v,v=evOf l:=⟨_,rfl⟩
 have z:=zh hv;rw[← hv] at G;clear hv;have a1:Hid (∀W,zC 119 #[.agg #[zI v.kd,zI v.me,zI v.mo,zI v.id,zI v.te,zI v.de,zI v.fe,zI v.pr,zI v.ch,zI v.un,zI v.tg,zI v.ow,zI v.bp]] W λe w'=>MustPost W v e w'):=λW=>bmust v W;have nn:(((13:Nat):Int) != 13)=false:=by decide
 go_enter_defers Tryz.func105,Tryz.ntmps105;go_upto_region 4 with fail
 generalize ((w.alloc (.cells #[zI 0,zI 0,zI 0,zI 0,zI 0,zI 0,zI 0,zI 0,zI 0,zI 0,zI 0,zI 0,zI 0] 44)).alloc (.cells #[zI 0] 36))=W1 at *;have HE:=G.o W1 q.o;have Z:=zh HE;go_wp2_with fail;refine Z.o.mono ?_;rintro e r ⟨rfl,d⟩;have y:Hid (Blk (r.alloc (.cells #[zI v.kd,zI v.me,zI v.mo,zI v.id,zI v.te,zI v.de,zI v.fe,zI v.pr,zI v.ch,zI v.un,zI v.tg,zI v.ow,zI v.bp] 44)) w.heap.size #[zI 0,zI 0,zI 0,zI 0,zI 0,zI 0,zI 0,zI 0,zI 0,zI 0,zI 0,zI 0,zI 0] 44):=(a3.o.next d).alloc _;have E:Hid (Blk (r.alloc (.cells #[zI v.kd,zI v.me,zI v.mo,zI v.id,zI v.te,zI v.de,zI v.fe,zI v.pr,zI v.ch,zI v.un,zI v.tg,zI v.ow,zI v.bp] 44)) (w.heap.size+1) #[zI 0] 36):=(u.o.next d).alloc _;have H:=zye r #[zI v.kd,zI v.me,zI v.mo,zI v.id,zI v.te,zI v.de,zI v.fe,zI v.pr,zI v.ch,zI v.un,zI v.tg,zI v.ow,zI v.bp] 44;have s:Hid (zB w (r.alloc (.cells #[zI v.kd,zI v.me,zI v.mo,zI v.id,zI v.te,zI v.de,zI v.fe,zI v.pr,zI v.ch,zI v.un,zI v.tg,zI v.ow,zI v.bp] 44))):=(bel_step q.o d).alloc (bel_step q.o d).size _;have ab:=zh (u.o.next d).lt;clear d;unfold Ev.v;go_upto_region 5 with fail
 generalize (r.alloc (.cells #[zI v.kd,zI v.me,zI v.mo,zI v.id,zI v.te,zI v.de,zI v.fe,zI v.pr,zI v.ch,zI v.un,zI v.tg,zI v.ow,zI v.bp] 44))=W3 at *;generalize r.heap.size=g at *;obtain⟨c0,c1,c2,c3,c4,c5,c6,c7,c8,c9,A,B,C⟩:=scl13 H;go_wp2_with fail;refine(a1.o _).mono ?_;rintro e W4 ⟨i,d⟩;obtain⟨a5,F,a8⟩:=zn3 d y E H;have D:=shB s d;clear d c0 c1 c2 c3 c4 c5 c6 c7 c8 c9 A B C;rcases i with⟨i,rfl⟩|⟨i,rfl⟩
 ·have HY:=zh i;clear i;obtain⟨c0,c1,c2,c3,c4,c5,c6,c7,c8,c9,A,B,C⟩:=scl13 a8;go_wp2_with refine zs ?_;intro W5 c;have a6:=zyb c;have aa:=zk1 c F;have X:Hid (zB w W5):=c.bel _ _ zc D.o;clear c c0 c1 c2 c3 c4 c5 c6 c7 c8 c9 A B C;go_wp2_with refine zl ?_;intro W6 c;have a7:=zk1 c a6;have Y:=zk c X;have a0:=zyb c;clear c;go_wp2_with fail;refine leaves_cons (f:=150) (args:=#[.pointer (some ⟨w.heap.size+1,0,none⟩)]) (by simp) (by simp[go_sem]) ?_;refine(decode_idle (w.heap.size+1) 0 _ a0.o).mono ?_;rintro e u' S ⟨rfl,hs,W,d,c⟩;have b:=c.keep (a7.o.next d) (by omega);have p:=zx0 c;have t:zB w S:=c.bel _ _ (by omega) (bel_step Y.o d);have I:=b.cell 0;have J:=b.cell 1;have K:=b.cell 2;have L:=b.cell 3;have M:=b.cell 4;have N:=b.cell 5;have O:=b.cell 6;have P:=b.cell 7;have Q:=b.cell 8;have R:=b.cell 9;have j:=b.cell 10;have k:=b.cell 11;have m:=b.cell 12;show Leaves _ _ _ _ [] (settle u') S;rw[hs];refine⟨.tuple #[.agg #[zI v.kd,zI v.me,zI v.mo,zI v.id,zI v.te,zI v.de,zI v.fe,zI v.pr,zI v.ch,zI v.un,zI v.tg,zI v.ow,zI v.bp],zI 0],by simp[results,Tryz.results105,I,J,K,L,M,N,O,P,Q,R,j,k,m,p,go_sem],?_⟩;exact⟨v,0,rfl,.inr (.inr ⟨x.o,by rw[← z.o];exact HY.o,z.o,rfl⟩),t⟩
 ·have HN:=zh i;clear i;refine leaves_cons (f:=150) (args:=#[.pointer (some ⟨w.heap.size+1,0,none⟩)]) (by simp) (by simp[go_sem]) ?_;refine(decode_caught (w.heap.size+1) 0 5 _ F.o).mono ?_;rintro e u' S ⟨rfl,hs,W,d,c⟩;have b:=c.keep (a5.o.next d) (by omega);have p:=zx0 c;have t:zB w S:=c.bel _ _ (by omega) (bel_step D.o d);have I:=b.cell 0;have J:=b.cell 1;have K:=b.cell 2;have L:=b.cell 3;have M:=b.cell 4;have N:=b.cell 5;have O:=b.cell 6;have P:=b.cell 7;have Q:=b.cell 8;have R:=b.cell 9;have j:=b.cell 10;have k:=b.cell 11;have m:=b.cell 12;show Leaves _ _ _ _ [] (settle u') S;rw[hs];refine⟨.tuple #[.agg #[zI 0,zI 0,zI 0,zI 0,zI 0,zI 0,zI 0,zI 0,zI 0,zI 0,zI 0,zI 0,zI 0],zI 5],by simp[results,Tryz.results105,I,J,K,L,M,N,O,P,Q,R,j,k,m,p,go_sem],?_⟩;exact⟨ev0,5,rfl,.inr (.inl ⟨x.o,by rw[← z.o];exact HN.o,rfl,rfl⟩),t⟩
end book
namespace vnd
open disk (RepIs AppIs)
open book (Ev ev0 EMay evL evOf EncIs DecIs Cm cm0 So so0 BookIs Sees ECame FirstAt NoneAt)
open acc (Ac Tm Bi TCame ACame)
open cell (Wr RowU)
open Go.RowKit
theorem info_ev:∃i,Tryz.prog.info? 44=some i∧i.zero=some (.agg #[zI 0,zI 0,zI 0,zI 0,zI 0,zI 0,zI 0,zI 0,zI 0,zI 0,zI 0,zI 0,zI 0])∧i.size=13∧i.bytes=104:=info_parts (by kernel_rfl)
theorem make_ev(N:Nat)(h:N≤100000)(w:World):(Instr.makeSlice 103 (zI 0) (zI (N:Int))).run Tryz.prog w=.ok (.slice (some ⟨w.heap.size,0,none⟩) 0 N) (w.alloc (.cells (madeCells (Value.agg #[zI 0,zI 0,zI 0,zI 0,zI 0,zI 0,zI 0,zI 0,zI 0,zI 0,zI 0,zI 0,zI 0]).cells (N*13)) 44)):=by
 obtain⟨e,d,a,b,c⟩:=info_ev;have:=run_make (P:=Tryz.prog) w 103 44 e (.agg #[zI 0,zI 0,zI 0,zI 0,zI 0,zI 0,zI 0,zI 0,zI 0,zI 0,zI 0,zI 0,zI 0]) Tryz.underlying103 d a .i64 .i64 0 (N:Int) (by omega) (by omega) (by rw[c];omega) (by omega);rw[b,show (N:Int).toNat=N by omega] at this;exact this
theorem pevents(a:Option Addr)(n cap:Nat)(c:List Int)(w:World)(h:Dk w a n cap c):Calls Tryz.prog 71 #[.slice a n cap] w λe w'=>KeptPost w c e w':=by
 have ad:=zh (disk.kreplay w a n cap c h.row h.nil h.room h.bytes h.wd);have HW:=zh h.wd;clear h;go_enter Tryz.func71,Tryz.ntmps71;go_wp2_with fail;refine ad.o.mono ?_;rintro e b ⟨ra,N,rc,o,x,f,rfl,t,hn,L,V⟩;have i:=zh V;have q:=zh L;have ac:=zh t;have d:=zh t.1;have aj:N≤2048:=by rw[← t.1];exact rep_len L
 clear t L V hn;by_cases h0:f=0
 ·subst h0;have ai:=make_ev N (by omega) b;have aa:Hid (book.Le (b.alloc (.cells (madeCells (Value.agg #[zI 0,zI 0,zI 0,zI 0,zI 0,zI 0,zI 0,zI 0,zI 0,zI 0,zI 0,zI 0,zI 0]).cells (N*13)) 44)) b.heap.size (.slice (some ⟨b.heap.size,0,none⟩) 0 N) []):=World.ownsRow_made b _ N zc (by unfold maxLen;omega) (size_madeCells _ _);have a5:Hid (zB b (b.alloc (.cells (madeCells (Value.agg #[zI 0,zI 0,zI 0,zI 0,zI 0,zI 0,zI 0,zI 0,zI 0,zI 0,zI 0,zI 0,zI 0]).cells (N*13)) 44))):=zb.alloc zc _;generalize (b.alloc (.cells (madeCells (Value.agg #[zI 0,zI 0,zI 0,zI 0,zI 0,zI 0,zI 0,zI 0,zI 0,zI 0,zI 0,zI 0,zI 0]).cells (N*13)) 44))=W0 at *;go_wp2_with fail;clear ai;go_loopw [7,26] (λu z wr=>∃(k:Nat)(U:Value),k≤N∧z=zI (k:Int)∧U=u∧book.Le wr b.heap.size U ((o.take k).map evOf)∧(∀j,j<k→DecOk (o.getD j []))∧zB b wr) (λ_ z _=>N-(intOf z).toNat)
  case atStart=>exact⟨0,_,Nat.zero_le _,rfl,rfl,aa.o,(λj G=>absurd G (Nat.not_lt_zero _)),a5.o⟩
  case round=>
   obtain⟨k,U,hk,rfl,hU,J,K,T⟩:=hrel;subst hU;have R:=zh J;have m:=zh K;have l:=zh T;by_cases a0:k<N
   ·have ag:decide ((k:Int)<(N:Int))=true:=by simp;omega
    have H:k<o.length:=by rw[d.o];exact a0
    obtain⟨g,a4,rfl,_,ah,Y⟩:=ac.o.2.resolve_left (by omega);obtain⟨s,h1,A,E,_⟩:=Y k a0;have ck:wr.cell? ⟨g,a4+k,none⟩=some (.slice s.a s.n s.c):=(T.cell (p:=⟨g,a4+k,none⟩) ah).trans h1;have a9:Hid (zC 105 #[.slice s.a s.n s.c] wr λe w'=>book.DecGot wr (o.getD k []) e w'):=book.kdec wr s.a s.n s.c _ (A.below T) E.2.2 E.2.1 (by have:=E.1;omega) (λy hy=>HW.o y (rep_in q.o _ (getD_inR H) y hy));clear J K T Y h1 A E;generalize s.a=sa at *;generalize s.n=sn at *;generalize s.c=sc at *;have af:=zh (take_mapE o k H);have ak:((o.take k).map evOf).length≤1000000:=by rw[List.length_map,List.length_take];omega
    generalize (o.take k).map evOf=Z at *;go_wp2_with fail;refine a9.o.mono ?_;rintro e M ⟨v,f2,rfl,hd,r⟩;unfold book.Ev.v;have HX:=zye M #[zI v.kd,zI v.me,zI v.mo,zI v.id,zI v.te,zI v.de,zI v.fe,zI v.pr,zI v.ch,zI v.un,zI v.tg,zI v.ow,zI v.bp] 44;have O:Hid (zB b (M.alloc (.cells #[zI v.kd,zI v.me,zI v.mo,zI v.id,zI v.te,zI v.de,zI v.fe,zI v.pr,zI v.ch,zI v.un,zI v.tg,zI v.ow,zI v.bp] 44))):=(l.o.trans (r.mono l.o.size)).alloc (Nat.le_trans l.o.size r.size) _;have ab:Hid (book.Le (M.alloc (.cells #[zI v.kd,zI v.me,zI v.mo,zI v.id,zI v.te,zI v.de,zI v.fe,zI v.pr,zI v.ch,zI v.un,zI v.tg,zI v.ow,zI v.bp] 44)) b.heap.size U Z):=(R.o.next r).alloc _;have HD:=zh hd;have al:=(Blk.new M #[zI v.kd,zI v.me,zI v.mo,zI v.id,zI v.te,zI v.de,zI v.fe,zI v.pr,zI v.ch,zI v.un,zI v.tg,zI v.ow,zI v.bp] 44).lt;clear hd r ck;go_upto_region 9 with fail
    generalize (M.alloc (.cells #[zI v.kd,zI v.me,zI v.mo,zI v.id,zI v.te,zI v.de,zI v.fe,zI v.pr,zI v.ch,zI v.un,zI v.tg,zI v.ow,zI v.bp] 44))=W3 at *;generalize M.heap.size=gx at *;by_cases A:f2=0
    ·subst A;obtain⟨W,a1⟩:=dec_ok HD.o;have HV:=zh a1.symm
     have S:Hid (∀j,j<k+1→DecOk (o.getD j [])):=λj G=>by
      by_cases e:j=k
      ·subst e;exact W
      ·exact m.o j (by omega)
     have a7:Hid (Blk (W3.alloc (.cells #[zI v.kd,zI v.me,zI v.mo,zI v.id,zI v.te,zI v.de,zI v.fe,zI v.pr,zI v.ch,zI v.un,zI v.tg,zI v.ow,zI v.bp] 44)) W3.heap.size v.cl.toArray 44):=Blk.new W3 _ _;have Q:Hid (book.Le (W3.alloc (.cells #[zI v.kd,zI v.me,zI v.mo,zI v.id,zI v.te,zI v.de,zI v.fe,zI v.pr,zI v.ch,zI v.un,zI v.tg,zI v.ow,zI v.bp] 44)) b.heap.size U Z):=ab.o.alloc _;have C:=zyf O (.cells #[zI v.kd,zI v.me,zI v.mo,zI v.id,zI v.te,zI v.de,zI v.fe,zI v.pr,zI v.ch,zI v.un,zI v.tg,zI v.ow,zI v.bp] 44);clear W a1;go_wp2_with (first|refine zw ?_|(at_builtin;refine book.wp_ev rfl _ _ rfl b.heap.size W3.heap.size U Z v rfl rfl Q.o a7.o ak C.o.size ?_))
     intro v3 w3 E X;have a6:Hid (zB b w3):=tar.own_bel Q.o X C.o zc C.o.size;have H3:=zh E;clear E X;go_wp2_with fail;go_roundw
     case rel=>exact⟨k+1,v3,by omega,by go_num,by first|rfl|trivial,by rw[← af.o,HV.o];exact H3.o,S.o,a6.o⟩
     case measure=>simp[intOf];omega
    ·have d2:(f2 != 0)=true:=by simpa using A
     have P:Hid (KeptIs c [] f2):=⟨o,x,0,q.o,.inr (.inr ⟨rfl,A,rfl,k,H,m.o,by have:=dec_no HD.o A;rw[← this];exact HD.o⟩)⟩
     have D:=zh (i.o.trans (O.o.mono i.o.size));clear A;go_wp2_with fail;go_ret2;exact⟨none,0,0,[],f2,rfl,P.o,ecame_nil _,Nat.zero_le _,D.o⟩
   ·obtain rfl:k=N:=by omega
    have ag:decide ((k:Int)<(k:Int))=false:=by simp
    have ae:Hid (o.take k=o):=List.take_of_length_le (by rw[d.o];exact zc);have P:Hid (KeptIs c (o.map evOf) 0):=⟨o,x,0,q.o,.inr (.inl ⟨rfl,λj G=>m.o j (by rw[← d.o];exact G),rfl,rfl⟩)⟩
    have a3:∀v∈o.map evOf,book.wf13 v:=λv hv=>by
     obtain⟨z,hz,rfl⟩:=List.mem_map.1 hv;obtain⟨j,G,rfl⟩:=List.mem_iff_getElem.1 hz;have e:o.getD j []=o[j]:=by simp[List.getD,List.getElem?_eq_getElem G]
     have:=m.o j (by rw[← d.o];exact G);rw[e] at this;exact book.wf_may this.2
    have I:=R.o;rw[ae.o] at I;obtain⟨pz,cz,a2,F⟩:=I.came (by rw[List.length_map,d.o];omega) a3;have B:(o.map evOf).length=k:=by rw[List.length_map];exact d.o
    rw[B] at a2 F;subst a2;have a8:=zh F;have D:=zh (i.o.trans (l.o.mono i.o.size));clear J K T I F a3 B;go_wp2_with fail;go_ret2;exact⟨pz,k,cz,_,0,rfl,P.o,a8.o,aj,D.o⟩
 ·have d0:(f != 0)=true:=by simpa using h0
  have P:Hid (KeptIs c [] f):=⟨o,x,f,q.o,.inl ⟨h0,rfl,rfl⟩⟩
  clear h0;go_wp2_with fail;go_ret2;exact⟨none,0,0,[],f,rfl,P.o,ecame_nil _,Nat.zero_le _,i.o⟩
end vnd
namespace book
open Go.RowKit
open acc (Ac Tm Bi APost BPost TFault TRight OpenIs OweIs SellIs GrantIs RekeyIs wf6 ACame TCame fresh_updN fresh_drew came_lt)
theorem Wr.upd{w0:World}{base gW B g:Nat}{t:Tm}{pt:Option Addr}{lt ct:Nat}{V:Value}{xs:List Cu}{bk:List Cm}{w W:World}{cs:Array Value}{ty:TypeId}(h:Wr w0 base gW B t pt lt ct V xs bk w)(hU:Upd w W g cs ty)(h0:g<base)(h1:g≠gW)(h2:g≠B)(h3:w0.heap.size≤g):Wr w0 base gW B t pt lt ct V xs bk W:=
 ⟨hU.keep h.blk (Ne.symm h1),h.mp.upd hU (Ne.symm h2),h.hold.upd hU h0,h.gw,h.gb,h.ne,h.n0,h.n1,by rw[hU.size];exact h.sz,hU.bel _ _ h3 h.bel,h.few,h.wf⟩
theorem Small.more{bk:List Cm}{k m:Nat}(h:Small bk k)(hk:k≤m):Small bk m:=⟨Nat.le_trans h.1 hk,λc a=>⟨Nat.le_trans (h.2 c a).1 hk,(h.2 c a).2⟩⟩
structure Mid2 (w:World) (t:Tm) (pt:Option Addr) (lt ct:Nat) (l:List Ev) (gn base gW B k:Nat) (st:Nat→List Cm) (wr:World):Prop where
 s0:st 0=[]
 steps:∀i,i<k→StepIs t (st i) (l.getD i ev0) (st (i+1)) 0
 small:Small (st k) k
 bb:Blk wr (w.heap.size+1) #[zS] 65
 ba:Blk wr (w.heap.size+1+1) #[zI 0] 3
 be:Blk wr (w.heap.size+1+1+1) #[zI 0] 36
 bn:Blk wr gn #[zI (k:Int)] 3
 wr:∃V xs,Wr w base gW B t pt lt ct V xs (st k) wr
structure Pl (w:World) (gn base gW B:Nat):Prop where
 h1:w.heap.size+1+1+1<gn
 h2:gn<B
 h3:B<gW
 h4:gW<base
theorem kof:KOf:=by
 intro w t s lt r pl n ar l ht hl;unfold acc.Tm.v;have HT:=zh ht;have HL:=zh hl.row;have a7:=zh hl.row.1;have bw:n≤9223372036854775807:=by have:=hl.bytes;omega
 have bi:∀(fn:Fn)(first ar:Array Value)(w:World),(Instr.makeFunc fn first ar).run Tryz.prog w=.ok (.func fn first ar) w:=λ_ _ _ _=>rfl;have bj:=mkMapI;have b0:Hid (∀W,zB w W→zC 97 #[.agg #[.slice s lt r,zI t.ff,zI t.fb,zI t.db,zI t.al]] W λe w'=>tar.ErrPost W (TFault t) e w'):=λW hB=>acc.kcheck W t s lt r (ht.below hB);clear ht hl;obtain⟨W0,b6,aB,aA,ac,ad,az,-⟩:=sh4 w #[.slice s lt r,zI t.ff,zI t.fb,zI t.db,zI t.al] 24 #[zS] 65 #[zI 0] 3 #[zI 0] 36;go_enter_defers Tryz.func72,Tryz.ntmps72;go_upto_region 1 with fail
 rw[b6.o];have aZ:=zh (b0.o W0 az.o)
 go_wp2_with (first
  |(refine zqw rfl rfl rfl aB zqu24 ?_)
  |(refine zqw rfl rfl rfl aA zqu65 ?_)
  |(refine wp_whole rfl 3 _ rfl _ rfl 3 _ _ ac.o Tryz.underlying3 rfl (by kernel_rfl) ?_)
  |(refine wp_whole rfl 36 _ rfl _ rfl 36 _ _ ad.o Tryz.underlying36 rfl (by kernel_rfl) ?_)
  | fail)
 refine aZ.o.mono ?_;rintro e g ⟨f,rfl,hf,au⟩;obtain⟨J,U,z,u⟩:=zn4 au aB aA ac ad;have I:=shB az au;clear au;by_cases h0:f=0
 case neg=>
  have nf:(f != 0)=true:=by simpa using h0
  have HF:=zh hf;have b5:=zh h0;clear hf h0
  go_wp2_with (first
   |(refine zql rfl rfl rfl rfl zqu65 (by simp[Value.oneCell']) U rfl ?_)
   |(refine zqw rfl rfl rfl J zqu24 ?_)
   |(refine zqw rfl rfl rfl U zqu65 ?_)
   |(refine wp_whole rfl 3 _ rfl _ rfl 3 _ _ z.o Tryz.underlying3 rfl (by kernel_rfl) ?_)
   |(refine wp_whole rfl 36 _ rfl _ rfl 36 _ _ u.o Tryz.underlying36 rfl (by kernel_rfl) ?_)
   | fail)
  intro bt b;obtain⟨a0,C,D⟩:=zk3 b J z u;have am:=zk b I;have Z:=zyb b;clear b
  go_wp2_with (first
   |(refine wp_let1 rfl 3 _ _ rfl (w.heap.size+1+1) 0 rfl .i64 0 rfl (by kernel_rfl) #[zI 0] 3 C.o (by simp) ?_)
   |(refine zqw rfl rfl rfl a0 zqu24 ?_)
   |(refine zqw rfl rfl rfl Z zqu65 ?_)
   |(refine wp_whole rfl 3 _ rfl _ rfl 3 _ _ C.o Tryz.underlying3 rfl (by kernel_rfl) ?_)
   |(refine wp_whole rfl 36 _ rfl _ rfl 36 _ _ D.o Tryz.underlying36 rfl (by kernel_rfl) ?_)
   | fail)
  intro aU b;obtain⟨L,K,y⟩:=zk3 b a0 Z D;have a1:=zk b am;have x:=zyb b;clear b
  go_wp2_with (first
   |(refine wp_let1 rfl 36 _ _ rfl (w.heap.size+1+1+1) 0 rfl .i64 f rfl (by kernel_rfl) #[zI 0] 36 y.o (by simp) ?_)
   |(refine zqw rfl rfl rfl L zqu24 ?_)
   |(refine zqw rfl rfl rfl K zqu65 ?_)
   |(refine wp_whole rfl 3 _ rfl _ rfl 3 _ _ x.o Tryz.underlying3 rfl (by kernel_rfl) ?_)
   |(refine wp_whole rfl 36 _ rfl _ rfl 36 _ _ y.o Tryz.underlying36 rfl (by kernel_rfl) ?_)
   | fail)
  intro P b;obtain⟨aV,ao,a2⟩:=zk3 b L K x;have an:=zk b a1;have a3:=zyb b;clear L K x y a1;clear b;go_wp2_with fail;have rb:=zy0 ao;have ax:=zy0 a2;have ay:=zy0 a3;show Leaves _ _ _ _ [] .returning P;refine⟨.tuple #[.agg #[zS],zI 0,zI f],by simp[results,Tryz.results72,rb,ax,ay,go_sem],?_⟩;exact⟨none,0,0,[],[],0,f,rfl,.inl ⟨HF.o,b5.o,rfl,rfl⟩,sees_nil _,Nat.zero_le _,an.o⟩
 subst h0;have aq:Hid (TRight t):=hf.ok.1 rfl;clear hf;by_cases a6:120<n
 case pos=>
  have aO:decide ((120:Int)<(n:Int))=true:=decide_eq_true (by omega);have aY:Hid (120<l.length):=by show _<_;rw[a7.o];exact a6
  clear a6
  go_wp2_with (first
   |(refine zql rfl rfl rfl rfl zqu65 (by simp[Value.oneCell']) U rfl ?_)
   |(refine zqw rfl rfl rfl J zqu24 ?_)
   |(refine zqw rfl rfl rfl U zqu65 ?_)
   |(refine wp_whole rfl 3 _ rfl _ rfl 3 _ _ z.o Tryz.underlying3 rfl (by kernel_rfl) ?_)
   |(refine wp_whole rfl 36 _ rfl _ rfl 36 _ _ u.o Tryz.underlying36 rfl (by kernel_rfl) ?_)
   | fail)
  intro bt b;obtain⟨a0,C,D⟩:=zk3 b J z u;have am:=zk b I;have Z:=zyb b;clear b
  go_wp2_with (first
   |(refine wp_let1 rfl 3 _ _ rfl (w.heap.size+1+1) 0 rfl .i64 0 rfl (by kernel_rfl) #[zI 0] 3 C.o (by simp) ?_)
   |(refine zqw rfl rfl rfl a0 zqu24 ?_)
   |(refine zqw rfl rfl rfl Z zqu65 ?_)
   |(refine wp_whole rfl 3 _ rfl _ rfl 3 _ _ C.o Tryz.underlying3 rfl (by kernel_rfl) ?_)
   |(refine wp_whole rfl 36 _ rfl _ rfl 36 _ _ D.o Tryz.underlying36 rfl (by kernel_rfl) ?_)
   | fail)
  intro aU b;obtain⟨L,K,y⟩:=zk3 b a0 Z D;have a1:=zk b am;have x:=zyb b;clear b
  go_wp2_with (first
   |(refine wp_let1 rfl 36 _ _ rfl (w.heap.size+1+1+1) 0 rfl .i64 1 rfl (by kernel_rfl) #[zI 0] 36 y.o (by simp) ?_)
   |(refine zqw rfl rfl rfl L zqu24 ?_)
   |(refine zqw rfl rfl rfl K zqu65 ?_)
   |(refine wp_whole rfl 3 _ rfl _ rfl 3 _ _ x.o Tryz.underlying3 rfl (by kernel_rfl) ?_)
   |(refine wp_whole rfl 36 _ rfl _ rfl 36 _ _ y.o Tryz.underlying36 rfl (by kernel_rfl) ?_)
   | fail)
  intro P b;obtain⟨aV,ao,a2⟩:=zk3 b L K x;have an:=zk b a1;have a3:=zyb b;clear L K x y a1;clear b;go_wp2_with fail;have rb:=zy0 ao;have ax:=zy0 a2;have ay:=zy0 a3;show Leaves _ _ _ _ [] .returning P;refine⟨.tuple #[.agg #[zS],zI 0,zI 1],by simp[results,Tryz.results72,rb,ax,ay,go_sem],?_⟩;exact⟨none,0,0,[],[],0,1,rfl,.inr (.inl ⟨aq.o,aY.o,rfl,rfl,rfl⟩),sees_nil _,Nat.zero_le _,an.o⟩
 have aO:decide ((120:Int)<(n:Int))=false:=decide_eq_false (by omega);have av:n≤120:=by omega
 have ae:Hid (l.length≤120):=by show _≤_;rw[a7.o];exact av
 clear a6;have aD:Hid (Blk (((g.alloc (.cells #[zI 0] 3)).alloc (.map #[] 0)).alloc (.cells #[zS,.slice s lt r,zI t.ff,zI t.fb,zI t.db,zI t.al,.map (some (g.heap.size+1))] 170)) g.heap.size #[zI 0] 3):=((Blk.new _ _ _).alloc _).alloc _
 have aC:Hid (MpI (((g.alloc (.cells #[zI 0] 3)).alloc (.map #[] 0)).alloc (.cells #[zS,.slice s lt r,zI t.ff,zI t.fb,zI t.db,zI t.al,.map (some (g.heap.size+1))] 170)) (g.heap.size+1) []):=by
  have h1:=MpI.new (g.alloc (.cells #[zI 0] 3));rw[show (g.alloc (.cells #[zI 0] 3)).heap.size=g.heap.size+1 by simp] at h1;exact h1.below (zb.alloc zc _)
 have F:Hid (Blk (((g.alloc (.cells #[zI 0] 3)).alloc (.map #[] 0)).alloc (.cells #[zS,.slice s lt r,zI t.ff,zI t.fb,zI t.db,zI t.al,.map (some (g.heap.size+1))] 170)) (g.heap.size+1+1) #[zS,.slice s lt r,zI t.ff,zI t.fb,zI t.db,zI t.al,.map (some (g.heap.size+1))] 170):=by
  have h1:=Blk.new ((g.alloc (.cells #[zI 0] 3)).alloc (.map #[] 0)) #[zS,.slice s lt r,zI t.ff,zI t.fb,zI t.db,zI t.al,.map (some (g.heap.size+1))] 170
  rwa [show ((g.alloc (.cells #[zI 0] 3)).alloc (.map #[] 0)).heap.size=g.heap.size+1+1 by simp] at h1
 have b8:Hid (Blk (((g.alloc (.cells #[zI 0] 3)).alloc (.map #[] 0)).alloc (.cells #[zS,.slice s lt r,zI t.ff,zI t.fb,zI t.db,zI t.al,.map (some (g.heap.size+1))] 170)) (w.heap.size) #[.slice s lt r,zI t.ff,zI t.fb,zI t.db,zI t.al] 24):=((J.o.alloc _).alloc _).alloc _;have aJ:Hid (Blk (((g.alloc (.cells #[zI 0] 3)).alloc (.map #[] 0)).alloc (.cells #[zS,.slice s lt r,zI t.ff,zI t.fb,zI t.db,zI t.al,.map (some (g.heap.size+1))] 170)) (w.heap.size+1) #[zS] 65):=((U.o.alloc _).alloc _).alloc _;have ag:Hid (Blk (((g.alloc (.cells #[zI 0] 3)).alloc (.map #[] 0)).alloc (.cells #[zS,.slice s lt r,zI t.ff,zI t.fb,zI t.db,zI t.al,.map (some (g.heap.size+1))] 170)) (w.heap.size+1+1) #[zI 0] 3):=((z.o.alloc _).alloc _).alloc _;have ah:Hid (Blk (((g.alloc (.cells #[zI 0] 3)).alloc (.map #[] 0)).alloc (.cells #[zS,.slice s lt r,zI t.ff,zI t.fb,zI t.db,zI t.al,.map (some (g.heap.size+1))] 170)) (w.heap.size+1+1+1) #[zI 0] 36):=((u.o.alloc _).alloc _).alloc _;have aI:Hid (zB w (((g.alloc (.cells #[zI 0] 3)).alloc (.map #[] 0)).alloc (.cells #[zS,.slice s lt r,zI t.ff,zI t.fb,zI t.db,zI t.al,.map (some (g.heap.size+1))] 170))):=((I.o.alloc I.o.size _).alloc (Nat.le_trans I.o.size (by simp)) _).alloc (Nat.le_trans I.o.size (by simp;omega)) _;have S:Hid (w.heap.size+1+1+1<g.heap.size):=u.o.lt;have aF:Hid ((((g.alloc (.cells #[zI 0] 3)).alloc (.map #[] 0)).alloc (.cells #[zS,.slice s lt r,zI t.ff,zI t.fb,zI t.db,zI t.al,.map (some (g.heap.size+1))] 170)).heap.size=g.heap.size+1+1+1):=by show _=_;simp
 go_upto_region 9 with (first
  |(refine wp_whole rfl 24 _ rfl w.heap.size rfl 24 #[.slice s lt r,zI t.ff,zI t.fb,zI t.db,zI t.al] _ (J.o.alloc _) Tryz.underlying24 rfl (by kernel_rfl) ?_)
  | fail)
 generalize (((g.alloc (.cells #[zI 0] 3)).alloc (.map #[] 0)).alloc (.cells #[zS,.slice s lt r,zI t.ff,zI t.fb,zI t.db,zI t.al,.map (some (g.heap.size+1))] 170))=W2 at *;generalize g.heap.size=A at *;have E:Hid (Pl w A (A+1+1+1) (A+1+1) (A+1)):=⟨S.o,Nat.lt_succ_self _,Nat.lt_succ_self _,Nat.lt_succ_self _⟩
 have af:Hid (Mid2 w t s lt r l A (A+1+1+1) (A+1+1) (A+1) 0 (λ_=>[]) W2):=⟨rfl,(λi hi=>absurd hi (Nat.not_lt_zero _)),Small.zero,aJ.o,ag.o,ah.o,aD.o,zS,[],F.o,aC.o,Holds.zero _ _,by omega,by omega,by omega,by have:=S.o;omega,by have:=S.o;omega,by rw[aF.o];exact zc,aI.o,Small.more Small.zero (by omega),λc hc=>by cases hc⟩
 clear b8 aJ ag ah aD aC F aI S aF J U z u I;generalize A+1+1+1=d at *;generalize bh:A+1+1=X at *;generalize A+1=B at *;clear bh;clear bi bj aO;go_wp2_with fail;go_loopg [] n (λgk wr=>∃(k:Nat)(H:Nat→List Cm),k+gk=n∧Mid2 w t s lt r l A d X B k H wr)
 case atStart=>exact⟨0,_,by omega,af.o⟩
 case round=>
  obtain⟨k,H,hk,T⟩:=hrel;clear af;have R:Hid (Mid2 w t s lt r l A d X B k H wr):=T;have q8:wr.cell? ⟨A,0,none⟩=some (zI (k:Int)):=T.bn.cell 0;obtain⟨V,Q,aw⟩:=T.wr;obtain⟨a,N,hV,_⟩:=aw.hold.row.row;subst hV;have G:Hid (Wr w d X B t s lt r (.slice a Q.length N) Q (H k) wr):=aw;clear T aw;by_cases aR:k<n
  case neg=>
   have aQ:k=n:=by omega
   have b3:Hid (k=n):=aQ;have aP:decide ((k:Int)<(n:Int))=false:=decide_eq_false (by omega);clear aQ;have q0:wr.cell? ⟨X,0,none⟩=some (.slice a Q.length N):=G.o.blk.cell 0;have bk:=E.o.h1;have bm:=E.o.h2;have bo:=E.o.h3;have bq:=E.o.h4;have b7:Hid (Q.length≤120):=by show _≤_;rw[G.o.hold.len];exact G.o.few.1
   have a4:Hid (Wr w d X B t s lt r (.slice a Q.length N) Q (H k) wr∧Blk wr (w.heap.size+1) #[zS] 65∧Blk wr (w.heap.size+1+1) #[zI 0] 3∧Blk wr (w.heap.size+1+1+1) #[zI 0] 36):=⟨G.o,R.o.bb,R.o.ba,R.o.be⟩
   clear G;generalize aS:Q.length=m at *;have bv:Hid (Q.length=m):=aS;clear aS;go_wp2_with (first|(refine wp_letAll rfl 65 _ _ rfl (w.heap.size+1) rfl #[.slice a m N] rfl (by kernel_rfl) (by simp[Value.oneCell']) #[zS] 65 a4.o.2.1 rfl ?_)|fail)
   intro V1 b;clear q0;have a5:Hid (Wr w d X B t s lt r (.slice a m N) Q (H k) V1∧Blk V1 (w.heap.size+1) #[.slice a m N] 65∧Blk V1 (w.heap.size+1+1) #[zI 0] 3∧Blk V1 (w.heap.size+1+1+1) #[zI 0] 36):=⟨a4.o.1.upd b (by omega) (by omega) (by omega) (by omega),b.blk,b.keep a4.o.2.2.1 (by omega),b.keep a4.o.2.2.2 (by omega)⟩
   clear b a4;go_wp2_with (first|(refine wp_let1 rfl 3 _ _ rfl (w.heap.size+1+1) 0 rfl .i64 0 rfl (by kernel_rfl) #[zI 0] 3 a5.o.2.2.1 (by simp) ?_)|fail)
   intro V2 b;have F:Hid (Wr w d X B t s lt r (.slice a m N) Q (H k) V2∧Blk V2 (w.heap.size+1) #[.slice a m N] 65∧Blk V2 (w.heap.size+1+1) #[zI 0] 3∧Blk V2 (w.heap.size+1+1+1) #[zI 0] 36):=⟨a5.o.1.upd b (by omega) (by omega) (by omega) (by omega),b.keep a5.o.2.1 (by omega),b.blk,b.keep a5.o.2.2.2 (by omega)⟩
   clear b a5;go_wp2_with (first|(refine wp_let1 rfl 36 _ _ rfl (w.heap.size+1+1+1) 0 rfl .i64 0 rfl (by kernel_rfl) #[zI 0] 36 F.o.2.2.2 (by simp) ?_)|fail)
   intro V3 b;have a8:Hid (Wr w d X B t s lt r (.slice a m N) Q (H k) V3∧Blk V3 (w.heap.size+1) #[.slice a m N] 65∧Blk V3 (w.heap.size+1+1) #[zI 0] 3∧Blk V3 (w.heap.size+1+1+1) #[zI 0] 36):=⟨F.o.1.upd b (by omega) (by omega) (by omega) (by omega),b.keep F.o.2.1 (by omega),b.keep F.o.2.2.1 (by omega),b.blk⟩
   clear b F;go_wp2_with fail;refine leaves_cons (f:=106) (args:=#[.pointer (some ⟨w.heap.size+1+1+1,0,none⟩),.pointer (some ⟨A,0,none⟩),.pointer (some ⟨w.heap.size+1+1,0,none⟩)]) (by simp) (by simp[go_sem]) ?_;refine(of_idle (w.heap.size+1+1+1) A (w.heap.size+1+1) 0 _ a8.o.2.2.2).mono ?_;rintro e u' w5 ⟨rfl,hs,W,hb,b⟩;have ak:Wr w d X B t s lt r (.slice a m N) Q (H k) w5:=(a8.o.1.next hb).upd b (by omega) (by omega) (by omega) (by omega);have r0:w5.cell? ⟨w.heap.size+1,0,none⟩=some (.slice a m N):=(b.keep (a8.o.2.1.next hb) (by omega)).cell 0;have r1:w5.cell? ⟨w.heap.size+1+1,0,none⟩=some (zI 0):=(b.keep (a8.o.2.2.1.next hb) (by omega)).cell 0;have r2:=zx0 b;show Leaves _ _ _ _ [] (settle u') w5;rw[hs];refine⟨.tuple #[.agg #[.slice a m N],zI 0,zI 0],by simp[results,Tryz.results72,r0,r1,r2,go_sem],?_⟩;obtain⟨p9,c9,bs,ai⟩:=ak.hold.sees;injection bs with e1 e2 e3
   subst e1;rw[← e2] at ai;exact⟨a,m,N,Q,H k,0,0,rfl,.inr (.inr ⟨aq.o,ae.o,k,H,R.o.s0,R.o.steps,.inl ⟨by rw[a7.o];exact b3.o,rfl,rfl,rfl⟩⟩),ai,b7.o,ak.bel⟩
  have aP:decide ((k:Int)<(n:Int))=true:=decide_eq_true (by omega);obtain⟨M,q,rfl,lb,hc⟩:=HL.o.2.resolve_left (by omega);have h:∀j,j<13→wr.cell? ⟨M,q+k*13+j,none⟩=(l.getD k ev0).cl[j]?:=λj hj=>(G.o.bel.cell (p:=⟨M,q+k*13+j,none⟩) lb).trans (hc k j aR hj);obtain⟨v,hv⟩:∃v,v=l.getD k ev0:=⟨_,rfl⟩
  have HV:Hid (v=l.getD k ev0):=hv;rw[← hv] at h;clear hv hc;have c0:wr.cell? ⟨M,q+k*13,none⟩=some (zI v.kd):=h 0 (by decide);have c1:wr.cell? ⟨M,q+k*13+1,none⟩=some (zI v.me):=h 1 (by decide);have c2:wr.cell? ⟨M,q+k*13+2,none⟩=some (zI v.mo):=h 2 (by decide);have c3:wr.cell? ⟨M,q+k*13+3,none⟩=some (zI v.id):=h 3 (by decide);have c4:wr.cell? ⟨M,q+k*13+4,none⟩=some (zI v.te):=h 4 (by decide);have c5:wr.cell? ⟨M,q+k*13+5,none⟩=some (zI v.de):=h 5 (by decide);have c6:wr.cell? ⟨M,q+k*13+6,none⟩=some (zI v.fe):=h 6 (by decide);have c7:wr.cell? ⟨M,q+k*13+7,none⟩=some (zI v.pr):=h 7 (by decide);have c8:wr.cell? ⟨M,q+k*13+8,none⟩=some (zI v.ch):=h 8 (by decide);have c9:wr.cell? ⟨M,q+k*13+9,none⟩=some (zI v.un):=h 9 (by decide);have b9:wr.cell? ⟨M,q+k*13+10,none⟩=some (zI v.tg):=h 10 (by decide);have bf:wr.cell? ⟨M,q+k*13+11,none⟩=some (zI v.ow):=h 11 (by decide);have bg:wr.cell? ⟨M,q+k*13+12,none⟩=some (zI v.bp):=h 12 (by decide);have b1:Hid (zC 108 #[.pointer (some ⟨X,0,none⟩),.agg #[zI v.kd,zI v.me,zI v.mo,zI v.id,zI v.te,zI v.de,zI v.fe,zI v.pr,zI v.ch,zI v.un,zI v.tg,zI v.ow,zI v.bp]] wr λe w'=>WPost w d X B t s lt r (StepIs t (H k) v) wr e w'):=bhappen w d X B t s lt r a Q.length N Q (H k) v wr G.o HT.o;clear h lb;have b2:Hid (k<l.length):=by show _<_;rw[a7.o];exact aR
  go_wp2_with fail;refine b1.o.mono ?_;rintro e w2 ⟨O,br⟩;clear q8 aP c0 c1 c2 c3 c4 c5 c6 c7 c8 c9 b9 bf bg;have bk:=E.o.h1;have bm:=E.o.h2;have bo:=E.o.h3;have bq:=E.o.h4;have aL:=zh (O.keep R.o.bb (by omega) (by omega) (by omega));have aK:=zh (O.keep R.o.ba (by omega) (by omega) (by omega));have aM:=zh (O.keep R.o.be (by omega) (by omega) (by omega));have aN:=zh (O.keep R.o.bn (by omega) (by omega) (by omega));have aW:=zh (O.bel G.o.bel (by omega) (by omega) (by omega));rcases br with⟨V',bu,aa,rfl,Y,aj⟩|⟨f,aa,hf,rfl,Y⟩
  case inr=>
   have ap:Hid (StepIs t (H k) (l.getD k ev0) aa f):=by show StepIs _ _ _ _ _;rw[← HV.o];exact Y
   have HF:=zh hf;clear Y O;refine leaves_cons (f:=106) (args:=#[.pointer (some ⟨w.heap.size+1+1+1,0,none⟩),.pointer (some ⟨A,0,none⟩),.pointer (some ⟨w.heap.size+1+1,0,none⟩)]) (by simp) (by simp[go_sem]) ?_;refine(of_caught (w.heap.size+1+1+1) A (w.heap.size+1+1) 0 (k:Int) 0 f hf _ aM.o aN.o aK.o (by omega) (by omega)).mono ?_;rintro e u' w5 ⟨rfl,hs,W,W3,hb,b,ab⟩;have r0:=(ab.keep (b.keep (aL.o.next hb) (by omega)) (by omega)).cell 0;have r1:=zx0 ab;have r2:=(ab.keep b.blk (by omega)).cell 0;have aX:zB w w5:=ab.bel _ _ (by omega) (b.bel _ _ (by omega) (bel_step aW.o hb));show Leaves _ _ _ _ [] (settle u') w5;rw[hs];refine⟨.tuple #[.agg #[zS],zI (k:Int),zI f],by simp[results,Tryz.results72,r0,r1,r2,go_sem],?_⟩;exact⟨none,0,0,[],[],(k:Int),f,rfl,.inr (.inr ⟨aq.o,ae.o,k,H,R.o.s0,R.o.steps,.inr ⟨b2.o,⟨aa,ap.o⟩,HF.o,rfl,rfl⟩⟩),sees_nil _,Nat.zero_le _,aX⟩
  have ap:Hid (StepIs t (H k) (l.getD k ev0) aa 0):=by show StepIs _ _ _ _ _;rw[← HV.o];exact Y
  have aE:=zh (step_small Y R.o.small);have aG:=zh (aj (aE.o.more (by omega)));have q8:=zy0 aN;have bx:IntKind.i64.wrap ((k:Int)+1)=(k:Int)+1:=by rw[IntKind.wrap_i64];omega
  clear Y O aj;go_wp2_with refine zl ?_;intro W3 b;have aH:=zh (aG.o.upd b (by omega) (by omega) (by omega) (by omega));have a9:Hid (Blk W3 (w.heap.size+1) #[zS] 65∧Blk W3 (w.heap.size+1+1) #[zI 0] 3∧Blk W3 (w.heap.size+1+1+1) #[zI 0] 36∧Blk W3 A #[zI ((k:Int)+1)] 3):=⟨b.keep aL.o (by omega),b.keep aK.o (by omega),b.keep aM.o (by omega),b.blk⟩
  clear b q8;obtain⟨aT,s1,s2,s3⟩:=run_more R.o.steps ap.o;have b4:Hid (Mid2 w t s lt r l A d X B (k+1) aT W3):=⟨s1.trans R.o.s0,s3,by rw[s2];exact aE.o,a9.o.1,a9.o.2.1,a9.o.2.2.1,by have h1:=a9.o.2.2.2;rw[show ((k:Int)+1)=((k+1:Nat):Int) by omega] at h1;exact h1,V',bu,by rw[s2];exact aH.o⟩
  clear s1 s2 s3;go_wp2_with fail;go_roundg (n-(k+1))
  case rel=>exact⟨k+1,aT,by omega,b4.o⟩
  case measure=>omega
end book
namespace vnd
open disk (RepIs AppIs)
open book (Ev ev0 EMay evL evOf EncIs DecIs Cm cm0 So so0 BookIs Sees ECame FirstAt NoneAt)
open acc (Ac Tm Bi TCame ACame)
open cell (Wr RowU)
open Go.RowKit
def OpnP(w:World)(t:Tm)(a:Option Addr)(n cap:Nat)(c:List Int)(e:Ending)(w':World):Prop:=
 (∃f,e=.returned (.tuple #[.agg #[zS,zS,zI 0],zI f])∧f≠0∧LoadIs t c [] f∧zB w w') ∨
 (∃p m cp xs bk l,e=.returned (.tuple #[.agg #[.slice p m cp,.slice a n cap,zI (l.length:Int)],zI 0])∧LoadIs t c bk 0∧KeptIs c l 0∧Sees w' p m xs bk∧m≤120∧zB w w')
theorem popen(t:Tm)(pt:Option Addr)(lt ct:Nat)(a:Option Addr)(n cap:Nat)(c:List Int)(w:World)(ht:TCame w t pt lt ct)(h:Dk w a n cap c):Calls Tryz.prog 35 #[.agg #[.slice pt lt ct,zI t.ff,zI t.fb,zI t.db,zI t.al],.slice a n cap] w λe w'=>OpnP w t a n cap c e w':=by
 have HC:Hid (∀W,zB w W→Dk W a n cap c):=λW hW=>h.below hW;have HT:Hid (∀W,zB w W→TCame W t pt lt ct):=λW hW=>ht.below hW;clear h ht;obtain⟨W0,x,Q,P,B,a9⟩:=sh2 w #[.slice pt lt ct,zI t.ff,zI t.fb,zI t.db,zI t.al] 24 #[zS,zS,zI 0] 93;go_enter Tryz.func35,Tryz.ntmps35;go_upto_region 1 with fail
 rw[x.o];have Z:Hid (zC 71 #[.slice a n cap] W0 λe w'=>KeptPost W0 c e w'):=pevents a n cap c W0 (HC.o _ B.o);go_wp2_with refine zw ?_;refine Z.o.mono ?_;rintro e w1 ⟨p,m,cp,l,f,rfl,hk,A,hm,g⟩;obtain⟨C,R⟩:=zn2 g Q P;have j:=shB B g;have a6:=g.size;clear g;have u:=zh hk;have Y:=zh A;have a0:=zh A.row.1;clear hk A;by_cases J:f=0
 ·subst J;have X:Hid (zC 72 #[.agg #[.slice pt lt ct,zI t.ff,zI t.fb,zI t.db,zI t.al],.slice p m cp] w1 λe w'=>book.BookPost w1 t l e w'):=book.kof w1 t pt lt ct p m cp l (HT.o _ j.o) Y.o;go_wp2_with refine zw ?_;refine X.o.mono ?_;rintro e O ⟨p2,m2,c2,xs,bk,a4,y,rfl,z,N,a5,i⟩;obtain⟨D,q⟩:=zn2 i C R;have k:=shB j i;have a7:=i.size;clear i;have H:Hid (LoadIs t c bk y):=⟨l,0,u.o,.inr ⟨rfl,a4,z⟩⟩
  have V:=zh (book_no z);have a1:=zh N;clear z N;have a8:Hid (zB O O):=zb;obtain⟨W3,x,F,r,L⟩:=sh1 O #[.slice p2 m2 c2] 65;obtain⟨G,S⟩:=zn2 r.o D q;have E:=shB k r.o;go_upto_region 5 with fail
  rw[x.o];have a2:=zh (a1.o.below r.o);by_cases K:y=0
  ·subst K;go_wp2_with (first|refine zs ?_|refine zw ?_)
   intro W4 b;have a3:=zh (sees_far a2.o (shop_odd S.o) b);obtain⟨U,T⟩:=zk2 b G F;have s:=zk b E;have d:=zyb b;have M:=b.size;clear b;go_wp2_with fail;exact zr (.tuple #[.agg #[.slice p2 m2 c2,.slice a n cap,zI (m:Int)],zI 0]) (by simp[results,Tryz.results35,zy0 d,zy1 d,zy2 d,go_sem]) (.inr ⟨p2,m2,c2,xs,bk,l,by rw[a0.o],H.o,u.o,a3.o,a5,s.o⟩)
  ·have d2:(y != 0)=true:=by simpa using K
   have I:Hid (y≠0∧LoadIs t c [] y):=⟨K,by rw[← V.o K];exact H.o⟩
   clear K;go_wp2_with (first|refine zs ?_|refine zw ?_)
   intro W4 b;obtain⟨U,T⟩:=zk2 b G F;have s:=zk b E;have d:=zyb b;have M:=b.size;clear b;go_wp2_with fail;exact zr (.tuple #[.agg #[zS,zS,zI 0],zI y]) (by simp[results,Tryz.results35,scl3 d,go_sem]) (.inl ⟨y,rfl,I.o.1,I.o.2,s.o⟩)
 ·have d0:(f != 0)=true:=by simpa using J
  have H:Hid (f≠0∧LoadIs t c [] f):=⟨J,l,f,u.o,.inl ⟨J,rfl,rfl⟩⟩
  clear J;go_wp2_with (first|refine zs ?_|refine zw ?_)
  intro W3 b;have D:=zk1 b C;have k:=zk b j;have q:=zyb b;have L:=b.size;clear b;go_wp2_with fail;exact zr (.tuple #[.agg #[zS,zS,zI 0],zI f]) (by simp[results,Tryz.results35,scl3 q,go_sem]) (.inl ⟨f,rfl,H.o.1,H.o.2,k.o⟩)
theorem load_len{t:Tm}{c:List Int}{bk:List Cm}{l:List Ev}(h:LoadIs t c bk 0)(hk:KeptIs c l 0):l.length≤120:=by
 obtain⟨d,e,b,⟨p,_,q⟩|⟨_,a,q⟩⟩:=h
 ·exact absurd q.symm p
 ·rw[(hk.one b).1];exact(book_ok q).2.1
end vnd
namespace ora
open Go.ChangeShapes Go.WideShapes Go.ChangeAt Go.RowKit Go.Deep
theorem fours{H:Type}{enc:TypeId × Value→H}{w:World}{base:Nat}{held:Bool}{t e:TypeId}{f0 f1 f2 f3:Field}{fuel:Nat}{cs:List Value}{x:DataW H × List MemPlace}
  (ht:Tryz.prog.underlying t=some (.slice e)) (he:Tryz.prog.underlying e=some (.struct #[f0,f1,f2,f3])) (ce:Tryz.prog.cellsOf e=4)
  (o0:f0.offset=0) (o1:f1.offset=1) (o2:f2.offset=2) (o3:f3.offset=3) (t0:f0.type=3) (t1:f1.type=3) (t2:f2.type=3) (t3:f3.type=3)
  (h:DataW.trod enc Tryz.prog w base (λ_=>true) held fuel t cs=some x):
  (cs=[zS]∧x=(.nil,[])) ∨
  ∃(a:Addr)(len cap:Nat)(E S:List (DataW H))(pl:List MemPlace)(f:Nat→Pr),cs=[.slice (some a) len cap]∧len≤cap∧x=(.slice E S,pl)∧E.length+S.length=cap ∧
   ∀i,i<cap→w.cell? (a.add (i*4))=some (zI (f i).m)∧w.cell? (a.add (i*4+1))=some (zI (f i).r)∧w.cell? (a.add (i*4+2))=some (zI (f i).b)∧w.cell? (a.add (i*4+3))=some (zI (f i).t)∧wfP (f i):=by
 have c1:Tryz.prog.cellsOf 3=1:=by kernel_rfl
 rcases open_slice ht h with L|⟨a,len,cap,m,n,D,Pl,rfl,Z,O,hm,j,rfl,P⟩
 ·exact Or.inl L
 right;simp only[if_true] at j;subst j
 have d:∀i,∃p:Pr,i<m→w.cell? (a.add (i*4))=some (zI p.m)∧w.cell? (a.add (i*4+1))=some (zI p.r)∧w.cell? (a.add (i*4+2))=some (zI p.b)∧w.cell? (a.add (i*4+3))=some (zI p.t)∧wfP p:=by
  intro i;by_cases l:i<m
  ·obtain⟨o,K,M⟩:=P i l;rw[ce] at K;obtain⟨_,g,c⟩:=World.cells?_some K;obtain⟨y0,y1,y2,y3,k,_,_,F,G,I,J⟩:=Joins.trod_struct4 he M
   match o,g with
   |[v0,v1,v2,v3],_=>
    rw[o0,t0,c1] at F;rw[o1,t1,c1] at G;rw[o2,t2,c1] at I;rw[o3,t3,c1] at J;obtain⟨V,z,_,Q⟩:=DataW.trod_int Tryz.underlying3 F;obtain⟨W,A,_,R⟩:=DataW.trod_int Tryz.underlying3 G;obtain⟨X,B,_,T⟩:=DataW.trod_int Tryz.underlying3 I;obtain⟨Y,C,_,U⟩:=DataW.trod_int Tryz.underlying3 J;simp at z A B C;have q:=c 0 (by omega);have s:=c 1 (by omega);have u:=c 2 (by omega);have y:=c 3 (by omega);rw[add_add] at q s u y;simp at q s u y;refine⟨⟨V,W,X,Y⟩,λ_=>⟨?_,?_,?_,?_,Q,R,T,U⟩⟩
    ·rw[q,z]
    ·rw[s,A]
    ·rw[u,B]
    ·rw[y,C]
  ·exact⟨pr0,λN=>absurd N l⟩
 exact⟨a,len,m,_,_,_,λi=>Classical.choose (d i),rfl,O,rfl,by simp;omega,λi l=>Classical.choose_spec (d i) l⟩
theorem fours_row{w:World}{a:Addr}{len cap:Nat}(hl:len≤cap)(f:Nat→Pr)
  (h:∀i,i<cap→w.cell? (a.add (i*4))=some (zI (f i).m)∧w.cell? (a.add (i*4+1))=some (zI (f i).r)∧w.cell? (a.add (i*4+2))=some (zI (f i).b)∧w.cell? (a.add (i*4+3))=some (zI (f i).t)∧wfP (f i)):
  RowP w (some a) len ((List.range len).map f)∧RowA w (some a) len ((List.range len).map f):=by
 have key:∀i,i<len→∃b c,a=⟨b,c,none⟩∧PrAt w b (c+i*4) (((List.range len).map f).getD i pr0)∧wfP (((List.range len).map f).getD i pr0):=by
  intro i g;have o:=(h 0 (by omega)).1;have d:=h i (by omega);obtain⟨b,c,j⟩:=a;have q:j=none:=by simpa [Addr.add] using World.cell?_spot o
  subst q;rw[Addr.add_lit,Addr.add_lit,Addr.add_lit,Addr.add_lit,← Nat.add_assoc,← Nat.add_assoc,← Nat.add_assoc] at d;have e:((List.range len).map f).getD i pr0=f i:=by simp[List.getD,g]
  rw[e];exact⟨b,c,rfl,⟨d.1,d.2.1,d.2.2.1,d.2.2.2.1⟩,d.2.2.2.2⟩
 constructor
 ·refine⟨by simp,?_⟩;by_cases s:len=0
  ·exact .inl s
  ·obtain⟨b,c,e,_⟩:=key 0 (by omega);refine .inr ⟨b,c,by rw[e],λi g=>?_⟩;obtain⟨u,l,k,n,_⟩:=key i g;rw[e] at k;obtain⟨rfl,rfl,_⟩:=Addr.mk.inj k;exact n
 ·intro i g;obtain⟨b,c,e,d,p⟩:=key i g;exact⟨b,c,by rw[e],d,p⟩
theorem open_ora{H:Type}{enc:TypeId × Value→H}{W:World}{r:Reach}{b0 b1:Nat}{held:Bool}{v:Value}{d:DataW H}{ps:List MemPlace}
  (hval:Value.okWide Tryz.prog W r b0 28 v) (h:DataW.Trod enc Tryz.prog W b1 (λ_=>true) held 28 v d ps) (hs:∀n∈d.weights Tryz.prog 28,n≤reachBytes):
  ∃(a:Option Addr)(len cap:Nat)(l:List Pr),v=.agg #[.slice a len cap]∧Came W a len cap l:=by
 have k:=Tryz.underlying28;have s:Tryz.prog.cellsOf 28=1:=by kernel_rfl
 have j:Tryz.prog.cellsOf 26=1:=by kernel_rfl
 obtain⟨cs,rfl,e⟩:=okWide_struct k hval;rw[s] at e
 obtain⟨v0,rfl⟩:∃v0,cs=#[v0]:=by
  cases cs with
  |mk l=>match l,e with
   |[v0],_=>exact⟨v0,rfl⟩
 obtain⟨m,hf⟩:=h;obtain⟨x,n,q,_,g⟩:=trod_struct1 k hf;simp only[Prod.mk.injEq] at q;obtain⟨rfl,rfl⟩:=q;simp only[Value.cells,List.drop_zero] at g;rw[j] at g;simp only[List.take_succ_cons,List.take_zero] at g;rcases fours Tryz.underlying26 Tryz.underlying87 (by kernel_rfl) rfl rfl rfl rfl rfl rfl rfl rfl g with⟨b,_⟩|⟨a,len,cap,E,S,u,f,b,p,t,i,c⟩
 ·simp at b;subst b;exact⟨none,0,0,[],rfl,RowP.nil _ _,λ_=>rfl,zc,by decide⟩
 ·simp at b;subst b;subst t;have o:=hs ((E.length+S.length)*Tryz.prog.bytesOf 87) (by simp[DataW.weights,k,DataW.weightsEach,Tryz.underlying26]);rw[show Tryz.prog.bytesOf 87=32 from by kernel_rfl,i] at o;simp only[reachBytes] at o;exact⟨some a,len,cap,_,rfl,(fours_row p f c).1,λh=>(by cases h),p,by omega⟩
end ora
end Go.Proofs.YtoepgdhiepedeaaGreatDoor
