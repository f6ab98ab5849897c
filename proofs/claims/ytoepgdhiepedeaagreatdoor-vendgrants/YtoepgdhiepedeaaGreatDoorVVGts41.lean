import Derived.Test.YtoepgdhiepedeaaGreatDoorVVGts39
set_option linter.unusedVariables false
set_option linter.unusedSimpArgs false
set_option maxHeartbeats 4000000
set_option maxRecDepth 100000
namespace Go.Proofs.YtoepgdhiepedeaaGreatDoor
namespace vnd
open disk (RepIs AppIs RepPost AppPost Lr Recs Sli sl0)
open book (Ev ev0 EMay evL evOf EncIs DecIs Cm cm0 So so0 BookIs BookPost Sees ECame RowE FirstAt NoneAt Tells EncPost DecPost)
open acc (Ac Tm Bi SellIs GrantIs RekeyIs OweIs)
open ora (Pr IssueIs)
open cell (Wr RowU RowW Lw Ws)
open rcp (Rc rc0)
open token (Tok fmtL)
open Go.RowKit
theorem tok_few{kd:Int}{t:Tm}{c:List Int}{o:List Pr}{me te mo dr:Int}{ls:List Wr}{o':List Pr}{r:Rc}{f:Int}(h:TokIs kd t c o me te mo dr ls o' r f):ls.length≤66:=by
 obtain⟨a,g,_,⟨_,rfl,_⟩|⟨_,_,rfl,_⟩|⟨_,k,b,l,x,_,_,⟨_,rfl,_⟩|⟨_,j,m,d,_,⟨_,rfl,_⟩|⟨_,i,e,q,⟨_,rfl,_⟩|⟨_,rfl,_⟩⟩⟩⟩⟩:=h
 ·simp
 ·simp
 ·simp
 ·simp
 ·simp
 ·exact keep_few q
theorem tok_ofew{kd:Int}{t:Tm}{c:List Int}{o:List Pr}{me te mo dr:Int}{ls:List Wr}{o':List Pr}{r:Rc}{f:Int}(h:TokIs kd t c o me te mo dr ls o' r f):o'.length≤500:=by
 obtain⟨d,g,_,⟨_,_,rfl,_⟩|⟨_,_,_,rfl,_⟩|⟨_,k,b,l,x,_,_,⟨_,_,rfl,_⟩|⟨_,m,n,e,a,⟨_,_,rfl,_⟩|⟨_,j,i,q,⟨_,_,rfl,_⟩|⟨_,_,rfl,_⟩⟩⟩⟩⟩:=h
 ·simp
 ·simp
 ·simp
 ·simp
 ·simp
 ·exact ora.few_small a
theorem tok_got{w w':World}{R:List Wr→List Pr→Rc→Int→Prop}{e:Ending}(h:TokPost w R e w')(hf:∀ls o r f,R ls o r f→ls.length≤66):TokGot w R e w':=by
 obtain⟨V,ls,z,u,k,y,r,f,rfl,j,i,l,m,n,p,s⟩:=h;have g:=World.ownsRow.lt i;have q:=hf _ _ _ _ j;obtain⟨a,c,rfl,b,_,d,_⟩:=i.row;exact⟨a,_,c,ls,z,u,k,y,r,f,rfl,j,b,λx t=>(g x.block (by rw[t];rfl)).1,d,by omega,l,m,n,p,s⟩
theorem cut_end{P:Program}{md:Region.Mode}{ops:Array Oper}{Q:Exit→Act→World→Prop}{S:World→Prop}{fuel:Nat}{listed:Array Bool}{a:Act}{U0:World}{γ:Type}(fuel2:Nat)(listed2:Array Bool)(F:γ→Act)(I:γ→World→Prop)
  (hE:∀c U,I c U→S U→wpAnyH P md ops Q S fuel2 listed2 (F c) U)
  (h:Shut (∀(c:γ)(U:World)(l:Array Bool)(fu:Nat),(l==listed2)=true→fu=fuel2→I c U→S U→wpAnyH P md ops Q S fu l (F c) U)→wpAnyH P md ops Q S fuel listed a U0):wpAnyH P md ops Q S fuel listed a U0:=
 h (λc U l fu e hf b d=>by rw[eq_of_beq e,hf];exact hE c U b d)
structure EndS where
 ga:Nat
 gb:Nat
 p:Option Addr
 m:Nat
 cp:Nat
 ls:List Wr
 p5:Option Addr
 n5:Nat
 c5:Nat
 o2:List Pr
 r:Rc
 f:Int
 p2:Option Addr
 c2:Nat
structure EndV where
 ga:Nat
 gb:Nat
 p5:Option Addr
 n5:Nat
 c5:Nat
 o2:List Pr
 tg:Int
 f:Int
end vnd
namespace acc
open tar (Du du0 Came RowD Ld PairT)
open Go.RowKit
theorem terms_any(x:Tm)(p:Option Addr)(len cap:Nat)(w:World)(h:TCame w x p len cap):Calls Tryz.prog 9 #[x.v p len cap] w λe w'=>∃p' cap',e=.returned (x.v p' len cap')∧deb.Fresh w' w.heap.size p' len cap' x.ts∧zB w w':=by
 have d:=h.ts.row.1;have H:=zh h;unfold Tm.v;obtain⟨u,J,m,z,k,W⟩:=sh2 w #[.slice p len cap,zI x.ff,zI x.fb,zI x.db,zI x.al] 24 #[zS,zI 0,zI 0,zI 0,zI 0] 24;have l:=zh (h.ts.below k.o);go_enter Tryz.func9,Tryz.ntmps9;go_upto_region 1 with fail
 rw[J.o];have I:=zh (tar.steps_any p len cap x.ts u l.o);clear h;have L:=zy0 m;go_wp2_with fail;refine I.o.mono ?_;rintro e X ⟨Y,rfl,i,b⟩;obtain⟨Q,B⟩:=zn2 b m z;have P:=zh (l.o.below b);have A:=shB k b;have O:=b.size;clear b;have q:=H.o.ts;obtain⟨t,c2,K,g⟩:=i.came (by rw[d];exact q.bytes) q.wf;subst K;have j:=deb.ld_new i;rw[d] at g j ⊢;have f:Hid (deb.Fresh X u.heap.size t len c2 x.ts):=⟨g,j⟩
 have c:=zh (came_lt f.o.came);clear i g j L;go_wp2_with (first|refine zm ?_|refine zw ?_)
 intro W3 a;have D:=zyb a;have R:=zk1 a B;have n:Hid (deb.Fresh W3 u.heap.size t len c2 x.ts):=fresh_updN f.o a (λr y s=>by have U:=f.o.new r y s;have V:=c.o r y s;omega);have C:=zk a A;have M:=a.size;clear a;go_wp2_with (first|refine zs ?_|refine zw ?_)
 intro T a;have S:=zk1 a D;have G:=zyb a;have F:Hid (deb.Fresh T u.heap.size t len c2 x.ts):=fresh_updN n.o a (λr y s=>by have U:=n.o.new r y s;have V:=c.o r y s;omega);have E:=zk a C;have N:=a.size;clear a;go_wp2_with fail;exact zr (.agg #[.slice t len c2,zI x.ff,zI x.fb,zI x.db,zI x.al]) (by simp[results,Tryz.results9,scl5 G,go_sem]) ⟨t,c2,rfl,F.o.low (by omega),E.o⟩
end acc
namespace vnd
open disk (RepIs AppIs)
open book (Ev ev0 EMay evL evOf EncIs DecIs Cm cm0 So so0 BookIs Sees ECame FirstAt NoneAt)
open acc (Ac Tm Bi TCame ACame)
open cell (Wr RowU)
open Go.RowKit
theorem info_ev:∃i,Tryz.prog.info? 44=some i∧i.zero=some (.agg #[zI 0,zI 0,zI 0,zI 0,zI 0,zI 0,zI 0,zI 0,zI 0,zI 0,zI 0,zI 0,zI 0])∧i.size=13∧i.bytes=104:=info_parts (by kernel_rfl)
theorem make_ev(N:Nat)(h:N≤100000)(w:World):(Instr.makeSlice 103 (zI 0) (zI (N:Int))).run Tryz.prog w=.ok (.slice (some ⟨w.heap.size,0,none⟩) 0 N) (w.alloc (.cells (madeCells (Value.agg #[zI 0,zI 0,zI 0,zI 0,zI 0,zI 0,zI 0,zI 0,zI 0,zI 0,zI 0,zI 0,zI 0]).cells (N*13)) 44)):=by
 obtain⟨e,d,a,b,c⟩:=info_ev;have:=run_make (P:=Tryz.prog) w 103 44 e (.agg #[zI 0,zI 0,zI 0,zI 0,zI 0,zI 0,zI 0,zI 0,zI 0,zI 0,zI 0,zI 0,zI 0]) Tryz.underlying103 d a .i64 .i64 0 (N:Int) (by omega) (by omega) (by rw[c];omega) (by omega);rw[b,show (N:Int).toNat=N by omega] at this;exact this
theorem pevents(a:Option Addr)(n cap:Nat)(c:List Int)(w:World)(h:Dk w a n cap c):Calls Tryz.prog 71 #[.slice a n cap] w λe w'=>KeptPost w c e w':=by
 have ad:=zh (disk.kreplay w a n cap c h.row h.nil h.room h.bytes h.wd);have HW:=zh h.wd;clear h;go_enter Tryz.func71,Tryz.ntmps71;go_wp2_with fail;refine ad.o.mono ?_;rintro e b ⟨ra,N,rc,o,x,f,rfl,t,hn,L,V⟩;have i:=zh V;have q:=zh L;have ac:=zh t;have d:=zh t.1;have aj:N≤2048:=by rw[← t.1];exact rep_len L
 clear t L V hn;by_cases h0:f=0
 ·subst h0;have ai:=make_ev N (by omega) b;have aa:Hid (book.Le (b.alloc (.cells (madeCells (Value.agg #[zI 0,zI 0,zI 0,zI 0,zI 0,zI 0,zI 0,zI 0,zI 0,zI 0,zI 0,zI 0,zI 0]).cells (N*13)) 44)) b.heap.size (.slice (some ⟨b.heap.size,0,none⟩) 0 N) []):=World.ownsRow_made b _ N zc (by unfold maxLen;omega) (size_madeCells _ _);have a5:Hid (zB b (b.alloc (.cells (madeCells (Value.agg #[zI 0,zI 0,zI 0,zI 0,zI 0,zI 0,zI 0,zI 0,zI 0,zI 0,zI 0,zI 0,zI 0]).cells (N*13)) 44))):=zb.alloc zc _;generalize (b.alloc (.cells (madeCells (Value.agg #[zI 0,zI 0,zI 0,zI 0,zI 0,zI 0,zI 0,zI 0,zI 0,zI 0,zI 0,zI 0,zI 0]).cells (N*13)) 44))=W0 at *;go_wp2_with fail;clear ai;go_loopw [7,26] (λu z wr=>∃(k:Nat)(U:Value),k≤N∧z=zI (k:Int)∧U=u∧book.Le wr b.heap.size U ((o.take k).map evOf)∧(∀j,j<k→DecOk (o.getD j []))∧zB b wr) (λ_ z _=>N-(intOf z).toNat)
  case atStart=>exact⟨0,_,Nat.zero_le _,rfl,rfl,aa.o,(λj G=>absurd G (Nat.not_lt_zero _)),a5.o⟩
  case round=>
   obtain⟨k,U,hk,rfl,hU,J,K,T⟩:=hrel;subst hU;have R:=zh J;have m:=zh K;have l:=zh T;by_cases a0:k<N
   ·have ag:decide ((k:Int)<(N:Int))=true:=by simp;omega
    have H:k<o.length:=by rw[d.o];exact a0
    obtain⟨g,a4,rfl,_,ah,Y⟩:=ac.o.2.resolve_left (by omega);obtain⟨s,h1,A,E,_⟩:=Y k a0;have ck:wr.cell? ⟨g,a4+k,none⟩=some (.slice s.a s.n s.c):=(T.cell (p:=⟨g,a4+k,none⟩) ah).trans h1;have a9:Hid (zC 105 #[.slice s.a s.n s.c] wr λe w'=>book.DecGot wr (o.getD k []) e w'):=book.kdec wr s.a s.n s.c _ (A.below T) E.2.2 E.2.1 (by have:=E.1;omega) (λy hy=>HW.o y (rep_in q.o _ (getD_inR H) y hy));clear J K T Y h1 A E;generalize s.a=sa at *;generalize s.n=sn at *;generalize s.c=sc at *;have af:=zh (take_mapE o k H);have ak:((o.take k).map evOf).length≤1000000:=by rw[List.length_map,List.length_take];omega
    generalize (o.take k).map evOf=Z at *;go_wp2_with fail;refine a9.o.mono ?_;rintro e M ⟨v,f2,rfl,hd,r⟩;unfold book.Ev.v;have HX:=zye M #[zI v.kd,zI v.me,zI v.mo,zI v.id,zI v.te,zI v.de,zI v.fe,zI v.pr,zI v.ch,zI v.un,zI v.tg,zI v.ow,zI v.bp] 44;have O:Hid (zB b (M.alloc (.cells #[zI v.kd,zI v.me,zI v.mo,zI v.id,zI v.te,zI v.de,zI v.fe,zI v.pr,zI v.ch,zI v.un,zI v.tg,zI v.ow,zI v.bp] 44))):=(l.o.trans (r.mono l.o.size)).alloc (Nat.le_trans l.o.size r.size) _;have ab:Hid (book.Le (M.alloc (.cells #[zI v.kd,zI v.me,zI v.mo,zI v.id,zI v.te,zI v.de,zI v.fe,zI v.pr,zI v.ch,zI v.un,zI v.tg,zI v.ow,zI v.bp] 44)) b.heap.size U Z):=(R.o.next r).alloc _;have HD:=zh hd;have al:=(Blk.new M #[zI v.kd,zI v.me,zI v.mo,zI v.id,zI v.te,zI v.de,zI v.fe,zI v.pr,zI v.ch,zI v.un,zI v.tg,zI v.ow,zI v.bp] 44).lt;clear hd r ck;go_upto_region 9 with fail
    generalize (M.alloc (.cells #[zI v.kd,zI v.me,zI v.mo,zI v.id,zI v.te,zI v.de,zI v.fe,zI v.pr,zI v.ch,zI v.un,zI v.tg,zI v.ow,zI v.bp] 44))=W3 at *;generalize M.heap.size=gx at *;by_cases A:f2=0
    ·subst A;obtain⟨W,a1⟩:=dec_ok HD.o;have HV:=zh a1.symm
     have S:Hid (∀j,j<k+1→DecOk (o.getD j [])):=λj G=>by
      by_cases e:j=k
      ·subst e;exact W
      ·exact m.o j (by omega)
     have a7:Hid (Blk (W3.alloc (.cells #[zI v.kd,zI v.me,zI v.mo,zI v.id,zI v.te,zI v.de,zI v.fe,zI v.pr,zI v.ch,zI v.un,zI v.tg,zI v.ow,zI v.bp] 44)) W3.heap.size v.cl.toArray 44):=Blk.new W3 _ _;have Q:Hid (book.Le (W3.alloc (.cells #[zI v.kd,zI v.me,zI v.mo,zI v.id,zI v.te,zI v.de,zI v.fe,zI v.pr,zI v.ch,zI v.un,zI v.tg,zI v.ow,zI v.bp] 44)) b.heap.size U Z):=ab.o.alloc _;have C:=zyf O (.cells #[zI v.kd,zI v.me,zI v.mo,zI v.id,zI v.te,zI v.de,zI v.fe,zI v.pr,zI v.ch,zI v.un,zI v.tg,zI v.ow,zI v.bp] 44);clear W a1;go_wp2_with (first|refine zw ?_|(at_builtin;refine book.wp_ev rfl _ _ rfl b.heap.size W3.heap.size U Z v rfl rfl Q.o a7.o ak C.o.size ?_))
     intro v3 w3 E X;have a6:Hid (zB b w3):=tar.own_bel Q.o X C.o zc C.o.size;have H3:=zh E;clear E X;go_wp2_with fail;go_roundw
     case rel=>exact⟨k+1,v3,by omega,by go_num,by first|rfl|trivial,by rw[← af.o,HV.o];exact H3.o,S.o,a6.o⟩
     case measure=>simp[intOf];omega
    ·have d2:(f2 != 0)=true:=by simpa using A
     have P:Hid (KeptIs c [] f2):=⟨o,x,0,q.o,.inr (.inr ⟨rfl,A,rfl,k,H,m.o,by have:=dec_no HD.o A;rw[← this];exact HD.o⟩)⟩
     have D:=zh (i.o.trans (O.o.mono i.o.size));clear A;go_wp2_with fail;go_ret2;exact⟨none,0,0,[],f2,rfl,P.o,ecame_nil _,Nat.zero_le _,D.o⟩
   ·obtain rfl:k=N:=by omega
    have ag:decide ((k:Int)<(k:Int))=false:=by simp
    have ae:Hid (o.take k=o):=List.take_of_length_le (by rw[d.o];exact zc);have P:Hid (KeptIs c (o.map evOf) 0):=⟨o,x,0,q.o,.inr (.inl ⟨rfl,λj G=>m.o j (by rw[← d.o];exact G),rfl,rfl⟩)⟩
    have a3:∀v∈o.map evOf,book.wf13 v:=λv hv=>by
     obtain⟨z,hz,rfl⟩:=List.mem_map.1 hv;obtain⟨j,G,rfl⟩:=List.mem_iff_getElem.1 hz;have e:o.getD j []=o[j]:=by simp[List.getD,List.getElem?_eq_getElem G]
     have:=m.o j (by rw[← d.o];exact G);rw[e] at this;exact book.wf_may this.2
    have I:=R.o;rw[ae.o] at I;obtain⟨pz,cz,a2,F⟩:=I.came (by rw[List.length_map,d.o];omega) a3;have B:(o.map evOf).length=k:=by rw[List.length_map];exact d.o
    rw[B] at a2 F;subst a2;have a8:=zh F;have D:=zh (i.o.trans (l.o.mono i.o.size));clear J K T I F a3 B;go_wp2_with fail;go_ret2;exact⟨pz,k,cz,_,0,rfl,P.o,a8.o,aj,D.o⟩
 ·have d0:(f != 0)=true:=by simpa using h0
  have P:Hid (KeptIs c [] f):=⟨o,x,f,q.o,.inl ⟨h0,rfl,rfl⟩⟩
  clear h0;go_wp2_with fail;go_ret2;exact⟨none,0,0,[],f,rfl,P.o,ecame_nil _,Nat.zero_le _,i.o⟩
end vnd
namespace book
open Go.RowKit
def findV(B:Nat):Value:=.func (.func 110) #[] #[.pointer (some ⟨B,0,none⟩)]
theorem asked_any(B:Nat)(me xm xr xn xo xb xf:Int)(dp:Option Addr)(dn dc:Nat)(sp:Option Addr)(sn sc:Nat)(W:World)(hc:W.cell? ⟨B,0,none⟩=some (zI me))(hB:B<W.heap.size):
  Calls Tryz.prog 110 #[.agg #[zI xm,zI xr,zI xn,zI xo,zI xb,zI xf,.slice dp dn dc,.slice sp sn sc],.pointer (some ⟨B,0,none⟩)] W λe w'=>e=.returned (.bool (xm==me))∧zB W w':=by
 have b:(W.alloc (.cells #[zI xm,zI xr,zI xn,zI xo,zI xb,zI xf,.slice dp dn dc,.slice sp sn sc] 71)).cell? ⟨B,0,none⟩=some (zI me):=by rw[World.cell?_alloc_lt W _ _ hB];exact hc
 have a:Hid (zB W (W.alloc (.cells #[zI xm,zI xr,zI xn,zI xo,zI xb,zI xf,.slice dp dn dc,.slice sp sn sc] 71))):=zb.alloc zc _;clear hc hB;go_enter Tryz.func110,Tryz.ntmps110;go_wp2_with fail;go_ret;exact⟨rfl,a.o⟩
theorem index_cust(B n cap:Nat)(me:Int)(a:Option Addr)(l:List Cu)(w:World)(hc:w.cell? ⟨B,0,none⟩=some (zI me))(hr:RowC w a n l)(hn:n≤2000000):
  Calls Tryz.prog 109 #[.slice a n cap,findV B] w λe w'=>∃x,e=.returned (zI x)∧FoundIs l me x∧zB w w':=by
 have V:=World.block_lt_of_cell? w _ hc
 have HC:Hid (∀wr,zB w wr→∀(d F D E A C:Int)(s:Option Addr)(r m:Nat)(y:Option Addr)(u t:Nat),zC 110 #[.agg #[zI d,zI F,zI D,zI E,zI A,zI C,.slice s r m,.slice y u t],.pointer (some ⟨B,0,none⟩)] wr λe w'=>e=.returned (.bool (d==me))∧zB wr w'):=λwr N d F D E A C s r m y u t=>
  asked_any B me d F D E A C s r m y u t wr ((N.cell (p:=⟨B,0,none⟩) V).trans hc) (Nat.lt_of_lt_of_le V N.size)
 have HR:Hid (RowC w a n l):=hr;have W:Hid (l.length=n):=hr.1;clear hc V hr;unfold findV;go_enter Tryz.func109,Tryz.ntmps109;go_wp2_with fail;go_loopw [8] (λi wr=>∃k:Nat,k≤n∧i=zI (k:Int)∧(∀j,j<k→(l.getD j cu0).me≠me)∧zB w wr) (λi _=>n-(intOf i).toNat)
 case atStart=>exact⟨0,Nat.zero_le _,rfl,(λj J=>absurd J (Nat.not_lt_zero _)),zb⟩
 case round=>
  obtain⟨k,hk,rfl,M,N⟩:=hrel;have Q:Hid (∀j,j<k→(l.getD j cu0).me≠me):=M;have K:Hid (zB w wr):=N;clear M N;by_cases P:k<n
  ·obtain⟨g,h,rfl,l2,O⟩:=HR.o.2.resolve_left (by omega);have c:∀j,j<8→wr.cell? ⟨g,h+k*8+j,none⟩=(l.getD k cu0).cs[j]?:=λj J=>(K.o.cell (p:=⟨g,h+k*8+j,none⟩) l2).trans (O k j P J)
   have T:Hid (∀ z,z=(l.getD k cu0).me→(z=me→FoundIs l me (k:Int))∧(z≠me→∀ j,j<k+1→(l.getD j cu0).me≠me)):=fun z hz=>⟨fun e=> .inl ⟨k,by rw [W.o];exact P,by rw [← hz];exact e,Q.o,rfl⟩,fun e j J=>by
    by_cases q:j=k
    ·subst q;rw[← hz];exact e
    ·exact Q.o j (by omega)⟩
   clear O l2;obtain⟨⟨d,F,D,E,A,C,s,r,m,y,u,t⟩,hx⟩:∃x,x=l.getD k cu0:=⟨_,rfl⟩
   have L:=T.o d (by rw[← hx]);have HY:Hid (d=me→FoundIs l me (k:Int)):=L.1;have U:Hid (d≠me→∀j,j<k+1→(l.getD j cu0).me≠me):=L.2;rw[← hx] at c;clear hx;have c0:wr.cell? ⟨g,h+k*8,none⟩=some (zI d):=c 0 (by decide);have c1:wr.cell? ⟨g,h+k*8+1,none⟩=some (zI F):=c 1 (by decide);have c2:wr.cell? ⟨g,h+k*8+2,none⟩=some (zI D):=c 2 (by decide);have X:wr.cell? ⟨g,h+k*8+3,none⟩=some (zI E):=c 3 (by decide);have Y:wr.cell? ⟨g,h+k*8+4,none⟩=some (zI A):=c 4 (by decide);have Z:wr.cell? ⟨g,h+k*8+5,none⟩=some (zI C):=c 5 (by decide);have c6:wr.cell? ⟨g,h+k*8+6,none⟩=some (.slice s r m):=c 6 (by decide);have c7:wr.cell? ⟨g,h+k*8+7,none⟩=some (.slice y u t):=c 7 (by decide);clear c;have b:=HC.o wr K.o d F D E A C s r m y u t;by_cases I:d=me
   ·have R:Hid (FoundIs l me (k:Int)):=HY.o I;rw[show (d==me)=true by simpa using I] at b;have H:Hid (zC 110 #[.agg #[zI d,zI F,zI D,zI E,zI A,zI C,.slice s r m,.slice y u t],.pointer (some ⟨B,0,none⟩)] wr λe w'=>e=.returned (.bool true)∧zB wr w'):=b;clear b I;go_wp2_with fail;refine H.o.mono ?_;rintro e w' ⟨rfl,f⟩;have G:Hid (zB w w'):=bel_step K.o f;clear f c0 c1 c2 X Y Z c6 c7;go_wp2_with fail;go_ret;exact⟨(k:Int),rfl,R.o,G.o⟩
   ·have R:Hid (∀j,j<k+1→(l.getD j cu0).me≠me):=U.o I;rw[show (d==me)=false by simpa using I] at b;have H:Hid (zC 110 #[.agg #[zI d,zI F,zI D,zI E,zI A,zI C,.slice s r m,.slice y u t],.pointer (some ⟨B,0,none⟩)] wr λe w'=>e=.returned (.bool false)∧zB wr w'):=b;clear b I;go_wp2_with fail;refine H.o.mono ?_;rintro e w' ⟨rfl,f⟩;have G:Hid (zB w w'):=bel_step K.o f;clear f c0 c1 c2 X Y Z c6 c7;go_wp2_with fail;go_roundw
    case rel=>exact⟨k+1,by omega,by go_num,R.o,G.o⟩
    case measure=>simp[intOf];omega
  ·obtain rfl:k=n:=by omega
   have S:Hid (FoundIs l me (-1)):=.inr ⟨λj J=>Q.o j (by rw[← W.o];exact J),rfl⟩;go_wp2_with fail;go_ret;exact⟨-1,rfl,S.o,K.o⟩
theorem pfind(w:World)(p:Option Addr)(n cap:Nat)(l:List Cu)(me:Int)(hr:RowC w p n l)(hn:n≤2000000):Calls Tryz.prog 73 #[.agg #[.slice p n cap],zI me] w λe w'=>FindPost w l me e w':=by
 have B:∀(fn:Fn)(first cap:Array Value)(w:World),(Instr.makeFunc fn first cap).run Tryz.prog w=.ok (.func fn first cap) w:=λ_ _ _ _=>rfl;obtain⟨c,j,g,i,b,-⟩:=sh2 w #[.slice p n cap] 65 #[zI me] 3;have u:Hid (RowC w p n l):=hr;have t:Hid (n≤2000000):=hn;clear hr hn;go_enter Tryz.func73,Tryz.ntmps73;go_upto_region 1 with fail
 rw[j.o];have c0:c.cell? ⟨w.heap.size,0,none⟩=some (.slice p n cap):=g.o.cell 0;have m:=index_cust (w.heap.size+1) n cap me p l c (i.o.cell 0) (u.o.below b.o) t.o;unfold findV at m;have s:Hid (zC 109 #[.slice p n cap,.func (.func 110) #[] #[.pointer (some ⟨w.heap.size+1,0,none⟩)]] c λe w'=>∃x,e=.returned (zI x)∧FoundIs l me x∧zB c w'):=m;clear m;go_wp2_with fail;refine s.o.mono ?_;rintro e w' ⟨x,rfl,d,q⟩;have a:Hid (zB w w'):=bel_step b.o q;clear q c0;by_cases r:x<0
 ·have f:Hid (FindIs l me 0 18):=by
   rcases d with⟨k,_,_,_,e⟩|⟨h,_⟩
   ·omega
   ·exact .inr ⟨h,rfl,rfl⟩
  clear d;go_wp2_with fail;go_ret2;exact⟨0,18,rfl,f.o,a.o⟩
 ·have f:Hid (FindIs l me x 0):=by
   rcases d with⟨k,y,z,A,e⟩|⟨h,e⟩
   ·exact .inl ⟨k,y,z,A,e,rfl⟩
   ·omega
  clear d;go_wp2_with fail;go_ret2;exact⟨x,0,rfl,f.o,a.o⟩
end book
namespace vnd
open disk (RepIs AppIs)
open book (Ev ev0 EMay evL evOf EncIs DecIs Cm cm0 So so0 BookIs Sees ECame FirstAt NoneAt)
open acc (Ac Tm Bi TCame ACame)
open cell (Wr RowU)
open Go.RowKit
def CusP(w:World)(bk:List Cm)(me:Int)(e:Ending)(w':World):Prop:=zB w w'∧((e=.returned (.tuple #[.agg #[zI 0,zI 0,zI 0,zI 0,zI 0,zI 0,zS,zS],zI 18])∧NoneAt bk me) ∨
 ∃ k dp dn dc sp sn sc,e = .returned (.tuple #[.agg #[zI (bk.getD k cm0).a.me,zI (bk.getD k cm0).a.rv,zI (bk.getD k cm0).a.nx,zI (bk.getD k cm0).a.mo,zI (bk.getD k cm0).a.bo,zI (bk.getD k cm0).a.fr,.slice dp dn dc,.slice sp sn sc],zI 0])∧FirstAt bk me k∧k<bk.length∧tar.Came w dp dn dc (bk.getD k cm0).a.ds∧book.RowS w sp sn (bk.getD k cm0).so)
theorem find_first{xs:List book.Cu}{bk:List Cm}{me x f:Int}(hl:xs.length=bk.length)(hn:∀i,i<xs.length→book.Nums (xs.getD i book.cu0) (bk.getD i cm0).a)(h:book.FindIs xs me x f):(f=18∧NoneAt bk me)∨(∃k:Nat,x=(k:Int)∧f=0∧FirstAt bk me k∧k<xs.length):=by
 rcases h with⟨k,b,e,d,g,l⟩|⟨b,e,d⟩
 ·refine .inr ⟨k,g,l,⟨by rw[← hl];exact b,by rw[← (hn k b).1];exact e,λj c=>by rw[← (hn j (by omega)).1];exact d j c⟩,b⟩
 ·exact .inl ⟨d,λj c=>by rw[← (hn j (by rw[hl];exact c)).1];exact b j (by rw[hl];exact c)⟩
theorem pcust(p2:Option Addr)(m2 c2:Nat)(xs:List book.Cu)(bk:List Cm)(a:Option Addr)(n cap:Nat)(q me:Int)(w:World)(h:Sees w p2 m2 xs bk)(hm:m2≤120):Calls Tryz.prog 37 #[.agg #[.slice p2 m2 c2,.slice a n cap,zI q],zI me] w λe w'=>CusP w bk me e w':=by
 have d:=zh h;clear h;obtain⟨W0,R,C,I,H,a1⟩:=sh2 w #[.slice p2 m2 c2,.slice a n cap,zI q] 93 #[zI 0,zI 0,zI 0,zI 0,zI 0,zI 0,zS,zS] 71;go_enter Tryz.func37,Tryz.ntmps37;go_upto_region 1 with fail
 rw[R.o];have N:=zh (book.pfind W0 p2 m2 c2 xs me (d.o.below H.o).row (by omega));have F:=zy0 C
 go_wp2_with (first
  |(refine zqw rfl rfl rfl C zqu93 ?_)
  |(refine zqw rfl rfl rfl I zqu71 ?_)
  | fail)
 refine N.o.mono ?_;rintro e z ⟨x,f,rfl,K,B⟩;obtain⟨s,A⟩:=zn2 B C I;have D:=shB H B;have a0:=B.size;clear B;clear F;have Y:=find_first d.o.len d.o.num K;clear K;rcases Y with⟨rfl,u⟩|⟨k,rfl,rfl,m,r⟩
 ·have Q:=zh u;clear u
  go_wp2_with (first
   |(refine zql rfl rfl rfl rfl zqu71 (by simp[Value.oneCell']) A rfl ?_)
   |(refine zqw rfl rfl rfl s zqu93 ?_)
   |(refine zqw rfl rfl rfl A zqu71 ?_)
   | fail)
  intro G t;have M:=zk1 t s;have E:=zk t D;have c:=zyb t;have L:=t.size;clear t;have S:Hid (G.cell? ⟨w.heap.size+1,3,none⟩=some (zI 0)):=c.o.cell 3;have T:Hid (G.cell? ⟨w.heap.size+1,4,none⟩=some (zI 0)):=c.o.cell 4;have U:Hid (G.cell? ⟨w.heap.size+1,5,none⟩=some (zI 0)):=c.o.cell 5;have V:Hid (G.cell? ⟨w.heap.size+1,6,none⟩=some (zS)):=c.o.cell 6;have W:Hid (G.cell? ⟨w.heap.size+1,7,none⟩=some (zS)):=c.o.cell 7;go_wp2_with fail;exact zr (.tuple #[.agg #[zI 0,zI 0,zI 0,zI 0,zI 0,zI 0,zS,zS],zI 18]) (by simp[results,Tryz.results37,zy0 c,zy1 c,zy2 c,S.o,T.o,U.o,V.o,W.o,go_sem]) ⟨E.o,.inl ⟨rfl,Q.o⟩⟩
 ·have O:Hid (FirstAt bk me k):=m;have p:Hid (Sees z p2 m2 xs bk):=d.o.below D.o;have P:Hid (k<bk.length):=by rw[← d.o.len];exact r
  have J:Hid (tar.Came w (xs.getD k book.cu0).dp (xs.getD k book.cu0).dn (xs.getD k book.cu0).dc (bk.getD k cm0).a.ds∧book.RowS w (xs.getD k book.cu0).sp (xs.getD k book.cu0).sn (bk.getD k cm0).so):=⟨d.o.ds k r,d.o.so k r⟩
  obtain⟨cb,co,hpp,hcl,hcc⟩:∃b off,p2=some ⟨b,off,none⟩∧b<z.heap.size∧∀i j,i<m2→j<8→z.cell? ⟨b,off+i*8+j,none⟩=(xs.getD i book.cu0).cs[j]?:=by
   rcases p.o.row.2 with h|h
   ·have:=p.o.row.1;omega
   ·exact h
  subst hpp;have g:k<m2:=by have:=p.o.row.1;omega
  have l:=p.o.num k r;have X:=p.o.ds k r;have y0:z.cell? ⟨cb,co+k*8,none⟩=some (zI (bk.getD k cm0).a.me):=(hcc k 0 g (by decide)).trans (by rw[← l.1];rfl);have y1:z.cell? ⟨cb,co+k*8+1,none⟩=some (zI (bk.getD k cm0).a.rv):=(hcc k 1 g (by decide)).trans (by rw[← l.2.1];rfl);have y2:z.cell? ⟨cb,co+k*8+2,none⟩=some (zI (bk.getD k cm0).a.nx):=(hcc k 2 g (by decide)).trans (by rw[← l.2.2.1];rfl);have y3:z.cell? ⟨cb,co+k*8+3,none⟩=some (zI (bk.getD k cm0).a.mo):=(hcc k 3 g (by decide)).trans (by rw[← l.2.2.2.1];rfl);have y4:z.cell? ⟨cb,co+k*8+4,none⟩=some (zI (bk.getD k cm0).a.bo):=(hcc k 4 g (by decide)).trans (by rw[← l.2.2.2.2.1];rfl);have y5:z.cell? ⟨cb,co+k*8+5,none⟩=some (zI (bk.getD k cm0).a.fr):=(hcc k 5 g (by decide)).trans (by rw[← l.2.2.2.2.2];rfl);have y6:z.cell? ⟨cb,co+k*8+6,none⟩=some (.slice (xs.getD k book.cu0).dp (xs.getD k book.cu0).dn (xs.getD k book.cu0).dc):=hcc k 6 g (by decide);have y7:z.cell? ⟨cb,co+k*8+7,none⟩=some (.slice (xs.getD k book.cu0).sp (xs.getD k book.cu0).sn (xs.getD k book.cu0).sc):=hcc k 7 g (by decide);clear hcc l;generalize (xs.getD k book.cu0).dp=dp at *;generalize (xs.getD k book.cu0).dn=dn at *;generalize (xs.getD k book.cu0).dc=dc at *;generalize hy:(bk.getD k cm0).a=y at *;have Z:Hid ((bk.getD k cm0).a=y):=hy;clear hy;generalize (xs.getD k book.cu0).sp=sp at *;generalize (xs.getD k book.cu0).sn=sn at *;generalize (xs.getD k book.cu0).sc=sc at *;clear X m r p d;have F:=zy0 s
  go_wp2_with (first
   |(refine zql rfl rfl rfl rfl zqu71 (by simp[Value.oneCell']) A rfl ?_)
   |(refine zqw rfl rfl rfl s zqu93 ?_)
   |(refine zqw rfl rfl rfl A zqu71 ?_)
   | fail)
  intro G t;have M:=zk1 t s;have E:=zk t D;have c:=zyb t;have L:=t.size;clear t;clear F;go_wp2_with fail;exact zr (.tuple #[.agg #[zI y.me,zI y.rv,zI y.nx,zI y.mo,zI y.bo,zI y.fr,.slice dp dn dc,.slice sp sn sc],zI 0]) (by simp[results,Tryz.results37,scl8 c,go_sem]) ⟨E.o,.inr ⟨k,dp,dn,dc,sp,sn,sc,by rw[Z.o],O.o,P.o,by rw[Z.o];exact J.o.1,J.o.2⟩⟩
open disk (May repD lenAt appW)
open book (Tells billOf soldOf StepIs HapIs)
open acc (SellIs GrantIs RekeyIs OweIs)
open ora (Pr IssueIs)
open rcp (Rc rc0)
theorem grant_ev{a:Ac}{t:Tm}{mo:Int}{b:Ac}{l:Bi}{me tg:Int}(h:GrantIs a t mo b l 0)(ha:a.me=me)(ht:0≤tg∧tg≤65535):EMay (tokE 3 me mo l tg):=by
 rcases h with⟨h,rfl,rfl⟩|⟨_,_,h,_⟩|⟨_,_,_,h,_⟩|⟨_,_,_,_,h,_⟩|⟨d,f,_,g,_,rfl,rfl⟩
 ·rcases h with⟨_,h⟩|⟨_,e,c⟩|⟨_,_,_,h⟩
  ·cases h
  ·exact absurd (c.ok.1 rfl) e
  ·exact absurd rfl h.ne
 ·cases h
 ·cases h
 ·cases h
 ·have c:=d.2.1.2.2.2.2;exact⟨by rw[← ha];exact d.1.2.1,.inr (.inr ⟨⟨by show (2:Int)≤3;omega,by show (3:Int)≤4;omega⟩,⟨d.1.2.2.2.1.1,g⟩,ht,⟨rfl,rfl⟩,.inr ⟨by show (3:Int)≠4;omega,d.2.2.1,⟨by show 1≤t.al;have:=c.1;omega,c.2⟩,.inl ⟨rfl,rfl,rfl,rfl,rfl,rfl⟩⟩⟩)⟩
end vnd
namespace acc
open Go.ChangeShapes Go.WideShapes Go.ChangeAt Go.RowKit Go.Deep
theorem open_terms{H:Type}{enc:TypeId × Value→H}{W:World}{r:Reach}{b0 b1:Nat}{held:Bool}{v:Value}{d:DataW H}{ps:List MemPlace}
  (hval:Value.okWide Tryz.prog W r b0 24 v) (h:DataW.Trod enc Tryz.prog W b1 (λ_=>true) held 24 v d ps) (hs:∀n∈d.weights Tryz.prog 24,n≤reachBytes):
  ∃(x:Tm)(p:Option Addr)(len cap:Nat),v=x.v p len cap∧TCame W x p len cap:=by
 have u:=Tryz.underlying24;have hc:Tryz.prog.cellsOf 24=5:=by kernel_rfl
 have Z:Tryz.prog.cellsOf 3=1:=by kernel_rfl
 have s:Tryz.prog.cellsOf 22=1:=by kernel_rfl
 obtain⟨cs,rfl,k⟩:=okWide_struct u hval;rw[hc] at k
 obtain⟨c0,c1,c2,c3,c4,rfl⟩:∃c0 c1 c2 c3 c4,cs=#[c0,c1,c2,c3,c4]:=by
  cases cs with
  |mk l=>match l,k with
   |[c0,c1,c2,c3,c4],_=>exact⟨c0,c1,c2,c3,c4,rfl⟩
 obtain⟨F,hf⟩:=h;obtain⟨xs,n,N,hd,_,g,f⟩:=DataW.trod_struct u hf
 match xs,g with
 |[y0,y1,y2,y3,y4],_=>
  have G:=f 0 _ rfl;have I:=f 1 _ rfl;have J:=f 2 _ rfl;have K:=f 3 _ rfl;have L:=f 4 _ rfl;simp[Value.cells,Z,s] at G I J K L;obtain⟨U,B,-,Q⟩:=DataW.trod_int Tryz.underlying3 I;obtain⟨V,C,-,R⟩:=DataW.trod_int Tryz.underlying3 J;obtain⟨X,D,-,S⟩:=DataW.trod_int Tryz.underlying3 K;obtain⟨Y,E,-,T⟩:=DataW.trod_int Tryz.underlying3 L;simp at B C D E;subst B C D E;rcases Deep.open_slice_pairs Tryz.underlying22 Tryz.underlying214 (by kernel_rfl) rfl rfl (by kernel_rfl) (by kernel_rfl) G with⟨b,_⟩|⟨x,l,c,A,fu,V0,V1,D0,D1,P0,P1,b,_,hl,hm,i,hy,e⟩
  ·simp at b;subst b;exact⟨⟨[],U,V,X,Y⟩,none,0,0,rfl,⟨tar.RowD.nil _ _,(λ_=>rfl),zc,by omega,(λx N=>by cases N)⟩,⟨Q,R,S,T⟩⟩
  ·simp at b;subst b;simp only[if_true] at i;subst i
   have hr:=tar.rowD_of (len:=l) (w:=W) (a:=x) (m:=A) (by omega) (fun j hj=>by
    obtain⟨O,P,t0,t1⟩:=e j hj;obtain⟨z0,o,_,y⟩:=DataW.trod_int Tryz.underlying3 t0;obtain⟨z1,q,_,z⟩:=DataW.trod_int Tryz.underlying3 t1;simp only[List.cons.injEq,and_true] at o q;rw[o] at O;rw[q] at P
    exact ⟨z0,z1,O,P,y,z⟩)
   obtain⟨zs,r1,r2⟩:=hr;subst hy;obtain⟨t,_⟩:=Prod.mk.inj hd;subst t;have M:=hs ((l+(A-l))*Tryz.prog.bytesOf 214) (by simp[DataW.weights,u,DataW.weightsEach,Tryz.underlying22]);rw[show Tryz.prog.bytesOf 214=16 from by kernel_rfl] at M;simp only[reachBytes] at M;exact⟨⟨zs,U,V,X,Y⟩,some x,l,A,rfl,⟨r1,(λh=>by cases h),hl,by omega,r2⟩,⟨Q,R,S,T⟩⟩
end acc
end Go.Proofs.YtoepgdhiepedeaaGreatDoor
