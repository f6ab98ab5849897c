import Derived.Test.YtoepgdhiepedeaaGreatDoorVVSls35
import Derived.Test.YtoepgdhiepedeaaGreatDoorVVSls37
set_option linter.unusedVariables false
set_option linter.unusedSimpArgs false
set_option maxHeartbeats 4000000
set_option maxRecDepth 100000
namespace Go.Proofs.YtoepgdhiepedeaaGreatDoor
namespace vnd
open disk (RepIs AppIs RepPost AppPost Lr Recs Sli sl0)
open book (Ev ev0 EMay evL evOf EncIs DecIs Cm cm0 So so0 BookIs BookPost Sees ECame RowE FirstAt NoneAt Tells EncPost DecPost)
open acc (Ac Tm Bi SellIs GrantIs RekeyIs OweIs)
open cell (Wr RowU RowW Lw Ws)
open Go.RowKit
theorem keep_few{c:List Int}{v:Ev}{ls:List Wr}{f:Int}(h:KeepIs c v ls f):ls.length≤66:=by
 obtain⟨l,e,_,⟨_,rfl,_⟩|⟨_,a,g,_,⟨_,rfl,_⟩|⟨_,q⟩⟩⟩:=h
 ·simp
 ·simp
 ·exact disk.app_few q
open ora (Pr IssueIs)
open rcp (Rc rc0)
open token (Tok fmtL)
def TokPost(w:World)(R:List Wr→List Pr→Rc→Int→Prop)(e:Ending)(w':World):Prop:=∃V ls p5 n5 c5 o' r f,e=.returned (.tuple #[V,.agg #[.slice p5 n5 c5],rcp.Rc.v r,zI f])∧R ls o' r f∧Lw w' w.heap.size V ls∧ora.RowP w' p5 n5 o'∧(p5=none→c5=0)∧n5≤c5∧(∀y,p5=some y→w.heap.size≤y.block)∧zB w w'
theorem lw_upd{w W:World}{g base:Nat}{cs:Array Value}{T:TypeId}{v:Value}{l:List Wr}(h:Lw w base v l)(hU:Upd w W g cs T)(hg:g<base):Lw W base v l:=by
 refine⟨h.1,?_⟩;rcases h.2 with d|⟨q,a,b,f,e,c,rest⟩
 ·exact .inl d
 ·exact .inr ⟨q,a,b,f,e,hU.keep c (by omega),rest⟩
def KFm:Prop:=∀(k:Tok)(W:World),k.ok→zC 28 #[k.v] W λe w'=>e=.returned (.tuple #[.string (token.fmtB (97*k.num)),zI 0])∧zB W w'
theorem rkeeps(a:Option Addr)(n cap:Nat)(c:List Int)(v:Ev)(w:World)(h:RowU w a n c)(hw:∀x∈c,0≤x∧x<4294967296):Calls Tryz.prog 27 #[.slice a n cap,.agg #[zI v.kd,zI v.me,zI v.mo,zI v.id,zI v.te,zI v.de,zI v.fe,zI v.pr,zI v.ch,zI v.un,zI v.tg,zI v.ow,zI v.bp]] w λe w'=>WrPost w (KeepIs c v) e w':=by
 have T:Hid (∀W,zB w W→RowU W a n c):=λW hW=>h.below hW;have U:=zh hw;clear h hw;obtain⟨P,O,H,s,a4⟩:=sh1 w #[zI v.kd,zI v.me,zI v.mo,zI v.id,zI v.te,zI v.de,zI v.fe,zI v.pr,zI v.ch,zI v.un,zI v.tg,zI v.ow,zI v.bp] 44;go_enter Tryz.func27,Tryz.ntmps27;go_upto_region 1 with fail
 rw[O.o];have N:Hid (zC 42 #[.slice a n cap] P λe w'=>KeptPost P c e w'):=rkept a n cap c P (T.o _ s.o) U.o;go_wp2_with refine zw ?_;refine N.o.mono ?_;rintro e w1 ⟨p,m,cp,l,f,rfl,hk,A,hm,b⟩;have I:=shN H b;have t:=shB s b;have a0:=b.size;clear b;have k:=zh hk;have q:=zh A.row.1;clear hk A;by_cases F:m<120
 ·have d1:decide (120≤(m:Int))=false:=decide_eq_false (by omega);have Q:decide (120≤m)=false:=decide_eq_false (by omega);have M:=zh (book.rencoded v w1);go_wp2_with refine zw ?_;refine M.o.mono ?_;rintro e S ⟨V,r,g,rfl,B,E,d⟩;have J:=shN I d;have j:=shB t d;have a1:=d.size;clear d;have u:=zh B;clear B;by_cases G:g=0
  ·subst G;obtain⟨pw,Y,rfl,D⟩:=E.row;have L:Hid (zC 58 #[.slice a n cap,.slice pw r.length Y] S λe w'=>AppPost S c r e w'):=disk.appended a n cap c pw r.length Y r S (T.o _ j.o) U.o D.1;clear D E;go_wp2_with refine zw ?_;refine L.o.mono ?_;rintro e w3 ⟨X,R,Z,rfl,C,z,i⟩;have a3:=shN J i;have K:=shB j i;have a2:=i.size;clear i;have y:Hid (KeepIs c v R Z):=⟨l,f,k.o,.inr ⟨by rw[q.o];exact F,r,0,u.o,.inr ⟨rfl,z⟩⟩⟩
   have HL:Hid (Lw w3 w.heap.size X R):=lw_low C (by omega);clear C z;go_wp2_with fail;go_ret2;exact⟨X,R,Z,rfl,y.o,HL.o,K.o⟩
  ·have d2:(g != 0)=true:=by simpa using G
   have y:Hid (KeepIs c v [] g):=⟨l,f,k.o,.inr ⟨by rw[q.o];exact F,r,g,u.o,.inl ⟨G,rfl,rfl⟩⟩⟩
   clear G;go_wp2_with fail;go_ret2;exact⟨_,[],g,rfl,y.o,cell.Lw.zero _ _,j.o⟩
 ·have d1:decide (120≤(m:Int))=true:=decide_eq_true (by omega);have Q:decide (120≤m)=true:=decide_eq_true (by omega);have y:Hid (KeepIs c v [] 16):=⟨l,f,k.o,.inl ⟨by rw[q.o];exact F,rfl,rfl⟩⟩
  clear F;go_wp2_with fail;go_ret2;exact⟨_,[],16,rfl,y.o,cell.Lw.zero _ _,t.o⟩
end vnd
namespace disk
open Go.RowKit cell
def JR(w:World)(c:List Int)(k:Nat)(W:World):Prop:=∃V sl,Box w w.heap.size V sl (itD c k).1 W
theorem kreplay:KReplay:=by
 intro w a n l c h q d D L;have N:JR w c 0 (w.alloc (.cells #[zS] 140)):=⟨zS,[],Blk.new _ _ _,Lr.zero _ _ _,Recs.nil _ _,(λi y=>by cases y),zb.alloc zc _⟩
 have O:Hid (zC 121 #[.slice a n l,.func (.func 148) #[] #[.pointer (some ⟨w.heap.size,0,none⟩)]] (w.alloc (.cells #[zS] 140)) λe M=>EPost (JR w c) c e M):=by
  refine each_any 148 #[.pointer (some ⟨w.heap.size,0,none⟩)] (JR w c) a n l c _ (λk W F=>?_) N d L (λ_ _=>by kernel_rfl) ?_
  ·obtain⟨V,z,j⟩:=F;exact h.below j.bel
  ·intro k p m b o W F hp E U Q R h3;obtain⟨V,z,j⟩:=F;have X:z.length≤1000000:=by have:=j.recs.1;have:=it_count c k;omega
   refine(put_record w w.heap.size V z _ (recAt c p) b o m W j U Q R X).mono ?_;rintro e M ⟨rfl,P,I,C⟩;refine⟨rfl,P,I,?_⟩;rw[E];exact C
 clear h q d D L;go_enter Tryz.func104,Tryz.ntmps104;go_wp2_with fail;refine O.o.mono ?_;rintro e w1 ⟨x,f,k,rfl,⟨V,z,j⟩,y⟩;have t:=zh j;have K:=zh y;clear j y;by_cases hf:f=0
 ·have u:Hid (RepIs c (itD c k).1 x 0):=by
   rcases K.o with⟨_,_,e⟩|⟨_,_,_,e⟩|⟨s,H,Y,Z,_⟩
   ·rw[hf] at e;exact absurd e (by decide)
   ·rw[hf] at e;exact absurd e (by decide)
   ·exact .inr (.inr ⟨s,H,by rw[Y],Z,rfl⟩)
  have q0:=t.o.blk.cell 0;obtain⟨va,vc,S,r⟩:=t.o.reads;have B:=zh r;have g:=zh t.o.bel;subst hf;subst S;clear r;generalize (itD c k).1=J at *;have A:Hid (J.length≤100000):=Nat.le_trans (rep_few u.o).1 (by decide);generalize G:J.length=zl at *;clear G;go_wp2_with fail;go_ret3;exact⟨va,_,vc,J,x,0,rfl,B.o,A.o,u.o,g.o⟩
 ·have u:Hid (RepIs c [] 0 f):=by
   rcases K.o with⟨s,_,e⟩|⟨s,H,_,e⟩|⟨_,_,_,_,e⟩
   ·exact .inl ⟨s,rfl,rfl,e⟩
   ·exact .inr (.inl ⟨s,H,rfl,rfl,e⟩)
   ·exact absurd e hf
  have g:=zh t.o.bel;have T:(f != 0)=true:=by simpa using hf
  clear hf;go_wp2_with fail;go_ret3;exact⟨none,0,0,[],0,f,rfl,⟨rfl,.inl rfl⟩,Nat.zero_le _,u.o,g.o⟩
end disk
namespace book
open Go.RowKit cell
theorem ws_upd{w W:World}{base g:Nat}{cs:Array Value}{t:TypeId}{v:Value}{l:List Int}(h:Ws w base v l)(hU:Upd w W g cs t)(hg:g<base):Ws W base v l:=by
 refine⟨h.1,?_⟩;rcases h.2 with f|⟨c,a,b,i,d,e,rest⟩
 ·exact .inl f
 ·exact .inr ⟨c,a,b,i,d,by rw[hU.oth c (by omega)];exact e,rest⟩
theorem kenc:KEnc:=by
 intro w v S;clear S;unfold Ev.v;have a0:∀(fn:Fn)(first g:Array Value)(w:World),(Instr.makeFunc fn first g).run Tryz.prog w=.ok (.func fn first g) w:=λ_ _ _ _=>rfl;have B:Hid (∀W,zC 119 #[.agg #[zI v.kd,zI v.me,zI v.mo,zI v.id,zI v.te,zI v.de,zI v.fe,zI v.pr,zI v.ch,zI v.un,zI v.tg,zI v.ow,zI v.bp]] W λe t=>MustPost W v e t):=λW=>bmust v W;have F:Hid (EMay v→∀W,zC 120 #[.agg #[zI v.kd,zI v.me,zI v.mo,zI v.id,zI v.te,zI v.de,zI v.fe,zI v.pr,zI v.ch,zI v.un,zI v.tg,zI v.ow,zI v.bp]] W λe t=>∃V,e=.returned V∧Ws t W.heap.size V (evL v)∧zB W t):=λd W=>bwords v (may_word d) W;obtain⟨W1,H,p,z,u,-⟩:=sh2 w #[zI v.kd,zI v.me,zI v.mo,zI v.id,zI v.te,zI v.de,zI v.fe,zI v.pr,zI v.ch,zI v.un,zI v.tg,zI v.ow,zI v.bp] 44 #[zI 0] 36;go_enter_defers Tryz.func76,Tryz.ntmps76;go_upto_region 2 with fail
 rw[H.o];obtain⟨c0,c1,c2,J,K,L,M,N,O,P,j,k,l⟩:=scl13 p;go_wp2_with fail;refine(B.o _).mono ?_;rintro e W2 ⟨d,b⟩;obtain⟨I,i⟩:=zn2 b p z;have m:=shB u b;clear b c0 c1 c2 J K L M N O P j k l;rcases d with⟨d,rfl⟩|⟨d,rfl⟩
 ·have HY:=zh d;have G:=F.o d;have n:=zh G;clear d;obtain⟨c0,c1,c2,J,K,L,M,N,O,P,j,k,l⟩:=scl13 I;go_wp2_with fail;refine(n.o _).mono ?_;rintro e W3 ⟨V,rfl,X,b⟩;have Y:=shN i b;have x:=shB m b;have C:=zh X;have q:=zh i.o.lt;clear b X c0 c1 c2 J K L M N O P j k l;go_wp2_with refine zl ?_;intro W4 c;have A:=zyb c;have y:=zk c x;have D:=zh (ws_upd C.o c q.o);clear c;go_wp2_with fail;refine leaves_cons (f:=118) (args:=#[.pointer (some ⟨w.heap.size+1,0,none⟩)]) (by simp) (by simp[go_sem]) ?_;refine(encode_idle (w.heap.size+1) 0 _ A.o).mono ?_;rintro e U s ⟨rfl,Q,W,b,c⟩;have T:=zx0 c;have h:zB w s:=c.bel _ _ (by omega) (bel_step y.o b);have E:=ws_upd (D.o.next b) c q.o;obtain⟨a,g,R,r,h1,h2⟩:=E.row;show Leaves _ _ _ _ [] (settle U) s;rw[Q];refine⟨.tuple #[V,zI 0],by simp[results,Tryz.results76,T,go_sem],?_⟩;subst R;exact⟨a,_,g,evL v,0,rfl,.inl ⟨HY.o,rfl,rfl⟩,r,h1,h2,by rw[evL_len];exact zc,h⟩
 ·have Z:=zh d;clear d;refine leaves_cons (f:=118) (args:=#[.pointer (some ⟨w.heap.size+1,0,none⟩)]) (by simp) (by simp[go_sem]) ?_;refine(encode_caught (w.heap.size+1) 0 5 _ i.o).mono ?_;rintro e U s ⟨rfl,Q,W,b,c⟩;have T:=zx0 c;have h:zB w s:=c.bel _ _ (by omega) (bel_step m.o b);show Leaves _ _ _ _ [] (settle U) s;rw[Q];refine⟨.tuple #[zS,zI 5],by simp[results,Tryz.results76,T,go_sem],?_⟩;exact⟨none,0,0,[],5,rfl,.inr ⟨Z.o,rfl,rfl⟩,RowU.nil _ _,λ_=>rfl,zc,Nat.zero_le _,h⟩
end book
namespace words
open Go.RowKit
theorem str_zero:strOf (decL 0)=⟨#[48]⟩:=by rw[decL_one (by decide)];rfl
theorem text_zero(z:Nat)(w:World)(hg:Bg w z 0):
  Calls Tryz.prog 95 #[.pointer (some ⟨z,0,none⟩),zI 10] w λe w'=>StrPost w 0 e w':=by
 obtain⟨a,n,c,b,d⟩:=hg;have g:n=0:=by have:=d.len;rw[dig_zero] at this;simpa using this.symm
 subst g;obtain⟨c0,c1⟩:=bg_at b (Below.refl _ w);have f:Hid (StrPost w 0 (.returned (.string ⟨#[48]⟩)) w):=⟨by rw[str_zero],zb⟩
 clear d b;go_enter Tryz.func95,Tryz.ntmps95;go_wp2_with fail;go_ret;exact f.o
theorem string_any(z m:Nat)(w:World)(hg:Bg w z m)(hl:(dig m).length≤100)(hd:(decL m).length≤100):
  Calls Tryz.prog 60 #[.pointer (some ⟨z,0,none⟩)] w λe w'=>StrPost w m e w':=by
 have c:Hid (zC 95 #[.pointer (some ⟨z,0,none⟩),zI 10] w λe w'=>StrPost w m e w'):=by
  by_cases d:m=0
  ·subst d;exact text_zero z w hg
  ·exact text_any z m w hg (by omega) hl hd
 clear hg;go_enter Tryz.func60,Tryz.ntmps60;go_wp2_with fail;refine c.o.mono ?_;rintro e f ⟨rfl,a⟩;have b:Hid (zB w f):=a;clear a;go_wp2_with fail;go_ret;exact⟨rfl,b.o⟩
end words
namespace token
open words
open Go.RowKit
theorem zero_cat(n:Nat)(D:ByteArray):(⟨#[48]⟩:ByteArray)++((⟨(List.replicate n 48).toArray⟩:ByteArray)++D)=(⟨(List.replicate (n+1) 48).toArray⟩:ByteArray)++D:=by
 apply bytes_ext;simp[List.replicate_succ]
theorem zero_size(n:Nat)(D:ByteArray):((⟨(List.replicate n 48).toArray⟩:ByteArray)++D).size=n+D.size:=by
 rw[ByteArray.size_append]
 congr 1
 show (List.replicate n (48:UInt8)).toArray.size=n;simp
theorem zero_nil(D:ByteArray):(⟨(List.replicate 0 48).toArray⟩:ByteArray)++D=D:=by
 apply bytes_ext;simp
theorem formatted_ok(k:Tok)(w:World)(hk:k.ok):
  Calls Tryz.prog 28 #[k.v] w λe w'=>e=.returned (.tuple #[.string (fmtB (97*k.num)),zI 0])∧zB w w':=by
 have I:Hid (∀W,zC 52 #[.agg #[zI (k.c:Int),zI (k.i:Int),zI (k.a:Int),zI (k.t:Int)]] W λe w'=>e=.returned (zI 0)∧zB W w'):=λW=>by
  have:=fault_any k.c k.i k.a k.t W
  rwa [flaw_tok.2 hk] at this
 have N:Hid (∀W,zC 59 #[.agg #[zI (k.c:Int),zI (k.i:Int),zI (k.a:Int),zI (k.t:Int)]] W λe w'=>NewPost W (k.num*97) e w'):=λW=>number_any k W hk;have A:=num_bd hk;have d:=dec_len20 (V:=k.num*97) (by omega);have f:=str_size (decL (k.num*97));have O:Hid (∀(n:Nat) W,Bg W n (k.num*97)→zC 60 #[.pointer (some ⟨n,0,none⟩)] W λe w'=>e=.returned (.string (strOf (decL (k.num*97))))∧zB W w'):=λn W R=>string_any n _ W R (len100 (Nat.lt_trans (show k.num*97<73786976294838206464 by omega) (by decide))) (by omega)
 have P:Hid (∀n:Nat,n+(strOf (decL (k.num*97))).size=20→(⟨(List.replicate n 48).toArray⟩:ByteArray)++strOf (decL (k.num*97))=fmtB (97*k.num)):=λn m=>by
  rw[← rep_list,pad_fmt _ _ (by rw[← f];exact m),Nat.mul_comm]
 have G:Hid (zB w (w.alloc (.cells #[zI (k.c:Int),zI (k.i:Int),zI (k.a:Int),zI (k.t:Int)] 73))):=bel_box _ _;have L:Hid (Blk (w.alloc (.cells #[zI (k.c:Int),zI (k.i:Int),zI (k.a:Int),zI (k.t:Int)] 73)) w.heap.size #[zI (k.c:Int),zI (k.i:Int),zI (k.a:Int),zI (k.t:Int)] 73):=Blk.new _ _ _;rw[← f] at d;clear hk A f;generalize strOf (decL (k.num*97))=D at *;unfold Tok.v;go_enter Tryz.func28,Tryz.ntmps28;go_wp2_with fail;refine(I.o _).mono ?_;rintro e X ⟨rfl,b⟩;have p:=shB G b;have g:=L.o.next b;have c0:=g.cell 0;have c1:=g.cell 1;have c2:=g.cell 2;have Q:=g.cell 3;clear b g;go_wp2_with fail;refine(N.o _).mono ?_;rintro e U ⟨z,rfl,S,l,h⟩;have q:=shB p h;have J:Hid (Bg U z (k.num*97)):=l;clear h l S c0 c1 c2 Q;go_wp2_with fail;refine(O.o _ _ J.o).mono ?_;rintro e Y ⟨rfl,j⟩;have r:=shB q j;clear j;go_wp2_with fail;go_loop [5] (λv=>∃n:Nat,n+D.size≤20∧v=.string ((⟨(List.replicate n 48).toArray⟩:ByteArray)++D)) (λv=>20-(match v with | .string s=>s.size|_=>0))
 case atStart=>exact⟨0,by omega,by rw[zero_nil]⟩
 case round=>
  obtain⟨n,m,rfl⟩:=hrel;have B:=zero_size n D;have E:Hid ((⟨#[48]⟩:ByteArray)++((⟨(List.replicate n 48).toArray⟩:ByteArray)++D)=(⟨(List.replicate (n+1) 48).toArray⟩:ByteArray)++D):=zero_cat n D;have M:Hid (n+D.size=20→(⟨(List.replicate n 48).toArray⟩:ByteArray)++D=fmtB (97*k.num)):=P.o n;have u:Hid (((⟨(List.replicate (n+1) 48).toArray⟩:ByteArray)++D).size=n+1+D.size):=zero_size (n+1) D;by_cases y:n+D.size<20
  ·generalize (⟨(List.replicate n 48).toArray⟩:ByteArray)++D=Z at *;have C:(Z.size:Int)<20:=by omega
   have T:¬ 9223372036854775807<1+Z.size:=by omega
   have K:Hid (n+1+D.size≤20):=(by omega:n+1+D.size≤20)
   have x:Hid (Z.size=n+D.size):=B;clear B m d;go_wp2_with fail;go_round
   case rel=>exact⟨n+1,K.o,by rw[← E.o]⟩
   case measure=>
    show 20-((⟨#[48]⟩:ByteArray)++Z).size<20-Z.size;rw[E.o,u.o,x.o];omega
  ·have F:=M.o (by omega);have H:Hid ((⟨(List.replicate n 48).toArray⟩:ByteArray)++D=fmtB (97*k.num)):=F;clear F;generalize (⟨(List.replicate n 48).toArray⟩:ByteArray)++D=Z at *;have C:¬ (Z.size:Int)<20:=by omega
   clear B y m d;go_wp2_with fail;refine bodyPost_ret (v:=.tuple #[.string Z,zI 0]) (by simp[results,Tryz.results28,go_sem]) rfl ⟨by rw[H.o],r.o⟩
end token
namespace ora
open Go.ChangeShapes Go.WideShapes Go.ChangeAt Go.RowKit Go.Deep
theorem fours{H:Type}{enc:TypeId × Value→H}{w:World}{base:Nat}{held:Bool}{t e:TypeId}{f0 f1 f2 f3:Field}{fuel:Nat}{cs:List Value}{x:DataW H × List MemPlace}
  (ht:Tryz.prog.underlying t=some (.slice e)) (he:Tryz.prog.underlying e=some (.struct #[f0,f1,f2,f3])) (ce:Tryz.prog.cellsOf e=4)
  (o0:f0.offset=0) (o1:f1.offset=1) (o2:f2.offset=2) (o3:f3.offset=3) (t0:f0.type=3) (t1:f1.type=3) (t2:f2.type=3) (t3:f3.type=3)
  (h:DataW.trod enc Tryz.prog w base (λ_=>true) held fuel t cs=some x):
  (cs=[zS]∧x=(.nil,[])) ∨
  ∃(a:Addr)(len cap:Nat)(E S:List (DataW H))(pl:List MemPlace)(f:Nat→Pr),cs=[.slice (some a) len cap]∧len≤cap∧x=(.slice E S,pl)∧E.length+S.length=cap ∧
   ∀i,i<cap→w.cell? (a.add (i*4))=some (zI (f i).m)∧w.cell? (a.add (i*4+1))=some (zI (f i).r)∧w.cell? (a.add (i*4+2))=some (zI (f i).b)∧w.cell? (a.add (i*4+3))=some (zI (f i).t)∧wfP (f i):=by
 have c1:Tryz.prog.cellsOf 3=1:=by kernel_rfl
 rcases open_slice ht h with L|⟨a,len,cap,m,n,D,Pl,rfl,Z,O,hm,j,rfl,P⟩
 ·exact Or.inl L
 right;simp only[if_true] at j;subst j
 have d:∀i,∃p:Pr,i<m→w.cell? (a.add (i*4))=some (zI p.m)∧w.cell? (a.add (i*4+1))=some (zI p.r)∧w.cell? (a.add (i*4+2))=some (zI p.b)∧w.cell? (a.add (i*4+3))=some (zI p.t)∧wfP p:=by
  intro i;by_cases l:i<m
  ·obtain⟨o,K,M⟩:=P i l;rw[ce] at K;obtain⟨_,g,c⟩:=World.cells?_some K;obtain⟨y0,y1,y2,y3,k,_,_,F,G,I,J⟩:=Joins.trod_struct4 he M
   match o,g with
   |[v0,v1,v2,v3],_=>
    rw[o0,t0,c1] at F;rw[o1,t1,c1] at G;rw[o2,t2,c1] at I;rw[o3,t3,c1] at J;obtain⟨V,z,_,Q⟩:=DataW.trod_int Tryz.underlying3 F;obtain⟨W,A,_,R⟩:=DataW.trod_int Tryz.underlying3 G;obtain⟨X,B,_,T⟩:=DataW.trod_int Tryz.underlying3 I;obtain⟨Y,C,_,U⟩:=DataW.trod_int Tryz.underlying3 J;simp at z A B C;have q:=c 0 (by omega);have s:=c 1 (by omega);have u:=c 2 (by omega);have y:=c 3 (by omega);rw[add_add] at q s u y;simp at q s u y;refine⟨⟨V,W,X,Y⟩,λ_=>⟨?_,?_,?_,?_,Q,R,T,U⟩⟩
    ·rw[q,z]
    ·rw[s,A]
    ·rw[u,B]
    ·rw[y,C]
  ·exact⟨pr0,λN=>absurd N l⟩
 exact⟨a,len,m,_,_,_,λi=>Classical.choose (d i),rfl,O,rfl,by simp;omega,λi l=>Classical.choose_spec (d i) l⟩
theorem fours_row{w:World}{a:Addr}{len cap:Nat}(hl:len≤cap)(f:Nat→Pr)
  (h:∀i,i<cap→w.cell? (a.add (i*4))=some (zI (f i).m)∧w.cell? (a.add (i*4+1))=some (zI (f i).r)∧w.cell? (a.add (i*4+2))=some (zI (f i).b)∧w.cell? (a.add (i*4+3))=some (zI (f i).t)∧wfP (f i)):
  RowP w (some a) len ((List.range len).map f)∧RowA w (some a) len ((List.range len).map f):=by
 have key:∀i,i<len→∃b c,a=⟨b,c,none⟩∧PrAt w b (c+i*4) (((List.range len).map f).getD i pr0)∧wfP (((List.range len).map f).getD i pr0):=by
  intro i g;have o:=(h 0 (by omega)).1;have d:=h i (by omega);obtain⟨b,c,j⟩:=a;have q:j=none:=by simpa [Addr.add] using World.cell?_spot o
  subst q;rw[Addr.add_lit,Addr.add_lit,Addr.add_lit,Addr.add_lit,← Nat.add_assoc,← Nat.add_assoc,← Nat.add_assoc] at d;have e:((List.range len).map f).getD i pr0=f i:=by simp[List.getD,g]
  rw[e];exact⟨b,c,rfl,⟨d.1,d.2.1,d.2.2.1,d.2.2.2.1⟩,d.2.2.2.2⟩
 constructor
 ·refine⟨by simp,?_⟩;by_cases s:len=0
  ·exact .inl s
  ·obtain⟨b,c,e,_⟩:=key 0 (by omega);refine .inr ⟨b,c,by rw[e],λi g=>?_⟩;obtain⟨u,l,k,n,_⟩:=key i g;rw[e] at k;obtain⟨rfl,rfl,_⟩:=Addr.mk.inj k;exact n
 ·intro i g;obtain⟨b,c,e,d,p⟩:=key i g;exact⟨b,c,by rw[e],d,p⟩
theorem open_ora{H:Type}{enc:TypeId × Value→H}{W:World}{r:Reach}{b0 b1:Nat}{held:Bool}{v:Value}{d:DataW H}{ps:List MemPlace}
  (hval:Value.okWide Tryz.prog W r b0 28 v) (h:DataW.Trod enc Tryz.prog W b1 (λ_=>true) held 28 v d ps) (hs:∀n∈d.weights Tryz.prog 28,n≤reachBytes):
  ∃(a:Option Addr)(len cap:Nat)(l:List Pr),v=.agg #[.slice a len cap]∧Came W a len cap l:=by
 have k:=Tryz.underlying28;have s:Tryz.prog.cellsOf 28=1:=by kernel_rfl
 have j:Tryz.prog.cellsOf 26=1:=by kernel_rfl
 obtain⟨cs,rfl,e⟩:=okWide_struct k hval;rw[s] at e
 obtain⟨v0,rfl⟩:∃v0,cs=#[v0]:=by
  cases cs with
  |mk l=>match l,e with
   |[v0],_=>exact⟨v0,rfl⟩
 obtain⟨m,hf⟩:=h;obtain⟨x,n,q,_,g⟩:=trod_struct1 k hf;simp only[Prod.mk.injEq] at q;obtain⟨rfl,rfl⟩:=q;simp only[Value.cells,List.drop_zero] at g;rw[j] at g;simp only[List.take_succ_cons,List.take_zero] at g;rcases fours Tryz.underlying26 Tryz.underlying87 (by kernel_rfl) rfl rfl rfl rfl rfl rfl rfl rfl g with⟨b,_⟩|⟨a,len,cap,E,S,u,f,b,p,t,i,c⟩
 ·simp at b;subst b;exact⟨none,0,0,[],rfl,RowP.nil _ _,λ_=>rfl,zc,by decide⟩
 ·simp at b;subst b;subst t;have o:=hs ((E.length+S.length)*Tryz.prog.bytesOf 87) (by simp[DataW.weights,k,DataW.weightsEach,Tryz.underlying26]);rw[show Tryz.prog.bytesOf 87=32 from by kernel_rfl,i] at o;simp only[reachBytes] at o;exact⟨some a,len,cap,_,rfl,(fours_row p f c).1,λh=>(by cases h),p,by omega⟩
end ora
end Go.Proofs.YtoepgdhiepedeaaGreatDoor
