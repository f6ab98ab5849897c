import Derived.Test.YtoepgdhiepedeaaGreatDoorVVGts32
import Derived.Test.YtoepgdhiepedeaaGreatDoorVVGts35
set_option linter.unusedVariables false
set_option linter.unusedSimpArgs false
set_option maxHeartbeats 4000000
set_option maxRecDepth 100000
namespace Go.Proofs.YtoepgdhiepedeaaGreatDoor
namespace vnd
open ora (Pr)
open cell (Wr RowW)
open Go.RowKit
variable{p:Option Addr}{n:Nat}
theorem rowP_upd{w W:World}{g:Nat}{cs:Array Value}{T:TypeId}{l:List Pr}(h:ora.RowP w p n l)(hU:Upd w W g cs T)(hg:0<n→∀y,p=some y→y.block≠g):ora.RowP W p n l:=by
 refine⟨h.1,?_⟩;rcases h.2 with c|⟨b,d,rfl,k⟩
 ·exact .inl c
 ·refine .inr ⟨b,d,rfl,λi m=>?_⟩;have a:b≠g:=hg (by omega) _ rfl;obtain⟨c,e,f,j⟩:=k i m;exact⟨by rw[hU.cell _ a rfl];exact c,by rw[hU.cell _ a rfl];exact e,by rw[hU.cell _ a rfl];exact f,by rw[hU.cell _ a rfl];exact j⟩
theorem rowW_upd{w W:World}{g:Nat}{cs:Array Value}{T:TypeId}{l:List Wr}(h:RowW w p n l)(hU:Upd w W g cs T)(hg:0<n→∀y,p=some y→y.block≠g):RowW W p n l:=by
 refine⟨h.1,?_⟩;rcases h.2 with d|⟨b,c,rfl,e⟩
 ·exact .inl d
 ·refine .inr ⟨b,c,rfl,λi f=>?_⟩;have a:b≠g:=hg (by omega) _ rfl;rw[hU.cell _ a rfl,hU.cell _ a rfl];exact e i f
theorem rowW_lt{w:World}{l:List Wr}(h:RowW w p n l):0<n→∀y,p=some y→y.block<w.heap.size:=λc y d=>by
 rcases h.2 with f|⟨b,e,rfl,a⟩
 ·omega
 ·cases d;exact World.block_lt_of_cell? w _ (a 0 c).1
theorem rowP_lt{w:World}{l:List Pr}(h:ora.RowP w p n l):0<n→∀y,p=some y→y.block<w.heap.size:=λd y a=>by
 obtain⟨b,f,c,e,_⟩:=h.at d;rw[c] at a;cases a;exact e
end vnd
namespace disk
open Go.RowKit cell
def EPost(J:Nat→World→Prop)(c:List Int)(e:Ending)(w':World):Prop:=
 ∃x f k,e=.returned (.tuple #[zI x,zI f])∧J k w'∧((¬ May c∧x=0∧f=1)∨(May c∧lenAt c (repD c).2<0∧x=0∧f=3)∨(May c∧lenAt c (repD c).2=0∧repD c=itD c k∧x=((repD c).2:Int)∧f=0))
variable{c:List Int}{p:Nat}
theorem len_zero(h:c.getD p 0=0):lenAt c p=0:=by unfold lenAt;rw[if_pos (.inr h)]
theorem len_end(h:p=c.length):lenAt c p=0:=by unfold lenAt;rw[if_pos (.inl h)]
theorem len_bad(hp:p<c.length)(h0:c.getD p 0≠0)(h:64<c.getD p 0∨(c.length:Int)≤p+c.getD p 0):lenAt c p<0:=by
 unfold lenAt;rw[if_neg (by omega)];by_cases a:64<c.getD p 0
 ·rw[if_pos a];decide
 ·rw[if_neg a,if_pos (by omega)];decide
theorem get_wd(hw:∀x∈c,0≤x∧x<4294967296)(p:Nat):0≤c.getD p 0∧c.getD p 0<4294967296:=by
 by_cases h:p<c.length
 ·have e:c.getD p 0=c[p]:=by simp[List.getD,h]
  rw[e];exact hw _ (List.getElem_mem h)
 ·have e:c.getD p 0=0:=by simp[List.getD,Nat.le_of_not_lt h]
  rw[e];decide
theorem rowU_part{W:World}{b o n:Nat}(h:RowU W (some ⟨b,o,none⟩) n c){p m:Nat}(hm:(c.getD p 0).toNat=m)(hp:p+m<n):RowU W (some ⟨b,o+(p+1),none⟩) m (recAt c p):=by
 refine⟨rec_len hm (by rw[h.1];exact hp),.inr ⟨b,o+(p+1),rfl,λi d=>?_⟩⟩;obtain⟨f,g,e,_,a⟩:=h.at (by omega);cases e;rw[rec_at hm d,show o+(p+1)+i=o+(p+1+i) by omega];exact a (p+1+i) (by omega)
theorem each_any(F:Nat)(caps:Array Value)(J:Nat→World→Prop)(a:Option Addr)(n cap:Nat)(c:List Int)(w:World)(hJ:∀k W,J k W→RowU W a n c)(h0:J 0 w)(hcap:n≤cap)(hw:∀x∈c,0≤x∧x<4294967296)(hK:∀args w,(callFunc F args).run Tryz.prog w=.ok (.enter F args) w)
  (hf:∀(k p m b o:Nat)(W:World),J k W→(itD c k).2=p→itD c (k+1)=((itD c k).1++[recAt c p],p+m+1)→RowU W (some ⟨b,o,none⟩) m (recAt c p)→1≤m→m≤64→p≤2048→zC F (#[.slice (some ⟨b,o,none⟩) m m]++caps) W λe w'=>e=.returned (.tuple #[])∧J (k+1) w'):
  Calls Tryz.prog 121 #[.slice a n cap,.func (.func F) #[] caps] w λe w'=>EPost J c e w':=by
 have l:=(hJ 0 w h0).1;have T:=zh h0;have H:=zh l;by_cases r:1≤n∧n≤2048
 ·obtain⟨b,o,rfl,_,_⟩:=(hJ 0 w h0).at (by omega);have HJ:=zh hJ
  have M:Hid (∀k W,J k W→∀j,j<n→W.cell? ⟨b,o+j,none⟩=some (.int .u32 (c.getD j 0))):=λk W h j I=>by
   obtain⟨b',o',e,_,hc⟩:=(hJ k W h).at (by omega);cases e;exact hc j I
  have HW:=zh (get_wd hw);have Z:=zh hf;have s:Hid (May c):=⟨by omega,by omega⟩
  obtain⟨a1,a2⟩:=r;have U:decide ((n:Int)<1)=false:=by simp;omega
  have d2:decide ((2048:Int)<(n:Int))=false:=by simp;omega
  clear hJ hf hw l h0;go_enter Tryz.func121,Tryz.ntmps121;go_wp2_with fail;go_loopw [6] (λS wr=>∃(k p:Nat),p≤n∧S=zI (p:Int)∧(itD c k).2=p∧J k wr) (λS _=>n+1-(intOf S).toNat)
  case atStart=>exact⟨0,0,Nat.zero_le _,rfl,rfl,T.o⟩
  case round=>
   obtain⟨k,p,hp,rfl,X,I⟩:=hrel;have f:=zh I;have i:=zh X;clear I X;by_cases G:p<n
   ·have Y:=M.o k wr f.o p G;have R:=HW.o p;have e1:decide ((p:Int)<(n:Int))=true:=by simp;omega
    by_cases g:c.getD p 0=0
    ·have A:=zh (len_zero g)
     have q:Hid (EPost J c (.returned (.tuple #[zI (p:Int),zI 0])) wr):=by
      have C:¬ 0<lenAt c (itD c k).2:=by rw[i.o,A.o];decide
      have u:=rep_of C;exact⟨_,_,k,rfl,f.o,.inr (.inr ⟨s.o,by rw[u,i.o];exact A.o,u,by rw[u,i.o],rfl⟩)⟩
     rw[g] at Y;clear R g;go_wp2_with fail;go_ret2;exact q.o
    ·by_cases d:64<c.getD p 0∨(n:Int)≤p+c.getD p 0
     ·have q:Hid (EPost J c (.returned (.tuple #[zI 0,zI 3])) wr):=by
       have K:=len_bad (c:=c) (p:=p) (by rw[H.o];exact G) g (by rw[H.o];exact d);have C:¬ 0<lenAt c (itD c k).2:=by rw[i.o];omega
       exact⟨_,_,k,rfl,f.o,.inr (.inl ⟨s.o,by rw[rep_of C,i.o];exact K,rfl,rfl⟩)⟩
      have e0:(c.getD p 0 != 0)=true:=by simpa using g
      generalize c.getD p 0=z at *;obtain⟨a3,a4⟩:=R;by_cases B:64<z
      ·have V:decide ((64:Int)<z)=true:=by simpa using B
       clear d;go_wp2_with fail;go_ret2;exact q.o
      ·have V:decide ((64:Int)<z)=false:=by simpa using B
       have e4:decide ((n:Int)<(p:Int)+1+z)=true:=by simp;omega
       clear d;go_wp2_with fail;go_ret2;exact q.o
     ·obtain⟨m,hm⟩:∃m:Nat,c.getD p 0=(m:Int):=⟨(c.getD p 0).toNat,by omega⟩
      have D:(c.getD p 0).toNat=m:=by rw[hm];simp
      have O:1≤m:=by omega
      have P:m≤64:=by omega
      have Q:p+m<n:=by omega
      have t:lenAt c p=(m:Int):=by rw[len_of (by omega) (by omega) (by rw[H.o];omega),hm]
      have y:Hid (itD c (k+1)=((itD c k).1++[recAt c p],p+m+1)):=by
       have h:=it_live (c:=c) (k:=k) (by rw[i.o,t];omega);rw[i.o,t,Int.toNat_natCast] at h;exact h
      have L:=zh (Z.o k p m b (o+(p+1)) wr f.o i.o y.o (rowU_part (HJ.o k wr f.o) D Q) O P (by omega));rw[hm] at Y;have e0:((m:Int) != 0)=true:=by simp;omega
      have V:decide ((64:Int)<(m:Int))=false:=by simp;omega
      have e4:decide ((n:Int)<(p:Int)+1+(m:Int))=false:=by simp;omega
      have a0:p+1<cap:=by omega
      clear R g d hm D t;go_wp2_with fail;refine L.o.mono ?_;rintro e w1 ⟨rfl,E⟩;have N:=zh E;clear E;go_wp2_with fail;go_roundw
      case rel=>exact⟨k+1,p+m+1,by omega,by go_num,by rw[y.o],N.o⟩
      case measure=>simp[intOf];omega
   ·have e1:decide ((p:Int)<(n:Int))=false:=by simp;omega
    have q:Hid (EPost J c (.returned (.tuple #[zI (p:Int),zI 0])) wr):=by
     have K:lenAt c p=0:=len_end (by rw[H.o];omega);have C:¬ 0<lenAt c (itD c k).2:=by rw[i.o,K];decide
     have u:=rep_of C;exact⟨_,_,k,rfl,f.o,.inr (.inr ⟨s.o,by rw[u,i.o];exact K,u,by rw[u,i.o],rfl⟩)⟩
    go_wp2_with fail;go_ret2;exact q.o
 ·have q:Hid (EPost J c (.returned (.tuple #[zI 0,zI 1])) w):=⟨0,1,0,rfl,T.o,.inl ⟨λh=>r ⟨by rw[← l];exact h.1,by rw[← l];exact h.2⟩,rfl,rfl⟩⟩
  clear hJ hf hw h0 l;go_enter Tryz.func121,Tryz.ntmps121;by_cases h1:1≤n
  ·have U:decide ((n:Int)<1)=false:=by simp;omega
   have d2:decide ((2048:Int)<(n:Int))=true:=by simp;omega
   go_wp2_with fail;go_ret2;exact q.o
  ·have U:decide ((n:Int)<1)=true:=by simp;omega
   go_wp2_with fail;go_ret2;exact q.o
end disk
namespace book
open Go.RowKit cell
theorem kdec:KDec:=by
 intro w a n h l U a9 ac T i;have ad:∀(fn:Fn)(first h:Array Value)(w:World),(Instr.makeFunc fn first h).run Tryz.prog w=.ok (.func fn first h) w:=λ_ _ _ _=>rfl;have x:=zh U.1;have a3:Hid (Blk ((w.alloc (.cells #[zI 0,zI 0,zI 0,zI 0,zI 0,zI 0,zI 0,zI 0,zI 0,zI 0,zI 0,zI 0,zI 0] 44)).alloc (.cells #[zI 0] 36)) w.heap.size #[zI 0,zI 0,zI 0,zI 0,zI 0,zI 0,zI 0,zI 0,zI 0,zI 0,zI 0,zI 0,zI 0] 44):=(Blk.new _ _ _).alloc _;have u:Hid (Blk ((w.alloc (.cells #[zI 0,zI 0,zI 0,zI 0,zI 0,zI 0,zI 0,zI 0,zI 0,zI 0,zI 0,zI 0,zI 0] 44)).alloc (.cells #[zI 0] 36)) (w.heap.size+1) #[zI 0] 36):=Blk.new1 _ _ _ _;have q:Hid (zB w ((w.alloc (.cells #[zI 0,zI 0,zI 0,zI 0,zI 0,zI 0,zI 0,zI 0,zI 0,zI 0,zI 0,zI 0,zI 0] 44)).alloc (.cells #[zI 0] 36))):=(zb.alloc zc _).alloc (by simp) _;by_cases hn:n=13
 case neg=>
  have nn:((n:Int) != 13)=true:=by simp;omega
  have a2:Hid (l.length≠13):=by show _≠_;rw[x.o];exact hn
  clear hn U i;go_enter_defers Tryz.func105,Tryz.ntmps105;go_upto_region 2 with fail
  generalize ((w.alloc (.cells #[zI 0,zI 0,zI 0,zI 0,zI 0,zI 0,zI 0,zI 0,zI 0,zI 0,zI 0,zI 0,zI 0] 44)).alloc (.cells #[zI 0] 36))=W1 at *;go_wp2_with refine zs ?_;intro r c;have y:=zyb c;have E:=zk1 c u;have s:Hid (zB w r):=c.bel _ _ zc q.o;clear c;go_wp2_with refine zl ?_;intro W3 c;have a4:=zk1 c y;have p:=zx0 c;have V:=zk c s;clear c;go_wp2_with fail;obtain⟨I,J,K,L,M,N,O,P,Q,R,j,k,m⟩:=scl13 a4;show Leaves _ _ _ _ [] .returning W3;refine⟨.tuple #[.agg #[zI 0,zI 0,zI 0,zI 0,zI 0,zI 0,zI 0,zI 0,zI 0,zI 0,zI 0,zI 0,zI 0],zI 1],by simp[results,Tryz.results105,I,J,K,L,M,N,O,P,Q,R,j,k,m,p,go_sem],?_⟩;exact⟨ev0,1,rfl,.inl ⟨a2.o,rfl,rfl⟩,V.o⟩
 subst hn;have G:Hid (∀W,zB w W→zC 151 #[.slice a 13 h] W λe w'=>e=.returned (evOf l).v∧zB W w'):=λW hB=>bevent a h l W (U.below hB) i;clear U i;obtain⟨v,hv⟩:∃v,v=evOf l:=⟨_,rfl⟩
 have z:=zh hv;rw[← hv] at G;clear hv;have a1:Hid (∀W,zC 119 #[.agg #[zI v.kd,zI v.me,zI v.mo,zI v.id,zI v.te,zI v.de,zI v.fe,zI v.pr,zI v.ch,zI v.un,zI v.tg,zI v.ow,zI v.bp]] W λe w'=>MustPost W v e w'):=λW=>bmust v W;have nn:(((13:Nat):Int) != 13)=false:=by decide
 go_enter_defers Tryz.func105,Tryz.ntmps105;go_upto_region 4 with fail
 generalize ((w.alloc (.cells #[zI 0,zI 0,zI 0,zI 0,zI 0,zI 0,zI 0,zI 0,zI 0,zI 0,zI 0,zI 0,zI 0] 44)).alloc (.cells #[zI 0] 36))=W1 at *;have HE:=G.o W1 q.o;have Z:=zh HE;go_wp2_with fail;refine Z.o.mono ?_;rintro e r ⟨rfl,d⟩;have y:Hid (Blk (r.alloc (.cells #[zI v.kd,zI v.me,zI v.mo,zI v.id,zI v.te,zI v.de,zI v.fe,zI v.pr,zI v.ch,zI v.un,zI v.tg,zI v.ow,zI v.bp] 44)) w.heap.size #[zI 0,zI 0,zI 0,zI 0,zI 0,zI 0,zI 0,zI 0,zI 0,zI 0,zI 0,zI 0,zI 0] 44):=(a3.o.next d).alloc _;have E:Hid (Blk (r.alloc (.cells #[zI v.kd,zI v.me,zI v.mo,zI v.id,zI v.te,zI v.de,zI v.fe,zI v.pr,zI v.ch,zI v.un,zI v.tg,zI v.ow,zI v.bp] 44)) (w.heap.size+1) #[zI 0] 36):=(u.o.next d).alloc _;have H:=zye r #[zI v.kd,zI v.me,zI v.mo,zI v.id,zI v.te,zI v.de,zI v.fe,zI v.pr,zI v.ch,zI v.un,zI v.tg,zI v.ow,zI v.bp] 44;have s:Hid (zB w (r.alloc (.cells #[zI v.kd,zI v.me,zI v.mo,zI v.id,zI v.te,zI v.de,zI v.fe,zI v.pr,zI v.ch,zI v.un,zI v.tg,zI v.ow,zI v.bp] 44))):=(bel_step q.o d).alloc (bel_step q.o d).size _;have ab:=zh (u.o.next d).lt;clear d;unfold Ev.v;go_upto_region 5 with fail
 generalize (r.alloc (.cells #[zI v.kd,zI v.me,zI v.mo,zI v.id,zI v.te,zI v.de,zI v.fe,zI v.pr,zI v.ch,zI v.un,zI v.tg,zI v.ow,zI v.bp] 44))=W3 at *;generalize r.heap.size=g at *;obtain⟨c0,c1,c2,c3,c4,c5,c6,c7,c8,c9,A,B,C⟩:=scl13 H;go_wp2_with fail;refine(a1.o _).mono ?_;rintro e W4 ⟨i,d⟩;obtain⟨a5,F,a8⟩:=zn3 d y E H;have D:=shB s d;clear d c0 c1 c2 c3 c4 c5 c6 c7 c8 c9 A B C;rcases i with⟨i,rfl⟩|⟨i,rfl⟩
 ·have HY:=zh i;clear i;obtain⟨c0,c1,c2,c3,c4,c5,c6,c7,c8,c9,A,B,C⟩:=scl13 a8;go_wp2_with refine zs ?_;intro W5 c;have a6:=zyb c;have aa:=zk1 c F;have X:Hid (zB w W5):=c.bel _ _ zc D.o;clear c c0 c1 c2 c3 c4 c5 c6 c7 c8 c9 A B C;go_wp2_with refine zl ?_;intro W6 c;have a7:=zk1 c a6;have Y:=zk c X;have a0:=zyb c;clear c;go_wp2_with fail;refine leaves_cons (f:=150) (args:=#[.pointer (some ⟨w.heap.size+1,0,none⟩)]) (by simp) (by simp[go_sem]) ?_;refine(decode_idle (w.heap.size+1) 0 _ a0.o).mono ?_;rintro e u' S ⟨rfl,hs,W,d,c⟩;have b:=c.keep (a7.o.next d) (by omega);have p:=zx0 c;have t:zB w S:=c.bel _ _ (by omega) (bel_step Y.o d);have I:=b.cell 0;have J:=b.cell 1;have K:=b.cell 2;have L:=b.cell 3;have M:=b.cell 4;have N:=b.cell 5;have O:=b.cell 6;have P:=b.cell 7;have Q:=b.cell 8;have R:=b.cell 9;have j:=b.cell 10;have k:=b.cell 11;have m:=b.cell 12;show Leaves _ _ _ _ [] (settle u') S;rw[hs];refine⟨.tuple #[.agg #[zI v.kd,zI v.me,zI v.mo,zI v.id,zI v.te,zI v.de,zI v.fe,zI v.pr,zI v.ch,zI v.un,zI v.tg,zI v.ow,zI v.bp],zI 0],by simp[results,Tryz.results105,I,J,K,L,M,N,O,P,Q,R,j,k,m,p,go_sem],?_⟩;exact⟨v,0,rfl,.inr (.inr ⟨x.o,by rw[← z.o];exact HY.o,z.o,rfl⟩),t⟩
 ·have HN:=zh i;clear i;refine leaves_cons (f:=150) (args:=#[.pointer (some ⟨w.heap.size+1,0,none⟩)]) (by simp) (by simp[go_sem]) ?_;refine(decode_caught (w.heap.size+1) 0 5 _ F.o).mono ?_;rintro e u' S ⟨rfl,hs,W,d,c⟩;have b:=c.keep (a5.o.next d) (by omega);have p:=zx0 c;have t:zB w S:=c.bel _ _ (by omega) (bel_step D.o d);have I:=b.cell 0;have J:=b.cell 1;have K:=b.cell 2;have L:=b.cell 3;have M:=b.cell 4;have N:=b.cell 5;have O:=b.cell 6;have P:=b.cell 7;have Q:=b.cell 8;have R:=b.cell 9;have j:=b.cell 10;have k:=b.cell 11;have m:=b.cell 12;show Leaves _ _ _ _ [] (settle u') S;rw[hs];refine⟨.tuple #[.agg #[zI 0,zI 0,zI 0,zI 0,zI 0,zI 0,zI 0,zI 0,zI 0,zI 0,zI 0,zI 0,zI 0],zI 5],by simp[results,Tryz.results105,I,J,K,L,M,N,O,P,Q,R,j,k,m,p,go_sem],?_⟩;exact⟨ev0,5,rfl,.inr (.inl ⟨x.o,by rw[← z.o];exact HN.o,rfl,rfl⟩),t⟩
open acc (Ac Tm Bi APost BPost TFault TRight OpenIs OweIs SellIs GrantIs RekeyIs wf6 ACame TCame fresh_updN fresh_drew came_lt)
def OwPost(w:World)(x:Ac)(d:tar.Du)(e:Ending)(w':World):Prop:=zB w w'∧((∃b pb lb cb,e=.returned (acc.Ac.v b pb lb cb)∧OweIs x d b 0∧deb.Fresh w' w.heap.size pb lb cb b.ds)∨∃b f,f≠0∧e=.panicked (thrown f)∧OweIs x d b f)
theorem bowing(x:Ac)(p:Option Addr)(len cap:Nat)(d:tar.Du)(w:World)(ha:ACame w x p len cap)(hd:(Lit.int .i64 d.a).wf=true∧(Lit.int .i64 d.b).wf=true):Calls Tryz.prog 154 #[.agg #[zI x.me,zI x.rv,zI x.nx,zI x.mo,zI x.bo,zI x.fr,.slice p len cap],.agg #[zI d.a,zI d.b]] w λe w'=>OwPost w x d e w':=by
 have L:Hid (∀(f:Int) (hf:f≠0) W,zC 164 #[zI f] W λe w'=>e=.panicked (thrown f)∧w'=W):=λf hf W=>insist_no f hf W;have M:Hid (∀W,zC 164 #[zI 0] W λe w'=>e=.returned (.tuple #[])∧w'=W):=λW=>insist_ok W;obtain⟨l,P,t,u,z,h,a3⟩:=sh3 w #[zI x.me,zI x.rv,zI x.nx,zI x.mo,zI x.bo,zI x.fr,.slice p len cap] 55 #[zI d.a,zI d.b] 42 #[zI 0,zI 0,zI 0,zI 0,zI 0,zI 0,zS] 55;have s:=zh (ha.below h.o);go_enter Tryz.func154,Tryz.ntmps154;go_upto_region 1 with fail
 rw[P.o];have O:Hid (zC 182 #[.agg #[zI x.me,zI x.rv,zI x.nx,zI x.mo,zI x.bo,zI x.fr,.slice p len cap],.agg #[zI d.a,zI d.b]] l λe w'=>APost l (OweIs x d) e w'):=acc.kowe _ x p len cap d s.o hd;clear hd ha;have N:=zh h.o.size;go_wp2_with refine zw ?_;refine O.o.mono ?_;rintro e w1 ⟨b,r,q,m,f,rfl,X,hf,g⟩;have a2:=g.size;have T:=zh X;have j:=zh hf;obtain⟨Y,B,C⟩:=zn3 g t u z;have A:=shB h g;clear X hf g;unfold acc.Ac.v acc.Ac.cs;go_wp2_with (first|refine zs ?_|refine zw ?_)
 intro U c;have D:=zyb c;obtain⟨E,Z⟩:=zk2 c B C;have i:=zk c A;have k:Hid (deb.Fresh U l.heap.size r q m b.ds):=fresh_updN j.o c (λQ y S=>by have f1:=j.o.new Q y S;omega);clear c;by_cases n:f=0
 case neg=>
  have I:=L.o f n;have J:=zh I;have K:=zh n;clear n;go_wp2_with refine zw ?_;refine(J.o _).mono ?_;rintro e V ⟨rfl,rfl⟩;exact⟨rfl,i.o,.inr ⟨b,f,K.o,rfl,T.o⟩⟩
 subst n;go_wp2_with refine zw ?_;refine(M.o _).mono ?_;rintro e V ⟨rfl,R⟩;obtain rfl:U=V:=R.symm;go_wp2_with (first|refine zs ?_|refine zw ?_)
 intro V2 c;obtain⟨a0,a1⟩:=zk2 c D E;have F:=zk c i;have G:=zyb c;have H:Hid (deb.Fresh V2 l.heap.size r q m b.ds):=fresh_updN k.o c (λQ y S=>by have f1:=k.o.new Q y S;omega);clear c;go_wp2_with fail;exact zr (.agg #[zI b.me,zI b.rv,zI b.nx,zI b.mo,zI b.bo,zI b.fr,.slice r q m]) (by simp[results,Tryz.results154,scl7 G,go_sem]) ⟨F.o,.inl ⟨b,r,q,m,rfl,T.o,H.o.low N.o⟩⟩
theorem of_caught(ge gn ga:Nat)(f0 m0 a0 f:Int)(hf:f≠0)(w:World)(he:Blk w ge #[zI f0] 36)(hn:Blk w gn #[zI m0] 3)(ha:Blk w ga #[zI a0] 3)(h1:gn≠ge)(h2:ga≠ge):
  CallsD Tryz.prog 106 #[.pointer (some ⟨ge,0,none⟩),.pointer (some ⟨gn,0,none⟩),.pointer (some ⟨ga,0,none⟩)] (.panicking (thrown f)) w λe u' w'=>e=.returned (.tuple #[])∧settle u'=.returning∧∃W W2,zB w W∧Upd W W2 ge #[zI f] 36∧Upd W2 w' ga #[zI m0] 3:=by
 refine callsD_of_wpS Tryz.func106 rfl λu cs l=>?_;apply wpS_seq;apply wpS_region;simp only[thrown] at l;simp[wpOpsS,go_sem,recoverD,l,Tryz.ntmps106,Exit.thenS];refine(reason_is f w).mono ?_;rintro e i ⟨rfl,a⟩;have j:=he.next a;have n:=hn.next a;have m:=ha.next a;have p:=j.cell 0;have q:=j.free 0;have g:Upd i (i.setCell ⟨ge,0,none⟩ (zI f)) ge #[zI f] 36:=upd_cells ge _ [zI f] 0 i _ j;simp[go_sem,p,q,Exit.thenS];generalize i.setCell ⟨ge,0,none⟩ (zI f)=W2 at *;have c:=g.blk;have d:=g.keep n h1;have b:=g.keep m h2;have x:=c.cell 0;have y:=d.cell 0;have nf:(f != 0)=true:=by simpa using hf
 change Code.wpS _ _ _ { tmps:=#[.pointer (some ⟨ge,0,none⟩),.pointer (some ⟨gn,0,none⟩),.pointer (some ⟨ga,0,none⟩),refV f,zI f,undef,undef,undef],defers:=[] } _ _;apply wpS_of_wp;have r:=zh b;have t:=zh g;have s:=zh a;clear hf he hn ha j n m p q g c d b a l;go_wp2_with refine zl ?_;intro W3 h;have k:=zh h;clear h;go_wp2_with fail;simp[bodyPostS,results,Tryz.results106,settle];exact⟨i,s.o,W2,t.o,k.o⟩
theorem of_idle(ge gn ga:Nat)(f0:Int)(w:World)(he:Blk w ge #[zI f0] 36):
  CallsD Tryz.prog 106 #[.pointer (some ⟨ge,0,none⟩),.pointer (some ⟨gn,0,none⟩),.pointer (some ⟨ga,0,none⟩)] .returning w λe u' w'=>e=.returned (.tuple #[])∧settle u'=.returning∧∃W,zB w W∧Upd W w' ge #[zI 0] 36:=by
 refine callsD_of_wpS Tryz.func106 rfl λi cs b=>?_;apply wpS_seq;apply wpS_region;simp[wpOpsS,go_sem,recoverD,b,Tryz.ntmps106,Exit.thenS];refine(reason_nil w).mono ?_;rintro e c ⟨rfl,rfl⟩;have d:=he.cell 0;have f:=he.free 0;have a:Upd c (c.setCell ⟨ge,0,none⟩ (zI 0)) ge #[zI 0] 36:=upd_cells ge _ [zI 0] 0 c _ he;simp[go_sem,d,f,Exit.thenS];generalize c.setCell ⟨ge,0,none⟩ (zI 0)=j at *;have k:=zx0 a;change Code.wpS _ _ _ { tmps:=#[.pointer (some ⟨ge,0,none⟩),.pointer (some ⟨gn,0,none⟩),.pointer (some ⟨ga,0,none⟩),.nilIface,zI 0,undef,undef,undef],defers:=[] } _ _;apply wpS_of_wp;have h:=zh a;have g:=zh b;clear he d f a b;go_wp2_with fail;have b:=g.o;have a:=h.o;simp[bodyPostS,results,Tryz.results106,b,settle];exact⟨.returning,(by cases i;simp_all),rfl,c,zb,a⟩
end book
namespace words
open Go.RowKit
theorem own_ru{w:World}{base:Nat}{v:Value}{n:Nat}{l:List Nat}(h:w.ownsRow base 83 1 v n (l.map λ(x:Nat)=>Value.int .u32 (x:Int)))(hl:l.length=n)(hlt:∀x∈l,x<4294967296):
  ∃a cap,v=.slice a n cap∧Ru w a n cap l:=by
 rcases h.2 with⟨rfl,rfl⟩|⟨g,cap,j,rfl,o,m,c,_,k,d⟩
 ·exact⟨none,0,rfl,hl,hlt,λ_=>rfl,zc,.inl rfl,λ_ _ _ e _=>by cases e⟩
 ·refine⟨_,cap,rfl,hl,hlt,(λe=>by cases e),c,.inr ⟨g,0,rfl,λi p=>?_⟩,λb f s e _=>by obtain⟨rfl,-,-⟩:=(by simpa using e:g=b∧0=f∧none=s);exact⟨_,_,m⟩⟩;have:=h.cellAt i (by omega);rw[Nat.zero_add,this];simp[List.getD,List.getElem?_eq_getElem (show i<l.length by omega)]
theorem twin_any(a:Option Addr)(n cap m:Nat)(w:World)(hr:Ru w a n cap (dig m))(hl:n≤100):
  Calls Tryz.prog 140 #[.slice a n cap] w λe w'=>Gives w m e w':=by
 obtain⟨H,E,s,t,y⟩:=info_parts info_u32;cases a with
 |none=>
  have r:=hr.nil rfl;have D:n=0:=by have:=hr.room;omega
  subst r D;have A:∀w:World,(Builtin.append_ #[25,25] 25 #[zS,zS]).run Tryz.prog w=.ok (zS) w:=λw=>by kernel_rfl
  have q:Hid (Gives w m (.returned (zS)) w):=Gives.mk hr zb;clear hr;go_enter Tryz.func140,Tryz.ntmps140;go_wp2;go_ret;exact q.o
 |some x=>
  have g:Hid (Ru w (some x) n cap (dig m)):=hr;clear hr;go_enter Tryz.func140,Tryz.ntmps140
  go_wp2_with (first
   |(at_builtin;refine wpList_append_own _ rfl _ _ 25 rfl w.heap.size 83 H (.int .u32 0) 1 4 Tryz.underlying25 E s t y rfl (by decide) _ _ _ rfl (World.ownsRow_nil _ _ _ _) x n cap ((dig m).map λ(x:Nat)=>Value.int .u32 (x:Int)) rfl ?c0 ?c1 ?c2 ?c3 ?c4 ?c5 ?_)
   | go_in)
  case c0=>simp[g.o.len]
  case c5=>exact zc
  case c1=>
   intro j u f;rcases g.o.cell with h|⟨b,I,h,r⟩
   ·rw[List.getElem?_eq_none (by simp[g.o.len];omega)] at f;cases f
   ·obtain rfl:=Option.some.inj h;by_cases p:j<(dig m).length
    ·simp[List.getElem?_eq_getElem p] at f;subst f;have:=r j (by rw[g.o.len] at p;exact p);simpa [Addr.add_lit,List.getD,List.getElem?_eq_getElem p] using this
    ·rw[List.getElem?_eq_none (by simp;omega)] at f;cases f
  case c2=>intro u f;obtain⟨z,_,rfl⟩:=List.mem_map.1 f;rfl
  case c3=>unfold maxLen;omega
  case c4=>omega
  intro J w' c B _;obtain⟨C,i,G,d⟩:=own_ru (l:=dig m) (n:=n) (by simpa using c) g.o.len g.o.lt;rw[G];have q:Hid (Gives w m (.returned (.slice C n i)) w'):=Gives.mk d (zb.grown B zc (λk F=>by simp[Value.ownBlock] at F));clear c B d;go_wp2;go_ret;exact q.o
def lenOf:Value→Nat
 | .slice _ n _=>n
 |_=>0
variable{base g cap L:Nat}{w:World}{xs:List Value}{f:Nat→Int}{v:Value}{n:Nat}
theorem own_len{base e k:Nat}(h:w.ownsRow base e k v n xs):lenOf v=n:=by
 rcases h.2 with⟨rfl,rfl⟩|⟨g,a,b,rfl,_⟩<;>rfl
theorem own_below{w w':World}{base e k:Nat}(h:w.ownsRow base e k v n xs)(hb:zB w w'):w'.ownsRow base e k v n xs:=
 ⟨h.1,h.2.imp id λ⟨g,cap,cur,h1,h2,h3,h4⟩=>⟨g,cap,cur,h1,h2,by rw[hb.block g (heap_lt h3)];exact h3,h4⟩⟩
theorem own_lt{base e k:Nat}(h:w.ownsRow base e k v n xs){g:Nat}(hg:v.ownBlock=some g):base≤g∧g<w.heap.size:=by
 rcases h.2 with⟨rfl,rfl⟩|⟨f,a,b,rfl,d,c,_⟩
 ·simp[Value.ownBlock] at hg
 ·simp[Value.ownBlock] at hg;subst hg;exact⟨d,heap_lt c⟩
theorem Ru.grown{w w':World}{a:Option Addr}{n cap:Nat}{l:List Nat}{row:Option Nat}(h:Ru w a n cap l)(hg:w.grownBy w' row)(hne:∀b off,a=some ⟨b,off,none⟩→some b≠row):Ru w' a n cap l:=by
 refine ⟨h.len,h.lt,h.nil,h.room,?_,fun b off s e f=>(h.typ b off s e f).same (hg.block b (h.typ b off s e f).lt (by
  rcases h.cell with d|⟨k,c,g,_⟩
  ·exact absurd d f
  ·rw[g] at e;obtain⟨rfl,rfl,rfl⟩:=(by simpa using e:k=b∧c=off∧none=s)
   exact hne _ _ g))⟩
 rcases h.cell with d|⟨b,off,rfl,m⟩
 ·exact .inl d
 ·refine .inr ⟨b,off,rfl,λi o=>?_⟩;have j:=m i o;rw[World.cell?_of_block (w:=w) (a:=⟨b,off+i,none⟩) (hg.block b (World.block_lt_of_cell? w _ j) (hne b off rfl))];exact j
def TextInv(m M:Nat)(ds:List Int):Prop:=M≤m∧((M=0∧ds≠[]∧decL m=ds.reverse)∨(0<M∧decL m=decL M++ds.reverse))
theorem text_more{m M:Nat}{ds:List Int}(h:TextInv m M ds)(h0:0<M):TextInv m (M/10) (ds++[48+((M%10:Nat):Int)]):=by
 obtain⟨c,h⟩:=h
 have b:decL m=decL M++ds.reverse:=by
  rcases h with h|h
  ·omega
  ·exact h.2
 refine⟨by omega,?_⟩;by_cases a:M<10
 ·left;refine⟨by omega,by simp,?_⟩;rw[b,decL_one a,Nat.mod_eq_of_lt a];simp
 ·right;refine⟨by omega,?_⟩;rw[b,decL_more a];simp
theorem text_len{m M:Nat}{ds:List Int}(h:TextInv m M ds)(h0:0<M):ds.length<(decL m).length:=by
 rcases h.2 with h|⟨_,h⟩
 ·omega
 ·rw[h];have:0<(decL M).length:=List.length_pos_iff.2 (decL_ne M);simp;omega
theorem dig_mono{M m:Nat}(h:M≤m):(dig M).length≤(dig m).length:=by
 rcases Nat.lt_or_ge (dig m).length (dig M).length with a|a
 ·have:=len_less a;omega
 ·exact a
theorem info_u8:(Tryz.prog.info? 5).map (λi=>(i.zero,i.size,i.bytes))=some (some (.int .u8 0),1,1):=by kernel_rfl
def RB(w:World)(base g cap L:Nat)(f:Nat→Int):Prop:=w.ownsRow base 5 1 (.slice (some ⟨g,0,none⟩) L cap) L ((List.range L).map λk=>Value.int .u8 (f k))
theorem RB.cell(h:RB w base g cap L f){i:Nat}(hi:i<L):w.cell? ⟨g,i,none⟩=some (.int .u8 (f i)):=by
 have:=World.ownsRow.cellAt h i (by omega);rw[this];simp[hi]
theorem RB.free(h:RB w base g cap L f)(i:Nat):w.frozen? ⟨g,i,none⟩=false:=World.ownsRow.frozenAt h i
theorem RB.set(h:RB w base g cap L f)(i:Nat)(v:Int):RB (w.setCell ⟨g,i,none⟩ (.int .u8 v)) base g cap L (updd f i v):=by
 have:=(World.ownsRow.stored h i (.int .u8 v)).1;unfold RB;rw[show ((List.range L).map λk=>Value.int .u8 (updd f i v k))=((List.range L).map λk=>Value.int .u8 (f k)).set i (.int .u8 v) from ?_]
 ·exact this
 ·apply List.ext_getElem?;intro k;by_cases a:k<L
  ·by_cases e:k=i
   ·subst e;simp[updd,a]
   ·rw[List.getElem?_set_ne (by omega)];simp[updd,a,e]
  ·rw[List.getElem?_eq_none (by simp;omega),List.getElem?_eq_none (by simp;omega)]
theorem conv_row(w:World)(base g cap L:Nat)(f:Nat→Int)(h:RB w base g cap L f):
  (convert 195 9 (.slice (some ⟨g,0,none⟩) L cap)).run Tryz.prog w=.ok (.string (strOf ((List.range L).map f))) w:=by
 rw[run_convert_bytes_string _ _ _ _ _ _ _ Tryz.underlying195 Tryz.underlying5 Tryz.underlying9,run_bytesToString _ _ _ _ ((List.range L).map f)]
 ·rfl
 ·have:=run_loadCells (P:=Tryz.prog) w ⟨g,0,none⟩ L (λi=> .int .u8 (f i)) (λj a=>by rw[Addr.add_lit,Nat.zero_add];exact h.cell (by omega));rw[this]
  congr 2
  simp
def Turned(L i:Nat)(d f:Nat→Int):Prop:=∀k,k<L→f k=if k<i∨L-1-i<k then d (L-1-k) else d k
theorem turned_step{L i:Nat}{d f:Nat→Int}(h:Turned L i d f)(hi:i<L-1-i):Turned L (i+1) d (updd (updd f i (f (L-1-i))) (L-1-i) (f i)):=by
 intro k l;have e:=h i (by omega);have g:=h (L-1-i) (by omega);have j:=h k l;rw[if_neg (by omega)] at e g;unfold updd;by_cases a:k=L-1-i
 ·rw[if_pos a,if_pos (by omega),e];congr 1;omega
 ·rw[if_neg a];by_cases b:k=i
  ·rw[if_pos b,if_pos (by omega),g];congr 1;omega
  ·rw[if_neg b,j];by_cases c:k<i∨L-1-i<k
   ·rw[if_pos c,if_pos (by omega)]
   ·rw[if_neg c,if_neg (by omega)]
theorem turned_end{L i:Nat}{d f:Nat→Int}(h:Turned L i d f)(hi:¬ i<L-1-i)(ds:List Int)(hL:ds.length=L)(hd:∀k,d k=ds.getD k 0):(List.range L).map f=ds.reverse:=by
 apply List.ext_getElem (by simp[hL]);intro k a g;have b:k<L:=by simpa using a
 rw[List.getElem_reverse,List.getElem_map,List.getElem_range,h k b]
 have e:d (L-1-k)=ds[ds.length-1-k]:=by
  subst hL;rw[hd];simp[List.getD,List.getElem?_eq_getElem (show ds.length-1-k<ds.length by omega)]
 by_cases c:k<i∨L-1-i<k
 ·rw[if_pos c,e]
 ·rw[if_neg c,← e];congr 1;omega
def StrPost(w:World)(m:Nat)(e:Ending)(w':World):Prop:=e=.returned (.string (strOf (decL m)))∧zB w w'
theorem bg_at{w w':World}{z:Nat}{v:Value}(h:w.heap[z]?=some (.cells #[.bool false,v] 218 (0,0)))(hb:zB w w'):w'.cell? ⟨z,0,none⟩=some (.bool false)∧w'.cell? ⟨z,1,none⟩=some v:=by
 have:=ob_cells (w:=w') (z:=z) (s:=false) (v:=v) (by rw[hb.block z (heap_lt h)];exact h);exact⟨this.1,this.2.1⟩
theorem text_any(z m:Nat)(w:World)(hg:Bg w z m)(h0:0<m)(hl:(dig m).length≤100)(hd:(decL m).length≤100):
  Calls Tryz.prog 95 #[.pointer (some ⟨z,0,none⟩),zI 10] w λe w'=>StrPost w m e w':=by
 obtain⟨i0,hi,a8,a9,aa⟩:=info_parts info_u8;obtain⟨a,n,c,O,hr⟩:=hg
 have aB:n≠0:=by
  intro e;have:=hr.len;rw[e] at this;have:=dig_nil (List.eq_nil_of_length_eq_zero this);omega
 have an:n≤100:=by have:=hr.len;omega
 have HR:Hid (Ru w a n c (dig m)):=hr;have HZ:Hid (w.heap[z]?=some (.cells #[.bool false,.slice a n c] 218 (0,0))):=O;obtain⟨c0,c1⟩:=bg_at O (Below.refl _ w);have aC:((n:Int)==0)=false:=beq_eq_false_iff_ne.2 (by omega);clear hr O;go_enter Tryz.func95,Tryz.ntmps95;go_wp2_with fail;refine(twin_any a n c m w HR.o an).mono ?_;rintro e w1 ⟨a1,n1,k1,rfl,a7,Z⟩;have ag:Hid (Ru w1 a1 n1 k1 (dig m)):=a7;have ab:Hid (zB w w1):=Z;clear a7 Z c0 c1;go_wp2_with fail;go_loopw [5,6] (λG av wr=>∃(V:Value)(M:Nat)(d:List Int)(a:Option Addr)(n c:Nat),V=G∧av=.slice a n c∧Ru wr a n c (dig M)∧wr.ownsRow w.heap.size 5 1 G d.length (d.map (Value.int .u8))∧zB w wr∧TextInv m M d) (λG _ _=>100-lenOf G)
 case atStart=>exact⟨_,m,[],a1,n1,k1,rfl,rfl,ag.o,World.ownsRow_nil _ _ _ _,ab.o,zc,.inr ⟨h0,by simp⟩⟩
 case round=>
  obtain⟨G,M,d,a2,R,k2,N,rfl,s,q,D,t⟩:=hrel;subst N;by_cases hM:M=0
  ·subst hM;have a6:R=0:=by have:=s.len;rw[dig_zero] at this;simpa using this.symm
   subst a6
   obtain⟨hdn,hde⟩:d≠[]∧decL m=d.reverse:=by
    rcases t.2 with h|h
    ·exact h.2
    ·omega
   have X:0<d.length:=List.length_pos_iff.2 hdn;have ak:d.length≤100:=by rw[hde] at hd;simpa using hd
   obtain⟨g,B,N,a5,aw⟩:=q.form X;subst N;obtain⟨L,hLL⟩:∃L,d.length=L:=⟨_,rfl⟩
   have W:Hid (RB wr w.heap.size g B L (λk=>d.getD k 0)):=by
    have e:d.map (Value.int .u8)=(List.range L).map λk=>Value.int .u8 (d.getD k 0):=by
     apply List.ext_getElem (by simp[hLL]);intro k h1 h2;simp[List.getD,List.getElem?_eq_getElem (show k<d.length by simpa using h1)]
    have C:RB wr w.heap.size g B L (λk=>d.getD k 0):=by
     unfold RB;rw[← e,← hLL];exact q
    exact C
   rw[hLL] at X ak;rw[hLL];obtain⟨c0,c1⟩:=bg_at HZ.o D;have HB:Hid (zB w wr):=D;have HD:Hid (decL m=d.reverse∧d.length=L):=⟨hde,hLL⟩
   clear q D t hde hdn hLL s hd hi a8 a9 aa;go_wp2_with fail;go_loopw [8,9] (λiv jv wr=>∃(i:Nat)(f:Nat→Int),i≤L∧iv=zI (i:Int)∧jv=zI ((L:Int)-1-(i:Int))∧i≤(L-i)+1∧RB wr w.heap.size g B L f∧zB w wr∧Turned L i (λk=>d.getD k 0) f) (λiv _ _=>L-(intOf iv).toNat)
   case atStart=>exact⟨0,_,Nat.zero_le _,rfl,by congr 1;omega,by omega,W.o,HB.o,λk hk=>by rw[if_neg (by omega)]⟩
   case round=>
    obtain⟨i,f,ax,rfl,rfl,ay,l,p,I⟩:=hrel;by_cases H:i<L-1-i
    ·have ej:(L:Int)-1-(i:Int)=((L-1-i:Nat):Int):=by omega
     have r0:=l.cell (i:=i) (by omega);have r1:=l.cell (i:=L-1-i) (by omega);have f0:=l.free i;have f1:=l.free (L-1-i);have HT:Hid (Turned L (i+1) (λk=>d.getD k 0) (updd (updd f i (f (L-1-i))) (L-1-i) (f i))):=turned_step I H;have HN:Hid (RB ((wr.setCell ⟨g,i,none⟩ (.int .u8 (f (L-1-i)))).setCell ⟨g,L-1-i,none⟩ (.int .u8 (f i))) w.heap.size g B L (updd (updd f i (f (L-1-i))) (L-1-i) (f i))):=(l.set _ _).set _ _;have S:Hid (zB w ((wr.setCell ⟨g,i,none⟩ (.int .u8 (f (L-1-i)))).setCell ⟨g,L-1-i,none⟩ (.int .u8 (f i)))):=below_set (below_set p _ _ _ a5) _ _ _ a5;have HJ:Hid (((L-1-i:Nat):Int)-1=(L:Int)-1-((i+1:Nat):Int)):=(by omega:((L-1-i:Nat):Int)-1=(L:Int)-1-((i+1:Nat):Int))
     rw[ej];have az:L-1-i<L:=by omega
     have ao:i<L-1-i:=H;have r2:=(l.set i (f (L-1-i))).cell (i:=L-1-i) (by omega);have f2:=(l.set i (f (L-1-i))).free (L-1-i);clear l p I ej H;obtain⟨x,hx⟩:∃x,f i=x:=⟨_,rfl⟩
     obtain⟨y,hy⟩:∃y,f (L-1-i)=y:=⟨_,rfl⟩
     rw[hx,hy] at HT HN S;rw[hx] at r0;rw[hy] at r1 r2 f2;clear hx hy;generalize updd f i y (L-1-i)=yy at r2;generalize aA:L-1-i=j at *;go_wp2_with fail;go_roundw
     case rel=>exact⟨i+1,_,by omega,by go_num,by rw[HJ.o],by omega,HN.o,S.o,HT.o⟩
     case measure=>simp[intOf];omega
    ·have aq:¬ (i:Int)<(L:Int)-1-(i:Int):=by omega
     have al:=conv_row wr w.heap.size g B L f l;rw[turned_end I H d HD.o.2 λ_=>rfl,← HD.o.1] at al;have A:Hid (zB w wr):=p;clear l p I;go_wp2_with fail;go_ret;exact⟨rfl,A.o⟩
  ·have Y:0<M:=by omega
   have a6:R≠0:=by
    intro e;have:=s.len;rw[e] at this;have:=dig_nil (List.eq_nil_of_length_eq_zero this);omega
   have am:R≤100:=by have:=s.len;have:=dig_mono t.1;omega
   have au:d.length<100:=by have:=text_len t Y;omega
   have aj:Hid (TextInv m (M/10) (d++[48+((M%10:Nat):Int)])):=text_more t Y;have ai:Hid (Ru wr a2 R k2 (dig M)):=s;have T:Hid (wr.ownsRow w.heap.size 5 1 G d.length (d.map (Value.int .u8))):=q;have ac:Hid (zB w wr):=D;have ap:0<(R:Int):=by omega
   clear s q D t hM;go_wp2_with fail;refine(small_any a2 R k2 10 (dig M) wr ai.o am (by omega) (by omega)).mono ?_;rintro e w3 ⟨a3,n3,k3,rfl,P,p,a4⟩;rw[nv_dig] at P;rw[nv_dig];have ar:M%10<10:=Nat.mod_lt _ (by decide);generalize aF:M%10=r at *;have K:Hid (w3.ownsRow w.heap.size 5 1 G d.length (d.map (Value.int .u8))):=own_below T.o p
   have U:Hid (Ru w3 a3 n3 k3 (dig (M / 10))∧∀ b Q,a3=some ⟨b,Q,none⟩→some b≠G.ownBlock):=⟨P,fun b Q e h=>by
    have h1:=own_lt T.o h.symm;have h2:=a4 b Q e
    omega⟩
   have A:=shB ac p;have aD:(r:Int)<10:=by omega
   have aE:(48+(r:Int))%256=48+(r:Int):=by omega
   clear P p a4
   go_wp2_with (first
    | (at_builtin;refine wpList_append_lies _ rfl _ _ 195 rfl w.heap.size 5 i0 (.int .u8 0) 1 1 Tryz.underlying195 hi a8 a9 aa rfl (by decide) _ _ _ rfl (K.o.alloc _) ⟨w3.heap.size,0,none⟩ 1 1 [.int .u8 (48+(r:Int))] rfl rfl ?c1 ?c2 (by decide) ?c3 ?c4 ?c5 _ rfl ?_))
   case c1=>
    intro j u hj
    match j,hj with
    |0,hj=>simp at hj;subst hj;simp[Addr.add]
   case c2=>intro u hu;simp at hu;subst hu;rfl
   case c3=>unfold maxLen;omega
   case c4=>omega
   case c5=>have:=A.o.size;simp;omega
   intro g4 J w4 F E _ _
   have af:Hid (w4.ownsRow w.heap.size 5 1 (.slice (some ⟨g4,0,none⟩) (d.length+1) J) (d++[48+(r:Int)]).length ((d++[48+(r:Int)]).map (Value.int .u8))):=by
    have C:w4.ownsRow w.heap.size 5 1 (.slice (some ⟨g4,0,none⟩) (d.length+1) J) (d++[48+(r:Int)]).length ((d++[48+(r:Int)]).map (Value.int .u8)):=by
     simpa using F
    exact C
   have ah:Hid (Ru w4 a3 n3 k3 (dig (M/10))):=(U.o.1.below ((Below.refl _ w3).alloc zc _)).grown E U.o.2
   have ad:Hid (zB w w4):=by
    have a0:=A.o.alloc (A.o.size) (.cells #[.int .u8 (48+(r:Int))] 5);exact a0.grown E a0.size (λk hk=>(own_lt K.o hk).1)
   have ae:Hid (lenOf G=d.length):=own_len K.o;clear F E;go_wp2_with fail;go_roundw
   case rel=>exact⟨_,M/10,_,a3,n3,k3,rfl,rfl,ah.o,af.o,ad.o,aj.o⟩
   case measure=>rw[ae.o];simp[lenOf];omega
theorem str_zero:strOf (decL 0)=⟨#[48]⟩:=by rw[decL_one (by decide)];rfl
theorem text_zero(z:Nat)(w:World)(hg:Bg w z 0):
  Calls Tryz.prog 95 #[.pointer (some ⟨z,0,none⟩),zI 10] w λe w'=>StrPost w 0 e w':=by
 obtain⟨a,n,c,b,d⟩:=hg;have g:n=0:=by have:=d.len;rw[dig_zero] at this;simpa using this.symm
 subst g;obtain⟨c0,c1⟩:=bg_at b (Below.refl _ w);have f:Hid (StrPost w 0 (.returned (.string ⟨#[48]⟩)) w):=⟨by rw[str_zero],zb⟩
 clear d b;go_enter Tryz.func95,Tryz.ntmps95;go_wp2_with fail;go_ret;exact f.o
theorem string_any(z m:Nat)(w:World)(hg:Bg w z m)(hl:(dig m).length≤100)(hd:(decL m).length≤100):
  Calls Tryz.prog 60 #[.pointer (some ⟨z,0,none⟩)] w λe w'=>StrPost w m e w':=by
 have c:Hid (zC 95 #[.pointer (some ⟨z,0,none⟩),zI 10] w λe w'=>StrPost w m e w'):=by
  by_cases d:m=0
  ·subst d;exact text_zero z w hg
  ·exact text_any z m w hg (by omega) hl hd
 clear hg;go_enter Tryz.func60,Tryz.ntmps60;go_wp2_with fail;refine c.o.mono ?_;rintro e f ⟨rfl,a⟩;have b:Hid (zB w f):=a;clear a;go_wp2_with fail;go_ret;exact⟨rfl,b.o⟩
end words
end Go.Proofs.YtoepgdhiepedeaaGreatDoor
