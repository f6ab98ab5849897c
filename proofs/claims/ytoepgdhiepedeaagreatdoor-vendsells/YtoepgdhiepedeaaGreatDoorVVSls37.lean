import Derived.Test.YtoepgdhiepedeaaGreatDoorVVSls32
import Derived.Test.YtoepgdhiepedeaaGreatDoorVVSls36
set_option linter.unusedVariables false
set_option linter.unusedSimpArgs false
set_option maxHeartbeats 4000000
set_option maxRecDepth 100000
namespace Go.Proofs.YtoepgdhiepedeaaGreatDoor
namespace token
open words
open Go.RowKit
theorem words_no(c i a t:Int)(w:World)(ht:TTab w)(h:flawT c i a t≠0):
  Calls Tryz.prog 78 #[.agg #[zI c,zI i,zI a,zI t]] w λe w'=>e=.returned (.tuple #[.agg #[.int .u32 0,.int .u32 0,.int .u32 0],zI (flawT c i a t)])∧zB w w':=by
 have p:Hid (∀W,TTab W→zC 111 #[.agg #[zI c,zI i,zI a,zI t]] W λe w'=>e=.returned (zI (flawT c i a t))∧zB W w'):=λW y=>flaw_any c i a t W y;have C:(flawT c i a t != 0)=true:=by simpa using h
 have d:zB w ((w.alloc (.cells #[zI c,zI i,zI a,zI t] 73)).alloc (.cells #[.int .u32 0,.int .u32 0,.int .u32 0] 135)):=(bel_box _ _).alloc (by simp) _;have n:Hid (zB w ((w.alloc (.cells #[zI c,zI i,zI a,zI t] 73)).alloc (.cells #[.int .u32 0,.int .u32 0,.int .u32 0] 135))):=d;have q:Hid (TTab ((w.alloc (.cells #[zI c,zI i,zI a,zI t] 73)).alloc (.cells #[.int .u32 0,.int .u32 0,.int .u32 0] 135))):=ht.below d;have r:Hid (Blk ((w.alloc (.cells #[zI c,zI i,zI a,zI t] 73)).alloc (.cells #[.int .u32 0,.int .u32 0,.int .u32 0] 135)) (w.heap.size+1) #[.int .u32 0,.int .u32 0,.int .u32 0] 135):=Blk.new1 _ _ _ _;clear ht h d;generalize flawT c i a t=f at *;go_enter Tryz.func78,Tryz.ntmps78;go_wp2_with fail;refine(p.o _ q.o).mono ?_;rintro e m ⟨rfl,g⟩;have b:=r.o.next g;have j:=bel_step n.o g;have l:Hid (zB w (((m.setCell ⟨w.heap.size+1,0,none⟩ (.int .u32 0)).setCell ⟨w.heap.size+1,1,none⟩ (.int .u32 0)).setCell ⟨w.heap.size+1,2,none⟩ (.int .u32 0))):=bel_set (bel_set (bel_set j _ _ _ (by omega)) _ _ _ (by omega)) _ _ _ (by omega);have k:Blk (((m.setCell ⟨w.heap.size+1,0,none⟩ (.int .u32 0)).setCell ⟨w.heap.size+1,1,none⟩ (.int .u32 0)).setCell ⟨w.heap.size+1,2,none⟩ (.int .u32 0)) (w.heap.size+1) #[.int .u32 0,.int .u32 0,.int .u32 0] 135:=((b.set 0 _).set 1 _).set 2 _;have s:Hid (_=_):=k.cell 0;have u:Hid (_=_):=k.cell 1;have x:Hid (_=_):=k.cell 2;have D:=b.cell 0;have E:=b.cell 1;have F:=b.cell 2;have z:=b.free 0;have A:=b.free 1;have B:=b.free 2;clear g b k j;go_wp2_with fail;refine bodyPost_ret (v:=.tuple #[.agg #[.int .u32 0,.int .u32 0,.int .u32 0],zI f]) (by simp[results,Tryz.results78,s.o,u.o,x.o,go_sem]) rfl ⟨rfl,l.o⟩
def WordsPost(w:World)(k:Tok)(e:Ending)(w':World):Prop:=∃a b c:Nat,e=.returned (.tuple #[.agg #[.int .u32 (a:Int),.int .u32 (b:Int),.int .u32 (c:Int)],zI 0])∧WN a b c (k.num*97)∧zB w w'
theorem words_ok(k:Tok)(w:World)(ht:TTab w)(hk:k.ok):
  Calls Tryz.prog 78 #[k.v] w λe w'=>WordsPost w k e w':=by
 have M:Hid (∀W,TTab W→zC 111 #[.agg #[zI (k.c:Int),zI (k.i:Int),zI (k.a:Int),zI (k.t:Int)]] W λe w'=>e=.returned (zI 0)∧zB W w'):=λW r=>by
  have:=flaw_any k.c k.i k.a k.t W r
  rwa [flaw_tok.2 hk] at this
 have O:Hid (∀W,TTab W→zC 113 #[.agg #[zI (k.c:Int),zI (k.i:Int),zI (k.a:Int),zI (k.t:Int)]] W λe w'=>PackPost W k e w'):=λW r=>pack_any k W hk r
 have P:Hid (∀(x y z:Nat) W,WN x y z k.num→zC 124 #[.agg #[.int .u32 (x:Int),.int .u32 (y:Int),.int .u32 (z:Int)],.int .u32 97] W λe w'=>∃(d f g:Nat)(o:Int),e=.returned (.tuple #[.agg #[.int .u32 (d:Int),.int .u32 (f:Int),.int .u32 (g:Int)],.int .u32 o])∧WN d f g (k.num*97)∧zB W w'):=λx y z W r=>
  times_wn x y z k.num 97 W r (by omega) (by have:=num_bd hk;omega)
 have m:zB w ((w.alloc (.cells #[zI (k.c:Int),zI (k.i:Int),zI (k.a:Int),zI (k.t:Int)] 73)).alloc (.cells #[.int .u32 0,.int .u32 0,.int .u32 0] 135)):=(bel_box _ _).alloc (by simp) _;have L:Hid (zB w ((w.alloc (.cells #[zI (k.c:Int),zI (k.i:Int),zI (k.a:Int),zI (k.t:Int)] 73)).alloc (.cells #[.int .u32 0,.int .u32 0,.int .u32 0] 135))):=m;have G:Hid (TTab ((w.alloc (.cells #[zI (k.c:Int),zI (k.i:Int),zI (k.a:Int),zI (k.t:Int)] 73)).alloc (.cells #[.int .u32 0,.int .u32 0,.int .u32 0] 135))):=ht.below m;have Q:Hid (Blk ((w.alloc (.cells #[zI (k.c:Int),zI (k.i:Int),zI (k.a:Int),zI (k.t:Int)] 73)).alloc (.cells #[.int .u32 0,.int .u32 0,.int .u32 0] 135)) (w.heap.size+1) #[.int .u32 0,.int .u32 0,.int .u32 0] 135):=Blk.new1 _ _ _ _;have R:Hid (Blk ((w.alloc (.cells #[zI (k.c:Int),zI (k.i:Int),zI (k.a:Int),zI (k.t:Int)] 73)).alloc (.cells #[.int .u32 0,.int .u32 0,.int .u32 0] 135)) w.heap.size #[zI (k.c:Int),zI (k.i:Int),zI (k.a:Int),zI (k.t:Int)] 73):=(Blk.new _ _ _).alloc _;clear ht hk m;unfold Tok.v;go_enter Tryz.func78,Tryz.ntmps78;go_wp2_with fail;refine(M.o _ G.o).mono ?_;rintro e V ⟨rfl,h⟩;have A:=shB L h;have F:Hid (TTab V):=G.o.below h;have D:=shN Q h;have s:=R.o.next h;have I:=s.cell 0;have J:=s.cell 1;have K:=s.cell 2;have X:=s.cell 3;clear h s;go_wp2_with fail;refine(O.o _ F.o).mono ?_;rintro e w2 ⟨x,y,z,rfl,j,n⟩;have p:=shB A n;have E:=shN D n;have N:Hid (WN x y z k.num):=j;clear n j I J K X;go_wp2_with fail;refine(P.o _ _ _ _ N.o).mono ?_;rintro e H ⟨d,f,g,o,rfl,j,l⟩;have q:=(bel_step p.o l).alloc (bel_step p.o l).size (.cells #[.int .u32 (d:Int),.int .u32 (f:Int),.int .u32 (g:Int)] 135);have b:=(E.o.next l).alloc (.cells #[.int .u32 (d:Int),.int .u32 (f:Int),.int .u32 (g:Int)] 135)
 have C:Hid (WN d f g (k.num*97)):=j;clear l j;have B:Hid (zB w ((((H.alloc (.cells #[.int .u32 (d:Int),.int .u32 (f:Int),.int .u32 (g:Int)] 135)).setCell ⟨w.heap.size+1,0,none⟩ (.int .u32 (d:Int))).setCell ⟨w.heap.size+1,1,none⟩ (.int .u32 (f:Int))).setCell ⟨w.heap.size+1,2,none⟩ (.int .u32 (g:Int)))):=bel_set (bel_set (bel_set q _ _ _ (by omega)) _ _ _ (by omega)) _ _ _ (by omega);have u:Blk ((((H.alloc (.cells #[.int .u32 (d:Int),.int .u32 (f:Int),.int .u32 (g:Int)] 135)).setCell ⟨w.heap.size+1,0,none⟩ (.int .u32 (d:Int))).setCell ⟨w.heap.size+1,1,none⟩ (.int .u32 (f:Int))).setCell ⟨w.heap.size+1,2,none⟩ (.int .u32 (g:Int))) (w.heap.size+1) #[.int .u32 (d:Int),.int .u32 (f:Int),.int .u32 (g:Int)] 135:=((b.set 0 _).set 1 _).set 2 _;have S:Hid (_=_):=u.cell 0;have T:Hid (_=_):=u.cell 1;have U:Hid (_=_):=u.cell 2;have I:=b.cell 0;have J:=b.cell 1;have K:=b.cell 2;have Y:=b.free 0;have Z:=b.free 1;have f2:=b.free 2;clear u b q;go_wp2_with fail;refine bodyPost_ret (v:=.tuple #[.agg #[.int .u32 (d:Int),.int .u32 (f:Int),.int .u32 (g:Int)],zI 0]) (by simp[results,Tryz.results78,S.o,T.o,U.o,go_sem]) rfl ⟨d,f,g,rfl,C.o,B.o⟩
end token
namespace disk
open Go.RowKit cell
def EPost(J:Nat→World→Prop)(c:List Int)(e:Ending)(w':World):Prop:=
 ∃x f k,e=.returned (.tuple #[zI x,zI f])∧J k w'∧((¬ May c∧x=0∧f=1)∨(May c∧lenAt c (repD c).2<0∧x=0∧f=3)∨(May c∧lenAt c (repD c).2=0∧repD c=itD c k∧x=((repD c).2:Int)∧f=0))
variable{c:List Int}{p:Nat}
theorem len_zero(h:c.getD p 0=0):lenAt c p=0:=by unfold lenAt;rw[if_pos (.inr h)]
theorem len_end(h:p=c.length):lenAt c p=0:=by unfold lenAt;rw[if_pos (.inl h)]
theorem len_bad(hp:p<c.length)(h0:c.getD p 0≠0)(h:64<c.getD p 0∨(c.length:Int)≤p+c.getD p 0):lenAt c p<0:=by
 unfold lenAt;rw[if_neg (by omega)];by_cases a:64<c.getD p 0
 ·rw[if_pos a];decide
 ·rw[if_neg a,if_pos (by omega)];decide
theorem get_wd(hw:∀x∈c,0≤x∧x<4294967296)(p:Nat):0≤c.getD p 0∧c.getD p 0<4294967296:=by
 by_cases h:p<c.length
 ·have e:c.getD p 0=c[p]:=by simp[List.getD,h]
  rw[e];exact hw _ (List.getElem_mem h)
 ·have e:c.getD p 0=0:=by simp[List.getD,Nat.le_of_not_lt h]
  rw[e];decide
theorem rowU_part{W:World}{b o n:Nat}(h:RowU W (some ⟨b,o,none⟩) n c){p m:Nat}(hm:(c.getD p 0).toNat=m)(hp:p+m<n):RowU W (some ⟨b,o+(p+1),none⟩) m (recAt c p):=by
 refine⟨rec_len hm (by rw[h.1];exact hp),.inr ⟨b,o+(p+1),rfl,λi d=>?_⟩⟩;obtain⟨f,g,e,_,a⟩:=h.at (by omega);cases e;rw[rec_at hm d,show o+(p+1)+i=o+(p+1+i) by omega];exact a (p+1+i) (by omega)
theorem each_any(F:Nat)(caps:Array Value)(J:Nat→World→Prop)(a:Option Addr)(n cap:Nat)(c:List Int)(w:World)(hJ:∀k W,J k W→RowU W a n c)(h0:J 0 w)(hcap:n≤cap)(hw:∀x∈c,0≤x∧x<4294967296)(hK:∀args w,(callFunc F args).run Tryz.prog w=.ok (.enter F args) w)
  (hf:∀(k p m b o:Nat)(W:World),J k W→(itD c k).2=p→itD c (k+1)=((itD c k).1++[recAt c p],p+m+1)→RowU W (some ⟨b,o,none⟩) m (recAt c p)→1≤m→m≤64→p≤2048→zC F (#[.slice (some ⟨b,o,none⟩) m m]++caps) W λe w'=>e=.returned (.tuple #[])∧J (k+1) w'):
  Calls Tryz.prog 121 #[.slice a n cap,.func (.func F) #[] caps] w λe w'=>EPost J c e w':=by
 have l:=(hJ 0 w h0).1;have T:=zh h0;have H:=zh l;by_cases r:1≤n∧n≤2048
 ·obtain⟨b,o,rfl,_,_⟩:=(hJ 0 w h0).at (by omega);have HJ:=zh hJ
  have M:Hid (∀k W,J k W→∀j,j<n→W.cell? ⟨b,o+j,none⟩=some (.int .u32 (c.getD j 0))):=λk W h j I=>by
   obtain⟨b',o',e,_,hc⟩:=(hJ k W h).at (by omega);cases e;exact hc j I
  have HW:=zh (get_wd hw);have Z:=zh hf;have s:Hid (May c):=⟨by omega,by omega⟩
  obtain⟨a1,a2⟩:=r;have U:decide ((n:Int)<1)=false:=by simp;omega
  have d2:decide ((2048:Int)<(n:Int))=false:=by simp;omega
  clear hJ hf hw l h0;go_enter Tryz.func121,Tryz.ntmps121;go_wp2_with fail;go_loopw [6] (λS wr=>∃(k p:Nat),p≤n∧S=zI (p:Int)∧(itD c k).2=p∧J k wr) (λS _=>n+1-(intOf S).toNat)
  case atStart=>exact⟨0,0,Nat.zero_le _,rfl,rfl,T.o⟩
  case round=>
   obtain⟨k,p,hp,rfl,X,I⟩:=hrel;have f:=zh I;have i:=zh X;clear I X;by_cases G:p<n
   ·have Y:=M.o k wr f.o p G;have R:=HW.o p;have e1:decide ((p:Int)<(n:Int))=true:=by simp;omega
    by_cases g:c.getD p 0=0
    ·have A:=zh (len_zero g)
     have q:Hid (EPost J c (.returned (.tuple #[zI (p:Int),zI 0])) wr):=by
      have C:¬ 0<lenAt c (itD c k).2:=by rw[i.o,A.o];decide
      have u:=rep_of C;exact⟨_,_,k,rfl,f.o,.inr (.inr ⟨s.o,by rw[u,i.o];exact A.o,u,by rw[u,i.o],rfl⟩)⟩
     rw[g] at Y;clear R g;go_wp2_with fail;go_ret2;exact q.o
    ·by_cases d:64<c.getD p 0∨(n:Int)≤p+c.getD p 0
     ·have q:Hid (EPost J c (.returned (.tuple #[zI 0,zI 3])) wr):=by
       have K:=len_bad (c:=c) (p:=p) (by rw[H.o];exact G) g (by rw[H.o];exact d);have C:¬ 0<lenAt c (itD c k).2:=by rw[i.o];omega
       exact⟨_,_,k,rfl,f.o,.inr (.inl ⟨s.o,by rw[rep_of C,i.o];exact K,rfl,rfl⟩)⟩
      have e0:(c.getD p 0 != 0)=true:=by simpa using g
      generalize c.getD p 0=z at *;obtain⟨a3,a4⟩:=R;by_cases B:64<z
      ·have V:decide ((64:Int)<z)=true:=by simpa using B
       clear d;go_wp2_with fail;go_ret2;exact q.o
      ·have V:decide ((64:Int)<z)=false:=by simpa using B
       have e4:decide ((n:Int)<(p:Int)+1+z)=true:=by simp;omega
       clear d;go_wp2_with fail;go_ret2;exact q.o
     ·obtain⟨m,hm⟩:∃m:Nat,c.getD p 0=(m:Int):=⟨(c.getD p 0).toNat,by omega⟩
      have D:(c.getD p 0).toNat=m:=by rw[hm];simp
      have O:1≤m:=by omega
      have P:m≤64:=by omega
      have Q:p+m<n:=by omega
      have t:lenAt c p=(m:Int):=by rw[len_of (by omega) (by omega) (by rw[H.o];omega),hm]
      have y:Hid (itD c (k+1)=((itD c k).1++[recAt c p],p+m+1)):=by
       have h:=it_live (c:=c) (k:=k) (by rw[i.o,t];omega);rw[i.o,t,Int.toNat_natCast] at h;exact h
      have L:=zh (Z.o k p m b (o+(p+1)) wr f.o i.o y.o (rowU_part (HJ.o k wr f.o) D Q) O P (by omega));rw[hm] at Y;have e0:((m:Int) != 0)=true:=by simp;omega
      have V:decide ((64:Int)<(m:Int))=false:=by simp;omega
      have e4:decide ((n:Int)<(p:Int)+1+(m:Int))=false:=by simp;omega
      have a0:p+1<cap:=by omega
      clear R g d hm D t;go_wp2_with fail;refine L.o.mono ?_;rintro e w1 ⟨rfl,E⟩;have N:=zh E;clear E;go_wp2_with fail;go_roundw
      case rel=>exact⟨k+1,p+m+1,by omega,by go_num,by rw[y.o],N.o⟩
      case measure=>simp[intOf];omega
   ·have e1:decide ((p:Int)<(n:Int))=false:=by simp;omega
    have q:Hid (EPost J c (.returned (.tuple #[zI (p:Int),zI 0])) wr):=by
     have K:lenAt c p=0:=len_end (by rw[H.o];omega);have C:¬ 0<lenAt c (itD c k).2:=by rw[i.o,K];decide
     have u:=rep_of C;exact⟨_,_,k,rfl,f.o,.inr (.inr ⟨s.o,by rw[u,i.o];exact K,u,by rw[u,i.o],rfl⟩)⟩
    go_wp2_with fail;go_ret2;exact q.o
 ·have q:Hid (EPost J c (.returned (.tuple #[zI 0,zI 1])) w):=⟨0,1,0,rfl,T.o,.inl ⟨λh=>r ⟨by rw[← l];exact h.1,by rw[← l];exact h.2⟩,rfl,rfl⟩⟩
  clear hJ hf hw h0 l;go_enter Tryz.func121,Tryz.ntmps121;by_cases h1:1≤n
  ·have U:decide ((n:Int)<1)=false:=by simp;omega
   have d2:decide ((2048:Int)<(n:Int))=true:=by simp;omega
   go_wp2_with fail;go_ret2;exact q.o
  ·have U:decide ((n:Int)<1)=true:=by simp;omega
   go_wp2_with fail;go_ret2;exact q.o
end disk
namespace book
open Go.RowKit cell
theorem take_next(l:List Int)(k:Nat)(h:k<l.length):l.take k++[l.getD k 0]=l.take (k+1):=by
 rw[List.take_add_one];simp[List.getD,List.getElem?_eq_getElem h]
theorem index13_0(a0 a1 a2 a3 a4 a5 a6 a7 a8 a9 a10 a11 a12:Int)(W:World):(Instr.index 251 (.agg #[zI a0,zI a1,zI a2,zI a3,zI a4,zI a5,zI a6,zI a7,zI a8,zI a9,zI a10,zI a11,zI a12]) (zI 0)).run Tryz.prog W=.ok (zI a0) W:=by kernel_rfl
theorem index13_1(a0 a1 a2 a3 a4 a5 a6 a7 a8 a9 a10 a11 a12:Int)(W:World):(Instr.index 251 (.agg #[zI a0,zI a1,zI a2,zI a3,zI a4,zI a5,zI a6,zI a7,zI a8,zI a9,zI a10,zI a11,zI a12]) (zI 1)).run Tryz.prog W=.ok (zI a1) W:=by kernel_rfl
theorem index13_2(a0 a1 a2 a3 a4 a5 a6 a7 a8 a9 a10 a11 a12:Int)(W:World):(Instr.index 251 (.agg #[zI a0,zI a1,zI a2,zI a3,zI a4,zI a5,zI a6,zI a7,zI a8,zI a9,zI a10,zI a11,zI a12]) (zI 2)).run Tryz.prog W=.ok (zI a2) W:=by kernel_rfl
theorem index13_3(a0 a1 a2 a3 a4 a5 a6 a7 a8 a9 a10 a11 a12:Int)(W:World):(Instr.index 251 (.agg #[zI a0,zI a1,zI a2,zI a3,zI a4,zI a5,zI a6,zI a7,zI a8,zI a9,zI a10,zI a11,zI a12]) (zI 3)).run Tryz.prog W=.ok (zI a3) W:=by kernel_rfl
theorem index13_4(a0 a1 a2 a3 a4 a5 a6 a7 a8 a9 a10 a11 a12:Int)(W:World):(Instr.index 251 (.agg #[zI a0,zI a1,zI a2,zI a3,zI a4,zI a5,zI a6,zI a7,zI a8,zI a9,zI a10,zI a11,zI a12]) (zI 4)).run Tryz.prog W=.ok (zI a4) W:=by kernel_rfl
theorem index13_5(a0 a1 a2 a3 a4 a5 a6 a7 a8 a9 a10 a11 a12:Int)(W:World):(Instr.index 251 (.agg #[zI a0,zI a1,zI a2,zI a3,zI a4,zI a5,zI a6,zI a7,zI a8,zI a9,zI a10,zI a11,zI a12]) (zI 5)).run Tryz.prog W=.ok (zI a5) W:=by kernel_rfl
theorem index13_6(a0 a1 a2 a3 a4 a5 a6 a7 a8 a9 a10 a11 a12:Int)(W:World):(Instr.index 251 (.agg #[zI a0,zI a1,zI a2,zI a3,zI a4,zI a5,zI a6,zI a7,zI a8,zI a9,zI a10,zI a11,zI a12]) (zI 6)).run Tryz.prog W=.ok (zI a6) W:=by kernel_rfl
theorem index13_7(a0 a1 a2 a3 a4 a5 a6 a7 a8 a9 a10 a11 a12:Int)(W:World):(Instr.index 251 (.agg #[zI a0,zI a1,zI a2,zI a3,zI a4,zI a5,zI a6,zI a7,zI a8,zI a9,zI a10,zI a11,zI a12]) (zI 7)).run Tryz.prog W=.ok (zI a7) W:=by kernel_rfl
theorem index13_8(a0 a1 a2 a3 a4 a5 a6 a7 a8 a9 a10 a11 a12:Int)(W:World):(Instr.index 251 (.agg #[zI a0,zI a1,zI a2,zI a3,zI a4,zI a5,zI a6,zI a7,zI a8,zI a9,zI a10,zI a11,zI a12]) (zI 8)).run Tryz.prog W=.ok (zI a8) W:=by kernel_rfl
theorem index13_9(a0 a1 a2 a3 a4 a5 a6 a7 a8 a9 a10 a11 a12:Int)(W:World):(Instr.index 251 (.agg #[zI a0,zI a1,zI a2,zI a3,zI a4,zI a5,zI a6,zI a7,zI a8,zI a9,zI a10,zI a11,zI a12]) (zI 9)).run Tryz.prog W=.ok (zI a9) W:=by kernel_rfl
theorem index13_10(a0 a1 a2 a3 a4 a5 a6 a7 a8 a9 a10 a11 a12:Int)(W:World):(Instr.index 251 (.agg #[zI a0,zI a1,zI a2,zI a3,zI a4,zI a5,zI a6,zI a7,zI a8,zI a9,zI a10,zI a11,zI a12]) (zI 10)).run Tryz.prog W=.ok (zI a10) W:=by kernel_rfl
theorem index13_11(a0 a1 a2 a3 a4 a5 a6 a7 a8 a9 a10 a11 a12:Int)(W:World):(Instr.index 251 (.agg #[zI a0,zI a1,zI a2,zI a3,zI a4,zI a5,zI a6,zI a7,zI a8,zI a9,zI a10,zI a11,zI a12]) (zI 11)).run Tryz.prog W=.ok (zI a11) W:=by kernel_rfl
theorem index13_12(a0 a1 a2 a3 a4 a5 a6 a7 a8 a9 a10 a11 a12:Int)(W:World):(Instr.index 251 (.agg #[zI a0,zI a1,zI a2,zI a3,zI a4,zI a5,zI a6,zI a7,zI a8,zI a9,zI a10,zI a11,zI a12]) (zI 12)).run Tryz.prog W=.ok (zI a12) W:=by kernel_rfl
theorem index13(a0 a1 a2 a3 a4 a5 a6 a7 a8 a9 a10 a11 a12:Int)(k:Nat)(hk:k<13)(W:World):(Instr.index 251 (.agg #[zI a0,zI a1,zI a2,zI a3,zI a4,zI a5,zI a6,zI a7,zI a8,zI a9,zI a10,zI a11,zI a12]) (zI (k:Int))).run Tryz.prog W=.ok (zI ([a0,a1,a2,a3,a4,a5,a6,a7,a8,a9,a10,a11,a12].getD k 0)) W:=by
 match k,hk with
 |0,_=>exact index13_0 a0 a1 a2 a3 a4 a5 a6 a7 a8 a9 a10 a11 a12 W
 |1,_=>exact index13_1 a0 a1 a2 a3 a4 a5 a6 a7 a8 a9 a10 a11 a12 W
 |2,_=>exact index13_2 a0 a1 a2 a3 a4 a5 a6 a7 a8 a9 a10 a11 a12 W
 |3,_=>exact index13_3 a0 a1 a2 a3 a4 a5 a6 a7 a8 a9 a10 a11 a12 W
 |4,_=>exact index13_4 a0 a1 a2 a3 a4 a5 a6 a7 a8 a9 a10 a11 a12 W
 |5,_=>exact index13_5 a0 a1 a2 a3 a4 a5 a6 a7 a8 a9 a10 a11 a12 W
 |6,_=>exact index13_6 a0 a1 a2 a3 a4 a5 a6 a7 a8 a9 a10 a11 a12 W
 |7,_=>exact index13_7 a0 a1 a2 a3 a4 a5 a6 a7 a8 a9 a10 a11 a12 W
 |8,_=>exact index13_8 a0 a1 a2 a3 a4 a5 a6 a7 a8 a9 a10 a11 a12 W
 |9,_=>exact index13_9 a0 a1 a2 a3 a4 a5 a6 a7 a8 a9 a10 a11 a12 W
 |10,_=>exact index13_10 a0 a1 a2 a3 a4 a5 a6 a7 a8 a9 a10 a11 a12 W
 |11,_=>exact index13_11 a0 a1 a2 a3 a4 a5 a6 a7 a8 a9 a10 a11 a12 W
 |12,_=>exact index13_12 a0 a1 a2 a3 a4 a5 a6 a7 a8 a9 a10 a11 a12 W
theorem make13(w:World):(Instr.makeSlice 25 (zI 0) (zI 13)).run Tryz.prog w=.ok (.slice (some ⟨w.heap.size,0,none⟩) 0 13) (w.alloc (.cells (madeCells (Value.int .u32 0).cells 13) 83)):=by
 obtain⟨e,d,a,b,c⟩:=info_parts info_u32;have:=run_make (P:=Tryz.prog) w 25 83 e (.int .u32 0) Tryz.underlying25 d a .i64 .i64 0 13 (by omega) (by omega) (by rw[c];decide) (by omega);rw[b] at this;exact this
theorem bwords(v:Ev)(hm:∀x∈evL v,0≤x∧x<4294967296)(w:World):Calls Tryz.prog 120 #[.agg #[zI v.kd,zI v.me,zI v.mo,zI v.id,zI v.te,zI v.de,zI v.fe,zI v.pr,zI v.ch,zI v.un,zI v.tg,zI v.ow,zI v.bp]] w λe w'=>∃V,e=.returned V∧Ws w' w.heap.size V (evL v)∧zB w w':=by
 have R:Hid (∀ k,k<13→0≤(evL v).getD k 0∧(evL v).getD k 0<4294967296):=fun k p=>hm _ (by
  have hl:k<(evL v).length:=p;rw[show (evL v).getD k 0=(evL v)[k] by simp[List.getD,List.getElem?_eq_getElem hl]]
  exact List.getElem_mem _)
 have A:Hid (∀k:Nat,k<13→∀W,(Instr.index 251 (.agg #[zI v.kd,zI v.me,zI v.mo,zI v.id,zI v.te,zI v.de,zI v.fe,zI v.pr,zI v.ch,zI v.un,zI v.tg,zI v.ow,zI v.bp]) (zI (k:Int))).run Tryz.prog W=.ok (zI ((evL v).getD k 0)) W):=λk p W=>index13 v.kd v.me v.mo v.id v.te v.de v.fe v.pr v.ch v.un v.tg v.ow v.bp k p W;have Q:Hid ((evL v).length=13):=rfl;clear hm;have g:Hid (zB w ((w.alloc (.cells #[zI v.kd,zI v.me,zI v.mo,zI v.id,zI v.te,zI v.de,zI v.fe,zI v.pr,zI v.ch,zI v.un,zI v.tg,zI v.ow,zI v.bp] 44)).alloc (.cells #[zI v.kd,zI v.me,zI v.mo,zI v.id,zI v.te,zI v.de,zI v.fe,zI v.pr,zI v.ch,zI v.un,zI v.tg,zI v.ow,zI v.bp] 251))):=(zb.alloc zc _).alloc (by simp) _;go_enter Tryz.func120,Tryz.ntmps120;go_upto_region 2 with fail
 generalize j:((w.alloc (.cells #[zI v.kd,zI v.me,zI v.mo,zI v.id,zI v.te,zI v.de,zI v.fe,zI v.pr,zI v.ch,zI v.un,zI v.tg,zI v.ow,zI v.bp] 44)).alloc (.cells #[zI v.kd,zI v.me,zI v.mo,zI v.id,zI v.te,zI v.de,zI v.fe,zI v.pr,zI v.ch,zI v.un,zI v.tg,zI v.ow,zI v.bp] 251))=f at *;have P:Hid (Blk f (w.heap.size+1) #[zI v.kd,zI v.me,zI v.mo,zI v.id,zI v.te,zI v.de,zI v.fe,zI v.pr,zI v.ch,zI v.un,zI v.tg,zI v.ow,zI v.bp] 251):=by show Blk _ _ _ _;rw[← j];exact Blk.new1 _ _ _ _
 clear j;have I:=make13 f;have n:=g.o.size;have B:Hid (Ws (f.alloc (.cells (madeCells (Value.int .u32 0).cells 13) 83)) w.heap.size (.slice (some ⟨f.heap.size,0,none⟩) 0 13) []):=World.ownsRow_made f _ 13 n (by unfold maxLen;omega) (size_madeCells _ _);have r:=zyf g (.cells (madeCells (Value.int .u32 0).cells 13) 83);have q:=zya P (.cells (madeCells (Value.int .u32 0).cells 13) 83);generalize (f.alloc (.cells (madeCells (Value.int .u32 0).cells 13) 83))=W0 at *;obtain⟨S,T,U,X,Y,Z,b6,b7,b8,b9,E,F,G⟩:=scl13 q;go_wp2_with fail;clear I n S T U X Y Z b6 b7 b8 b9 E F G;go_loopw [4,45] (λv4 d wr=>∃(k:Nat)(V:Value),k≤13∧V=v4∧d=zI (k:Int)∧Ws wr w.heap.size V ((evL v).take k)∧zB w wr) (λ_ d _=>13-(intOf d).toNat)
 case atStart=>exact⟨0,_,Nat.zero_le _,rfl,rfl,B.o,r.o⟩
 case round=>
  obtain⟨k,V,p,hV,rfl,c,a⟩:=hrel;subst hV;have J:((evL v).take k).length≤1000000:=by rw[List.length_take];omega
  have i:Hid (∀o,Ws (wr.alloc o) w.heap.size V ((evL v).take k)):=λo=>c.alloc o;have t:Hid (∀o,zB w (wr.alloc o)):=λo=>a.alloc a.size o;have h:Hid (∀o,w.heap.size≤(wr.alloc o).heap.size):=λo=>(a.alloc a.size o).size;have u:=zh a;have D:=zh c;clear c a;by_cases b:k<13
  ·have a0:=A.o k b;have C:Hid ((evL v).take k++[(evL v).getD k 0]=(evL v).take (k+1)):=take_next _ k b;have hz:=R.o k b;generalize (evL v).getD k 0=z at *;have a1:IntKind.u32.wrap z=z:=by rw[IntKind.wrap_u32];omega
   have L:z%4294967296=z:=by omega
   have H:decide ((k:Int)<13)=true:=decide_eq_true (by omega);clear hz;go_wp2_with (first|(refine wp_word rfl _ _ rfl w.heap.size wr.heap.size V ((evL v).take k) z rfl rfl (i.o _) ((Blk.new wr _ _).cell 0) J (h.o _) ?_;intro M N K m;have l:=own_bel (i.o _) m (t.o _) zc (h.o _);have O:Hid (Ws N w.heap.size M ((evL v).take k++[z])):=K;have s:Hid (zB w N):=l;clear K m l)|fail)
   go_roundw
   case rel=>exact⟨k+1,M,by omega,rfl,by go_num,by rw[← C.o];exact O.o,s.o⟩
   case measure=>simp[intOf];omega
  ·have H:decide ((k:Int)<13)=false:=decide_eq_false (by omega)
   have y:Hid (Ws wr w.heap.size V (evL v)):=by
    have:=D.o;rw[List.take_of_length_le (by rw[Q.o];omega)] at this;exact this
   go_wp2_with fail;go_ret;exact⟨V,rfl,y.o,u.o⟩
end book
namespace disk
open Go.RowKit cell
theorem nothing_done(v:Value)(w:World):Calls Tryz.prog 122 #[v] w λe w'=>e=.returned (.tuple #[])∧w'=w:=by
 go_enter Tryz.func122,Tryz.ntmps122;go_wp2_with fail;go_end0;exact⟨rfl,rfl⟩
theorem kappend:KAppend:=by
 intro w a n D c b m u r h z g F hw E j i y I;have l:=E.1;by_cases d:1≤m∧m≤64
 ·have HE:Hid (zC 121 #[.slice a n D,.func (.func 122) #[] #[]] w λe K=>EPost (λ_ W=>W=w) c e K):=by
   refine each_any 122 #[] (λ_ W=>W=w) a n D c w (λk W G=>by rw[G];exact h) rfl g hw (λ_ _=>by kernel_rfl) ?_;intro k p m b o W G hp a2 hr h1 E h3;refine(nothing_done _ W).mono ?_;rintro e K ⟨rfl,rfl⟩;exact⟨rfl,G⟩
  have t:Hid (RMay r):=⟨by omega,by omega⟩
  have C:Hid (c.length=n∧r.length=m):=⟨h.1,l⟩
  have HL:Hid (∀p:Nat,p≤2048→n≤2048→zC 123 #[.slice b m u,zI (p:Int),zI (n:Int)] w λe K=>∃V,e=.returned V∧Lw K w.heap.size V (appW c p r)∧zB w K):=λp hp hn=>laying_any b m u r c p n w E d.1 d.2 hp hn h.1;obtain⟨a3,a4⟩:=d;have X:decide ((m:Int)<1)=false:=by simp;omega
  have d2:decide ((64:Int)<(m:Int))=false:=by simp;omega
  clear h z g F hw E j i y I l;go_enter Tryz.func77,Tryz.ntmps77;go_wp2_with fail;refine HE.o.mono ?_;rintro e w1 ⟨x,f,k,rfl,G,hi⟩;subst G;have HI:=zh hi;clear hi X d2;by_cases hf:f=0
  ·obtain⟨hmy,hl0,q⟩:May c∧lenAt c (repD c).2=0∧x=((repD c).2:Int):=by
    rcases HI.o with⟨_,_,e⟩|⟨_,_,_,e⟩|⟨J,q2,_,q4,_⟩
    ·rw[hf] at e;exact absurd e (by decide)
    ·rw[hf] at e;exact absurd e (by decide)
    ·exact⟨J,q2,q4⟩
   have T:Hid ((repD c).2≤n):=by show _≤_;rw[← C.o.1];exact rep_bound c
   have M:Hid (n≤(repD c).2+m→AppIs c r [] 16):=λZ=> .inr (.inr (.inr (.inl ⟨t.o,hmy,hl0,by rw[C.o.1,C.o.2];exact Z,rfl,rfl⟩)));have S:Hid ((repD c).2+m<n→AppIs c r (appW c (repD c).2 r) 0):=λZ=> .inr (.inr (.inr (.inr ⟨t.o,hmy,hl0,by rw[C.o.1,C.o.2];exact Z,rfl,rfl⟩)));have a0:n≤2048:=by have:=hmy.2;rw[C.o.1] at this;exact this
   subst hf;subst q;clear hmy hl0;generalize (repD c).2=p at *;have a6:=T.o;by_cases Y:n≤p+m
   ·have s:=zh (M.o Y);have e1:decide ((n:Int)<(p:Int)+1+(m:Int))=true:=by simp;omega
    go_wp2_with fail;go_ret2;exact⟨none,0,0,[],16,rfl,RowW.nil _ _,(λx q=>by cases q),zc,Nat.zero_le _,s.o,zb⟩
   ·have s:=zh (S.o (by omega));have e1:decide ((n:Int)<(p:Int)+1+(m:Int))=false:=by simp;omega
    have O:=HL.o p (by omega) a0;have Q:=zh O;go_wp2_with fail;refine Q.o.mono ?_;rintro e w2 ⟨V,rfl,B,hb⟩;obtain⟨va,vc,rfl,A,_,H,_⟩:=B.row
    have R:Hid (∀x,va=some x→w1.heap.size≤x.block):=λx q=>by
     subst q;exact(World.ownsRow.lt B x.block rfl).1
    have U:=zh A;have P:=zh H;have N:Hid ((appW c p r).length≤100000):=Nat.le_trans (app_few s.o) (by decide);have L:=zh hb;clear B hb A H;generalize appW c p r=ls at *;generalize a1:ls.length=zl at *;clear a1;go_wp2_with fail;go_ret2;exact⟨va,_,vc,ls,0,rfl,U.o,R.o,P.o,N.o,s.o,L.o⟩
  ·have s:Hid (AppIs c r [] f):=by
    rcases HI.o with⟨J,_,rfl⟩|⟨J,q2,_,rfl⟩|⟨_,_,_,_,e⟩
    ·exact .inr (.inl ⟨t.o,J,rfl,rfl⟩)
    ·exact .inr (.inr (.inl ⟨t.o,J,q2,rfl,rfl⟩))
    ·exact absurd e hf
   have a5:(f != 0)=true:=by simpa using hf
   clear hf;go_wp2_with fail;go_ret2;exact⟨none,0,0,[],f,rfl,RowW.nil _ _,(λx q=>by cases q),zc,Nat.zero_le _,s.o,zb⟩
 ·have s:Hid (AppIs c r [] 1):=.inl ⟨λh=>d ⟨by rw[← l];exact h.1,by rw[← l];exact h.2⟩,rfl,rfl⟩;clear h z g F hw E j i y I l;go_enter Tryz.func77,Tryz.ntmps77;by_cases h1:1≤m
  ·have X:decide ((m:Int)<1)=false:=by simp;omega
   have d2:decide ((64:Int)<(m:Int))=true:=by simp;omega
   go_wp2_with fail;go_ret2;exact⟨none,0,0,[],1,rfl,RowW.nil _ _,(λx q=>by cases q),zc,Nat.zero_le _,s.o,zb⟩
  ·have X:decide ((m:Int)<1)=true:=by simp;omega
   go_wp2_with fail;go_ret2;exact⟨none,0,0,[],1,rfl,RowW.nil _ _,(λx q=>by cases q),zc,Nat.zero_le _,s.o,zb⟩
end disk
namespace token
open words
open Go.RowKit
theorem str_list(ns:List Int):(strOf ns).data.toList=ns.map byt:=by
 have h:∀(ns:List Int)(r:ByteArray),(ns.foldl (λr n=>r.push (UInt8.ofNat n.toNat)) r).data.toList=r.data.toList++ns.map byt:=by
  intro ns
  induction ns with
  |nil=>intro r;simp
  |cons x l ih=>intro r;rw[List.foldl_cons,ih];simp[ByteArray.push,byt]
 have:=h ns ByteArray.empty;simpa [strOf] using this
theorem str_size(ns:List Int):(strOf ns).size=ns.length:=by
 rw[← check.len_eq,str_list];simp
theorem rep_list(n:Nat):Lib.repeatL [48] n=List.replicate n 48:=by
 induction n with
 |zero=>rfl
 |succ n ih=>rw[Lib.repeatL,ih];rfl
theorem bytes_ext{a b:ByteArray}(h:a.data.toList=b.data.toList):a=b:=by
 cases a;cases b;congr 1;exact Array.toList_inj.1 h
theorem pad_fmt(V n:Nat)(h:n+(decL V).length=20):(⟨(Lib.repeatL [48] n).toArray⟩:ByteArray)++strOf (decL V)=fmtB V:=by
 apply bytes_ext;rw[fmtB_list,show ((⟨(Lib.repeatL [48] n).toArray⟩:ByteArray)++strOf (decL V)).data.toList=Lib.repeatL [48] n++(strOf (decL V)).data.toList by simp,str_list,rep_list];unfold fmtL;rw[show 20-(decL V).length=n by omega]
theorem show_wn(a b c V:Nat)(w:World)(h:WN a b c V):
  Calls Tryz.prog 79 #[.agg #[.int .u32 (a:Int),.int .u32 (b:Int),.int .u32 (c:Int)]] w λe w'=>e=.returned (.string (strOf (decL V)))∧zB w w':=by
 have d:=wn_ok h;have:=show_any ⟨a,b,c⟩ w d.1
 rwa [d.2,Int.toNat_natCast] at this
theorem format_ok(k:Tok)(w:World)(ht:TTab w)(hk:k.ok):
  Calls Tryz.prog 41 #[k.v] w λe w'=>e=.returned (.tuple #[.string (fmtB (97*k.num)),zI 0])∧zB w w':=by
 have B:Hid (∀W,TTab W→zC 78 #[.agg #[zI (k.c:Int),zI (k.i:Int),zI (k.a:Int),zI (k.t:Int)]] W λe w'=>WordsPost W k e w'):=λW u=>words_ok k W u hk;have y:=num_bd hk;have x:=dec_len20 (V:=k.num*97) (by omega);have h:=str_size (decL (k.num*97));have s:Hid (∀(a b c:Nat) W,WN a b c (k.num*97)→zC 79 #[.agg #[.int .u32 (a:Int),.int .u32 (b:Int),.int .u32 (c:Int)]] W λe w'=>e=.returned (.string (strOf (decL (k.num*97))))∧zB W w'):=λa b c W u=>show_wn a b c _ W u;obtain⟨n,hn⟩:∃n:Nat,n+(decL (k.num*97)).length=20:=⟨20-(decL (k.num*97)).length,by omega⟩
 have r:Hid (∀W,zC 80 #[.string ⟨#[48]⟩,zI (n:Int)] W λe w'=>e=.returned (.string ⟨(Lib.repeatL [48] n).toArray⟩)∧zB W w'):=λW=>Tryz.strings_Repeat ⟨#[48]⟩ n W (by omega) (by show 1*n≤_;omega)
 have F:Hid ((⟨(Lib.repeatL [48] n).toArray⟩:ByteArray)++strOf (decL (k.num*97))=fmtB (97*k.num)):=by
  show _=_;rw[pad_fmt _ _ hn,Nat.mul_comm]
 have H:(⟨(Lib.repeatL [48] n).toArray⟩:ByteArray).size=n:=by
  show (Lib.repeatL [48] n).toArray.size=n;rw[rep_list];simp
 have C:Hid (TTab (w.alloc (.cells #[zI (k.c:Int),zI (k.i:Int),zI (k.a:Int),zI (k.t:Int)] 73))):=ht.below (bel_box _ _);have z:Hid (zB w (w.alloc (.cells #[zI (k.c:Int),zI (k.i:Int),zI (k.a:Int),zI (k.t:Int)] 73))):=bel_box _ _;rw[← h] at hn x;clear ht hk y h;generalize strOf (decL (k.num*97))=D at *;generalize (⟨(Lib.repeatL [48] n).toArray⟩:ByteArray)=Z at *;have G:(20:Int)-(D.size:Int)=(n:Int):=by omega
 unfold Tok.v;go_enter Tryz.func41,Tryz.ntmps41;go_wp2_with fail;refine(B.o _ C.o).mono ?_;rintro e A ⟨a,b,c,rfl,j,d⟩;have l:=Blk.new A #[.int .u32 (a:Int),.int .u32 (b:Int),.int .u32 (c:Int)] 135;have m:Hid (zB w (A.alloc (.cells #[.int .u32 (a:Int),.int .u32 (b:Int),.int .u32 (c:Int)] 135))):=(bel_step z.o d).alloc (bel_step z.o d).size _;have E:Hid (WN a b c (k.num*97)):=j;have c0:=l.cell 0;have c1:=l.cell 1;have c2:=l.cell 2;clear d j l;go_wp2_with fail;refine(s.o _ _ _ _ E.o).mono ?_;rintro e I ⟨rfl,f⟩;have p:=shB m f;clear f c0 c1 c2;go_wp2_with fail;refine(r.o _).mono ?_;rintro e J ⟨rfl,g⟩;have q:=shB p g;clear g;go_wp2_with fail;refine bodyPost_ret (v:=.tuple #[.string (Z++D),zI 0]) (by simp[results,Tryz.results41,go_sem]) rfl ⟨by rw[F.o],q.o⟩
end token
namespace words
open Go.RowKit
def StrPost(w:World)(m:Nat)(e:Ending)(w':World):Prop:=e=.returned (.string (strOf (decL m)))∧zB w w'
theorem bg_at{w w':World}{z:Nat}{v:Value}(h:w.heap[z]?=some (.cells #[.bool false,v] 218 (0,0)))(hb:zB w w'):w'.cell? ⟨z,0,none⟩=some (.bool false)∧w'.cell? ⟨z,1,none⟩=some v:=by
 have:=ob_cells (w:=w') (z:=z) (s:=false) (v:=v) (by rw[hb.block z (heap_lt h)];exact h);exact⟨this.1,this.2.1⟩
theorem text_any(z m:Nat)(w:World)(hg:Bg w z m)(h0:0<m)(hl:(dig m).length≤100)(hd:(decL m).length≤100):
  Calls Tryz.prog 95 #[.pointer (some ⟨z,0,none⟩),zI 10] w λe w'=>StrPost w m e w':=by
 obtain⟨i0,hi,a8,a9,aa⟩:=info_parts info_u8;obtain⟨a,n,c,O,hr⟩:=hg
 have aB:n≠0:=by
  intro e;have:=hr.len;rw[e] at this;have:=dig_nil (List.eq_nil_of_length_eq_zero this);omega
 have an:n≤100:=by have:=hr.len;omega
 have HR:Hid (Ru w a n c (dig m)):=hr;have HZ:Hid (w.heap[z]?=some (.cells #[.bool false,.slice a n c] 218 (0,0))):=O;obtain⟨c0,c1⟩:=bg_at O (Below.refl _ w);have aC:((n:Int)==0)=false:=beq_eq_false_iff_ne.2 (by omega);clear hr O;go_enter Tryz.func95,Tryz.ntmps95;go_wp2_with fail;refine(twin_any a n c m w HR.o an).mono ?_;rintro e w1 ⟨a1,n1,k1,rfl,a7,Z⟩;have ag:Hid (Ru w1 a1 n1 k1 (dig m)):=a7;have ab:Hid (zB w w1):=Z;clear a7 Z c0 c1;go_wp2_with fail;go_loopw [5,6] (λG av wr=>∃(V:Value)(M:Nat)(d:List Int)(a:Option Addr)(n c:Nat),V=G∧av=.slice a n c∧Ru wr a n c (dig M)∧wr.ownsRow w.heap.size 5 1 G d.length (d.map (Value.int .u8))∧zB w wr∧TextInv m M d) (λG _ _=>100-lenOf G)
 case atStart=>exact⟨_,m,[],a1,n1,k1,rfl,rfl,ag.o,World.ownsRow_nil _ _ _ _,ab.o,zc,.inr ⟨h0,by simp⟩⟩
 case round=>
  obtain⟨G,M,d,a2,R,k2,N,rfl,s,q,D,t⟩:=hrel;subst N;by_cases hM:M=0
  ·subst hM;have a6:R=0:=by have:=s.len;rw[dig_zero] at this;simpa using this.symm
   subst a6
   obtain⟨hdn,hde⟩:d≠[]∧decL m=d.reverse:=by
    rcases t.2 with h|h
    ·exact h.2
    ·omega
   have X:0<d.length:=List.length_pos_iff.2 hdn;have ak:d.length≤100:=by rw[hde] at hd;simpa using hd
   obtain⟨g,B,N,a5,aw⟩:=q.form X;subst N;obtain⟨L,hLL⟩:∃L,d.length=L:=⟨_,rfl⟩
   have W:Hid (RB wr w.heap.size g B L (λk=>d.getD k 0)):=by
    have e:d.map (Value.int .u8)=(List.range L).map λk=>Value.int .u8 (d.getD k 0):=by
     apply List.ext_getElem (by simp[hLL]);intro k h1 h2;simp[List.getD,List.getElem?_eq_getElem (show k<d.length by simpa using h1)]
    have C:RB wr w.heap.size g B L (λk=>d.getD k 0):=by
     unfold RB;rw[← e,← hLL];exact q
    exact C
   rw[hLL] at X ak;rw[hLL];obtain⟨c0,c1⟩:=bg_at HZ.o D;have HB:Hid (zB w wr):=D;have HD:Hid (decL m=d.reverse∧d.length=L):=⟨hde,hLL⟩
   clear q D t hde hdn hLL s hd hi a8 a9 aa;go_wp2_with fail;go_loopw [8,9] (λiv jv wr=>∃(i:Nat)(f:Nat→Int),i≤L∧iv=zI (i:Int)∧jv=zI ((L:Int)-1-(i:Int))∧i≤(L-i)+1∧RB wr w.heap.size g B L f∧zB w wr∧Turned L i (λk=>d.getD k 0) f) (λiv _ _=>L-(intOf iv).toNat)
   case atStart=>exact⟨0,_,Nat.zero_le _,rfl,by congr 1;omega,by omega,W.o,HB.o,λk hk=>by rw[if_neg (by omega)]⟩
   case round=>
    obtain⟨i,f,ax,rfl,rfl,ay,l,p,I⟩:=hrel;by_cases H:i<L-1-i
    ·have ej:(L:Int)-1-(i:Int)=((L-1-i:Nat):Int):=by omega
     have r0:=l.cell (i:=i) (by omega);have r1:=l.cell (i:=L-1-i) (by omega);have f0:=l.free i;have f1:=l.free (L-1-i);have HT:Hid (Turned L (i+1) (λk=>d.getD k 0) (updd (updd f i (f (L-1-i))) (L-1-i) (f i))):=turned_step I H;have HN:Hid (RB ((wr.setCell ⟨g,i,none⟩ (.int .u8 (f (L-1-i)))).setCell ⟨g,L-1-i,none⟩ (.int .u8 (f i))) w.heap.size g B L (updd (updd f i (f (L-1-i))) (L-1-i) (f i))):=(l.set _ _).set _ _;have S:Hid (zB w ((wr.setCell ⟨g,i,none⟩ (.int .u8 (f (L-1-i)))).setCell ⟨g,L-1-i,none⟩ (.int .u8 (f i)))):=below_set (below_set p _ _ _ a5) _ _ _ a5;have HJ:Hid (((L-1-i:Nat):Int)-1=(L:Int)-1-((i+1:Nat):Int)):=(by omega:((L-1-i:Nat):Int)-1=(L:Int)-1-((i+1:Nat):Int))
     rw[ej];have az:L-1-i<L:=by omega
     have ao:i<L-1-i:=H;have r2:=(l.set i (f (L-1-i))).cell (i:=L-1-i) (by omega);have f2:=(l.set i (f (L-1-i))).free (L-1-i);clear l p I ej H;obtain⟨x,hx⟩:∃x,f i=x:=⟨_,rfl⟩
     obtain⟨y,hy⟩:∃y,f (L-1-i)=y:=⟨_,rfl⟩
     rw[hx,hy] at HT HN S;rw[hx] at r0;rw[hy] at r1 r2 f2;clear hx hy;generalize updd f i y (L-1-i)=yy at r2;generalize aA:L-1-i=j at *;go_wp2_with fail;go_roundw
     case rel=>exact⟨i+1,_,by omega,by go_num,by rw[HJ.o],by omega,HN.o,S.o,HT.o⟩
     case measure=>simp[intOf];omega
    ·have aq:¬ (i:Int)<(L:Int)-1-(i:Int):=by omega
     have al:=conv_row wr w.heap.size g B L f l;rw[turned_end I H d HD.o.2 λ_=>rfl,← HD.o.1] at al;have A:Hid (zB w wr):=p;clear l p I;go_wp2_with fail;go_ret;exact⟨rfl,A.o⟩
  ·have Y:0<M:=by omega
   have a6:R≠0:=by
    intro e;have:=s.len;rw[e] at this;have:=dig_nil (List.eq_nil_of_length_eq_zero this);omega
   have am:R≤100:=by have:=s.len;have:=dig_mono t.1;omega
   have au:d.length<100:=by have:=text_len t Y;omega
   have aj:Hid (TextInv m (M/10) (d++[48+((M%10:Nat):Int)])):=text_more t Y;have ai:Hid (Ru wr a2 R k2 (dig M)):=s;have T:Hid (wr.ownsRow w.heap.size 5 1 G d.length (d.map (Value.int .u8))):=q;have ac:Hid (zB w wr):=D;have ap:0<(R:Int):=by omega
   clear s q D t hM;go_wp2_with fail;refine(small_any a2 R k2 10 (dig M) wr ai.o am (by omega) (by omega)).mono ?_;rintro e w3 ⟨a3,n3,k3,rfl,P,p,a4⟩;rw[nv_dig] at P;rw[nv_dig];have ar:M%10<10:=Nat.mod_lt _ (by decide);generalize aF:M%10=r at *;have K:Hid (w3.ownsRow w.heap.size 5 1 G d.length (d.map (Value.int .u8))):=own_below T.o p
   have U:Hid (Ru w3 a3 n3 k3 (dig (M / 10))∧∀ b Q,a3=some ⟨b,Q,none⟩→some b≠G.ownBlock):=⟨P,fun b Q e h=>by
    have h1:=own_lt T.o h.symm;have h2:=a4 b Q e
    omega⟩
   have A:=shB ac p;have aD:(r:Int)<10:=by omega
   have aE:(48+(r:Int))%256=48+(r:Int):=by omega
   clear P p a4
   go_wp2_with (first
    | (at_builtin;refine wpList_append_lies _ rfl _ _ 195 rfl w.heap.size 5 i0 (.int .u8 0) 1 1 Tryz.underlying195 hi a8 a9 aa rfl (by decide) _ _ _ rfl (K.o.alloc _) ⟨w3.heap.size,0,none⟩ 1 1 [.int .u8 (48+(r:Int))] rfl rfl ?c1 ?c2 (by decide) ?c3 ?c4 ?c5 _ rfl ?_))
   case c1=>
    intro j u hj
    match j,hj with
    |0,hj=>simp at hj;subst hj;simp[Addr.add]
   case c2=>intro u hu;simp at hu;subst hu;rfl
   case c3=>unfold maxLen;omega
   case c4=>omega
   case c5=>have:=A.o.size;simp;omega
   intro g4 J w4 F E _ _
   have af:Hid (w4.ownsRow w.heap.size 5 1 (.slice (some ⟨g4,0,none⟩) (d.length+1) J) (d++[48+(r:Int)]).length ((d++[48+(r:Int)]).map (Value.int .u8))):=by
    have C:w4.ownsRow w.heap.size 5 1 (.slice (some ⟨g4,0,none⟩) (d.length+1) J) (d++[48+(r:Int)]).length ((d++[48+(r:Int)]).map (Value.int .u8)):=by
     simpa using F
    exact C
   have ah:Hid (Ru w4 a3 n3 k3 (dig (M/10))):=(U.o.1.below ((Below.refl _ w3).alloc zc _)).grown E U.o.2
   have ad:Hid (zB w w4):=by
    have a0:=A.o.alloc (A.o.size) (.cells #[.int .u8 (48+(r:Int))] 5);exact a0.grown E a0.size (λk hk=>(own_lt K.o hk).1)
   have ae:Hid (lenOf G=d.length):=own_len K.o;clear F E;go_wp2_with fail;go_roundw
   case rel=>exact⟨_,M/10,_,a3,n3,k3,rfl,rfl,ah.o,af.o,ad.o,aj.o⟩
   case measure=>rw[ae.o];simp[lenOf];omega
end words
end Go.Proofs.YtoepgdhiepedeaaGreatDoor
