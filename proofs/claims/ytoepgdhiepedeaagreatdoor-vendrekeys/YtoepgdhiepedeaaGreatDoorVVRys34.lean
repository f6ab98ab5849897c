import Derived.Test.YtoepgdhiepedeaaGreatDoorVVRys32
import Derived.Test.YtoepgdhiepedeaaGreatDoorVVRys33
set_option linter.unusedVariables false
set_option linter.unusedSimpArgs false
set_option maxHeartbeats 4000000
set_option maxRecDepth 100000
namespace Go.Proofs.YtoepgdhiepedeaaGreatDoor
namespace disk
open Go.RowKit cell
theorem appended(a:Option Addr)(n cap:Nat)(c:List Int)(a2:Option Addr)(m cap2:Nat)(r:List Int)(w:World)(h:RowU w a n c)(hw:∀x∈c,0≤x∧x<4294967296)(h2:RowU w a2 m r):
  Calls Tryz.prog 58 #[.slice a n cap,.slice a2 m cap2] w λe w'=>AppPost w c r e w':=by
 have J:=h.1;have A:=h2.1;by_cases z:1≤m∧m≤64
 ·have HM:Hid (∀W,zC 47 #[zI (m:Int),zI 1,zI 64] W λe w'=>e=.returned (.bool true)∧w'=W):=λW=>in_yes _ _ _ W (by omega) (by omega);have a7:Hid (zC 81 #[.slice a n cap] w λe w'=>RepPost w c e w'):=replayed a n cap c w h hw;obtain⟨b,o,rfl,lb,hc⟩:=h2.at (by omega);have a0:Hid (∀W,zB w W→∀j,j<m→W.cell? ⟨b,o+j,none⟩=some (.int .u32 (r.getD j 0))):=λW hB j hj=>(hB.cell (p:=⟨b,o+j,none⟩) lb).trans (hc j hj);have C:Hid (RMay r):=⟨by omega,by omega⟩
  have l:Hid (c.length=n∧r.length=m):=⟨J,A⟩
  obtain⟨ac,ad⟩:=z;clear h hw hc lb J A h2;go_enter Tryz.func58,Tryz.ntmps58;go_wp2_with fail;refine(HM.o _).mono ?_;rintro e Y ⟨rfl,hq⟩;subst Y;go_wp2_with fail;refine a7.o.mono ?_;rintro e Y ⟨V0,sl,ah,x,f,rfl,-,-,D,S⟩;have G:Hid (zB w Y):=S;clear S;by_cases hf:f=0
  ·obtain⟨hmy,hl0,hx⟩:May c∧lenAt c (repD c).2=0∧x=((repD c).2:Int):=by
    rcases D with⟨_,_,_,e⟩|⟨_,_,_,_,e⟩|⟨T,q2,_,q4,_⟩
    ·rw[hf] at e;exact absurd e (by decide)
    ·rw[hf] at e;exact absurd e (by decide)
    ·exact⟨T,q2,q4⟩
   have a5:Hid ((repD c).2≤n):=by show _≤_;rw[← l.o.1];exact rep_bound c
   have a1:Hid (n≤(repD c).2+m→AppIs c r [] 16):=λhh=> .inr (.inr (.inr (.inl ⟨C.o,hmy,hl0,by rw[l.o.1,l.o.2];exact hh,rfl,rfl⟩)));have a4:Hid ((repD c).2+m<n→AppIs c r (appW c (repD c).2 r) 0):=λhh=> .inr (.inr (.inr (.inr ⟨C.o,hmy,hl0,by rw[l.o.1,l.o.2];exact hh,rfl,rfl⟩)));have ae:n≤2048:=by have:=hmy.2;rw[l.o.1] at this;exact this
   subst hf;subst hx;clear D hmy hl0;generalize (repD c).2=p at *;have ag:=a5.o;by_cases ab:(n:Int)≤(p:Int)+(m:Int)
   ·have F:Hid (AppIs c r [] 16):=a1.o (by omega);go_wp2_with fail;go_ret2;exact⟨zS,[],16,rfl,Lw.zero _ _,F.o,G.o⟩
   ·have F:Hid (AppIs c r (appW c p r) 0):=a4.o (by omega);go_wp2_with fail;go_loopw [10,11] (λaa M wr=>∃(k:Nat)(V:Value),k≤m∧V=aa∧M=zI (k:Int)∧Lw wr w.heap.size V (putW p r k)∧zB w wr) (λ_ M _=>m-(intOf M).toNat)
    case atStart=>exact⟨0,_,Nat.zero_le _,rfl,rfl,Lw.zero _ _,G.o⟩
    case round=>
     obtain⟨k,V,hk,hV,rfl,K,i⟩:=hrel;subst hV;have a3:Hid (Lw wr w.heap.size V (putW p r k)):=K;have N:Hid (zB w wr):=i;have L:(putW p r k).length≤1000000:=by rw[put_len];omega
     have g:Hid (∀o,Lw (wr.alloc o) w.heap.size V (putW p r k)):=λo=>K.alloc o;have B:Hid (∀o,zB w (wr.alloc o)):=λo=>i.alloc i.size o;have d:Hid (∀o,w.heap.size≤(wr.alloc o).heap.size):=λo=>(i.alloc i.size o).size;clear K i;by_cases a8:k<m
     ·have k2:=a0.o wr N.o k a8;have a6:Hid (putW p r k++[⟨(p:Int)+(k:Int)+1,r.getD k 0⟩]=putW p r (k+1)):=put_next p k r;generalize r.getD k 0=u at *;go_wp2_with (first|(refine wp_write rfl _ _ rfl w.heap.size wr.heap.size V (putW p r k) ⟨(p:Int)+(k:Int)+1,u⟩ rfl rfl (g.o _) ⟨(Blk.new wr _ _).cell 0,(Blk.new wr _ _).cell 1⟩ L (d.o _) ?_;intro U E Q t;have H:Hid (zB w E):=own_bel (g.o _) t (B.o _) zc (d.o _);have H3:Hid (Lw E w.heap.size U (putW p r (k+1))):=(by rw[← a6.o];exact Q);clear Q t)|fail)
      go_roundw
      case rel=>exact⟨k+1,U,by omega,rfl,by go_num,H3.o,H.o⟩
      case measure=>simp[intOf];omega
     ·obtain rfl:k=m:=by omega
      by_cases hz:(p:Int)+(k:Int)+1<(n:Int)
      ·have HQ:Hid (putW p r k++[⟨(p:Int)+(k:Int)+1,0⟩]++[⟨(p:Int),(k:Int)⟩]=appW c p r):=by
        have q:=app_yes (c:=c) (p:=p) (r:=r) (by rw[l.o.1,l.o.2];omega);rw[l.o.2] at q;exact q
       have a9:(putW p r k++[(⟨(p:Int)+(k:Int)+1,0⟩:Wr)]).length≤1000000:=by rw[List.length_append,put_len];simp;omega
       go_wp2_with (first|(refine wp_write rfl _ _ rfl w.heap.size wr.heap.size V (putW p r k) ⟨(p:Int)+(k:Int)+1,0⟩ rfl rfl (g.o _) ⟨(Blk.new wr _ _).cell 0,(Blk.new wr _ _).cell 1⟩ L (d.o _) ?_;intro U E Q t;have s:=own_bel (g.o _) t (B.o _) zc (d.o _);have P:Hid (∀o,Lw (E.alloc o) w.heap.size U (putW p r k++[(⟨(p:Int)+(k:Int)+1,0⟩:Wr)])):=(λo=>Q.alloc o);have H:Hid (∀o,zB w (E.alloc o)):=(λo=>s.alloc s.size o);have O:Hid (∀o,w.heap.size≤(E.alloc o).heap.size):=(λo=>(s.alloc s.size o).size);clear Q t s g B d a3 N)|(refine wp_write rfl _ _ rfl w.heap.size E.heap.size U (putW p r k++[(⟨(p:Int)+(k:Int)+1,0⟩:Wr)]) ⟨(p:Int),(k:Int)⟩ rfl rfl (P.o _) ⟨(Blk.new E _ _).cell 0,(Blk.new E _ _).cell 1⟩ a9 (O.o _) ?_;intro X Z R y;have I:Hid (zB w Z):=own_bel (P.o _) y (H.o _) zc (O.o _);have H4:Hid (Lw Z w.heap.size X (appW c p r)):=(by rw[← HQ.o];exact R);clear R y)|fail)
       go_ret2;exact⟨X,_,0,rfl,H4.o,F.o,I.o⟩
      ·have HQ:Hid (putW p r k++[⟨(p:Int),(k:Int)⟩]=appW c p r):=by
        have q:=app_no (c:=c) (p:=p) (r:=r) (by rw[l.o.1,l.o.2];omega);rw[l.o.2] at q;exact q
       go_wp2_with (first|(refine wp_write rfl _ _ rfl w.heap.size wr.heap.size V (putW p r k) ⟨(p:Int),(k:Int)⟩ rfl rfl (g.o _) ⟨(Blk.new wr _ _).cell 0,(Blk.new wr _ _).cell 1⟩ L (d.o _) ?_;intro X Z R y;have I:Hid (zB w Z):=own_bel (g.o _) y (B.o _) zc (d.o _);have H4:Hid (Lw Z w.heap.size X (appW c p r)):=(by rw[← HQ.o];exact R);clear R y)|fail)
       go_ret2;exact⟨X,_,0,rfl,H4.o,F.o,I.o⟩
  ·have F:Hid (AppIs c r [] f):=by
    rcases D with⟨T,_,_,rfl⟩|⟨T,q2,_,_,rfl⟩|⟨_,_,_,_,e⟩
    ·exact .inr (.inl ⟨C.o,T,rfl,rfl⟩)
    ·exact .inr (.inr (.inl ⟨C.o,T,q2,rfl,rfl⟩))
    ·exact absurd e hf
   have af:(f != 0)=true:=by simpa using hf
   clear D hf;go_wp2_with fail;go_ret2;exact⟨zS,[],f,rfl,Lw.zero _ _,F.o,G.o⟩
 ·have HM:Hid (∀W,zC 47 #[zI (m:Int),zI 1,zI 64] W λe w'=>e=.returned (.bool false)∧w'=W):=λW=>in_no _ _ _ W (by omega);have F:Hid (AppIs c r [] 1):=.inl ⟨λh=>z ⟨by rw[← A];exact h.1,by rw[← A];exact h.2⟩,rfl,rfl⟩;clear h hw h2 J A z;go_enter Tryz.func58,Tryz.ntmps58;go_wp2_with fail;refine(HM.o _).mono ?_;rintro e Y ⟨rfl,hq⟩;subst Y;go_wp2_with fail;go_ret2;exact⟨zS,[],1,rfl,Lw.zero _ _,F.o,zb⟩
def EPost(J:Nat→World→Prop)(c:List Int)(e:Ending)(w':World):Prop:=
 ∃x f k,e=.returned (.tuple #[zI x,zI f])∧J k w'∧((¬ May c∧x=0∧f=1)∨(May c∧lenAt c (repD c).2<0∧x=0∧f=3)∨(May c∧lenAt c (repD c).2=0∧repD c=itD c k∧x=((repD c).2:Int)∧f=0))
variable{c:List Int}{p:Nat}
theorem len_zero(h:c.getD p 0=0):lenAt c p=0:=by unfold lenAt;rw[if_pos (.inr h)]
theorem len_end(h:p=c.length):lenAt c p=0:=by unfold lenAt;rw[if_pos (.inl h)]
theorem len_bad(hp:p<c.length)(h0:c.getD p 0≠0)(h:64<c.getD p 0∨(c.length:Int)≤p+c.getD p 0):lenAt c p<0:=by
 unfold lenAt;rw[if_neg (by omega)];by_cases a:64<c.getD p 0
 ·rw[if_pos a];decide
 ·rw[if_neg a,if_pos (by omega)];decide
theorem get_wd(hw:∀x∈c,0≤x∧x<4294967296)(p:Nat):0≤c.getD p 0∧c.getD p 0<4294967296:=by
 by_cases h:p<c.length
 ·have e:c.getD p 0=c[p]:=by simp[List.getD,h]
  rw[e];exact hw _ (List.getElem_mem h)
 ·have e:c.getD p 0=0:=by simp[List.getD,Nat.le_of_not_lt h]
  rw[e];decide
theorem rowU_part{W:World}{b o n:Nat}(h:RowU W (some ⟨b,o,none⟩) n c){p m:Nat}(hm:(c.getD p 0).toNat=m)(hp:p+m<n):RowU W (some ⟨b,o+(p+1),none⟩) m (recAt c p):=by
 refine⟨rec_len hm (by rw[h.1];exact hp),.inr ⟨b,o+(p+1),rfl,λi d=>?_⟩⟩;obtain⟨f,g,e,_,a⟩:=h.at (by omega);cases e;rw[rec_at hm d,show o+(p+1)+i=o+(p+1+i) by omega];exact a (p+1+i) (by omega)
theorem each_any(F:Nat)(caps:Array Value)(J:Nat→World→Prop)(a:Option Addr)(n cap:Nat)(c:List Int)(w:World)(hJ:∀k W,J k W→RowU W a n c)(h0:J 0 w)(hcap:n≤cap)(hw:∀x∈c,0≤x∧x<4294967296)(hK:∀args w,(callFunc F args).run Tryz.prog w=.ok (.enter F args) w)
  (hf:∀(k p m b o:Nat)(W:World),J k W→(itD c k).2=p→itD c (k+1)=((itD c k).1++[recAt c p],p+m+1)→RowU W (some ⟨b,o,none⟩) m (recAt c p)→1≤m→m≤64→p≤2048→zC F (#[.slice (some ⟨b,o,none⟩) m m]++caps) W λe w'=>e=.returned (.tuple #[])∧J (k+1) w'):
  Calls Tryz.prog 121 #[.slice a n cap,.func (.func F) #[] caps] w λe w'=>EPost J c e w':=by
 have l:=(hJ 0 w h0).1;have T:=zh h0;have H:=zh l;by_cases r:1≤n∧n≤2048
 ·obtain⟨b,o,rfl,_,_⟩:=(hJ 0 w h0).at (by omega);have HJ:=zh hJ
  have M:Hid (∀k W,J k W→∀j,j<n→W.cell? ⟨b,o+j,none⟩=some (.int .u32 (c.getD j 0))):=λk W h j I=>by
   obtain⟨b',o',e,_,hc⟩:=(hJ k W h).at (by omega);cases e;exact hc j I
  have HW:=zh (get_wd hw);have Z:=zh hf;have s:Hid (May c):=⟨by omega,by omega⟩
  obtain⟨a1,a2⟩:=r;have U:decide ((n:Int)<1)=false:=by simp;omega
  have d2:decide ((2048:Int)<(n:Int))=false:=by simp;omega
  clear hJ hf hw l h0;go_enter Tryz.func121,Tryz.ntmps121;go_wp2_with fail;go_loopw [6] (λS wr=>∃(k p:Nat),p≤n∧S=zI (p:Int)∧(itD c k).2=p∧J k wr) (λS _=>n+1-(intOf S).toNat)
  case atStart=>exact⟨0,0,Nat.zero_le _,rfl,rfl,T.o⟩
  case round=>
   obtain⟨k,p,hp,rfl,X,I⟩:=hrel;have f:=zh I;have i:=zh X;clear I X;by_cases G:p<n
   ·have Y:=M.o k wr f.o p G;have R:=HW.o p;have e1:decide ((p:Int)<(n:Int))=true:=by simp;omega
    by_cases g:c.getD p 0=0
    ·have A:=zh (len_zero g)
     have q:Hid (EPost J c (.returned (.tuple #[zI (p:Int),zI 0])) wr):=by
      have C:¬ 0<lenAt c (itD c k).2:=by rw[i.o,A.o];decide
      have u:=rep_of C;exact⟨_,_,k,rfl,f.o,.inr (.inr ⟨s.o,by rw[u,i.o];exact A.o,u,by rw[u,i.o],rfl⟩)⟩
     rw[g] at Y;clear R g;go_wp2_with fail;go_ret2;exact q.o
    ·by_cases d:64<c.getD p 0∨(n:Int)≤p+c.getD p 0
     ·have q:Hid (EPost J c (.returned (.tuple #[zI 0,zI 3])) wr):=by
       have K:=len_bad (c:=c) (p:=p) (by rw[H.o];exact G) g (by rw[H.o];exact d);have C:¬ 0<lenAt c (itD c k).2:=by rw[i.o];omega
       exact⟨_,_,k,rfl,f.o,.inr (.inl ⟨s.o,by rw[rep_of C,i.o];exact K,rfl,rfl⟩)⟩
      have e0:(c.getD p 0 != 0)=true:=by simpa using g
      generalize c.getD p 0=z at *;obtain⟨a3,a4⟩:=R;by_cases B:64<z
      ·have V:decide ((64:Int)<z)=true:=by simpa using B
       clear d;go_wp2_with fail;go_ret2;exact q.o
      ·have V:decide ((64:Int)<z)=false:=by simpa using B
       have e4:decide ((n:Int)<(p:Int)+1+z)=true:=by simp;omega
       clear d;go_wp2_with fail;go_ret2;exact q.o
     ·obtain⟨m,hm⟩:∃m:Nat,c.getD p 0=(m:Int):=⟨(c.getD p 0).toNat,by omega⟩
      have D:(c.getD p 0).toNat=m:=by rw[hm];simp
      have O:1≤m:=by omega
      have P:m≤64:=by omega
      have Q:p+m<n:=by omega
      have t:lenAt c p=(m:Int):=by rw[len_of (by omega) (by omega) (by rw[H.o];omega),hm]
      have y:Hid (itD c (k+1)=((itD c k).1++[recAt c p],p+m+1)):=by
       have h:=it_live (c:=c) (k:=k) (by rw[i.o,t];omega);rw[i.o,t,Int.toNat_natCast] at h;exact h
      have L:=zh (Z.o k p m b (o+(p+1)) wr f.o i.o y.o (rowU_part (HJ.o k wr f.o) D Q) O P (by omega));rw[hm] at Y;have e0:((m:Int) != 0)=true:=by simp;omega
      have V:decide ((64:Int)<(m:Int))=false:=by simp;omega
      have e4:decide ((n:Int)<(p:Int)+1+(m:Int))=false:=by simp;omega
      have a0:p+1<cap:=by omega
      clear R g d hm D t;go_wp2_with fail;refine L.o.mono ?_;rintro e w1 ⟨rfl,E⟩;have N:=zh E;clear E;go_wp2_with fail;go_roundw
      case rel=>exact⟨k+1,p+m+1,by omega,by go_num,by rw[y.o],N.o⟩
      case measure=>simp[intOf];omega
   ·have e1:decide ((p:Int)<(n:Int))=false:=by simp;omega
    have q:Hid (EPost J c (.returned (.tuple #[zI (p:Int),zI 0])) wr):=by
     have K:lenAt c p=0:=len_end (by rw[H.o];omega);have C:¬ 0<lenAt c (itD c k).2:=by rw[i.o,K];decide
     have u:=rep_of C;exact⟨_,_,k,rfl,f.o,.inr (.inr ⟨s.o,by rw[u,i.o];exact K,u,by rw[u,i.o],rfl⟩)⟩
    go_wp2_with fail;go_ret2;exact q.o
 ·have q:Hid (EPost J c (.returned (.tuple #[zI 0,zI 1])) w):=⟨0,1,0,rfl,T.o,.inl ⟨λh=>r ⟨by rw[← l];exact h.1,by rw[← l];exact h.2⟩,rfl,rfl⟩⟩
  clear hJ hf hw h0 l;go_enter Tryz.func121,Tryz.ntmps121;by_cases h1:1≤n
  ·have U:decide ((n:Int)<1)=false:=by simp;omega
   have d2:decide ((2048:Int)<(n:Int))=true:=by simp;omega
   go_wp2_with fail;go_ret2;exact q.o
  ·have U:decide ((n:Int)<1)=true:=by simp;omega
   go_wp2_with fail;go_ret2;exact q.o
end disk
namespace book
open Go.RowKit cell
def cellsK(l:List Int)(k:Nat):Array Value:=((l.take k++List.replicate (13-k) 0).map (λx=>Value.int .i64 x)).toArray
theorem cellsK_size(l:List Int)(h:l.length=13)(k:Nat)(hk:k≤13):(cellsK l k).size=13:=by simp[cellsK,h];omega
theorem cellsK_next(l:List Int)(h:l.length=13)(k:Nat)(hk:k<13):(cellsK l k).setIfInBounds k (zI (l.getD k 0))=cellsK l (k+1):=by
 match l,h with
 |[a0,a1,a2,a3,a4,a5,a6,a7,a8,a9,a10,a11,a12],_=>
  match k,hk with
  |0,_=>rfl
  |1,_=>rfl
  |2,_=>rfl
  |3,_=>rfl
  |4,_=>rfl
  |5,_=>rfl
  |6,_=>rfl
  |7,_=>rfl
  |8,_=>rfl
  |9,_=>rfl
  |10,_=>rfl
  |11,_=>rfl
  |12,_=>rfl
theorem cellsK_all(l:List Int)(h:l.length=13):cellsK l 13=(evOf l).cs:=by
 match l,h with
 |[a0,a1,a2,a3,a4,a5,a6,a7,a8,a9,a10,a11,a12],_=>rfl
theorem indexP_0(g:Nat)(W:World):(Instr.index 265 (.agg #[.pointer (some ⟨g,0,none⟩),.pointer (some ⟨g,1,none⟩),.pointer (some ⟨g,2,none⟩),.pointer (some ⟨g,3,none⟩),.pointer (some ⟨g,4,none⟩),.pointer (some ⟨g,5,none⟩),.pointer (some ⟨g,6,none⟩),.pointer (some ⟨g,7,none⟩),.pointer (some ⟨g,8,none⟩),.pointer (some ⟨g,9,none⟩),.pointer (some ⟨g,10,none⟩),.pointer (some ⟨g,11,none⟩),.pointer (some ⟨g,12,none⟩)]) (zI 0)).run Tryz.prog W=.ok (.pointer (some ⟨g,0,none⟩)) W:=by kernel_rfl
theorem indexP_1(g:Nat)(W:World):(Instr.index 265 (.agg #[.pointer (some ⟨g,0,none⟩),.pointer (some ⟨g,1,none⟩),.pointer (some ⟨g,2,none⟩),.pointer (some ⟨g,3,none⟩),.pointer (some ⟨g,4,none⟩),.pointer (some ⟨g,5,none⟩),.pointer (some ⟨g,6,none⟩),.pointer (some ⟨g,7,none⟩),.pointer (some ⟨g,8,none⟩),.pointer (some ⟨g,9,none⟩),.pointer (some ⟨g,10,none⟩),.pointer (some ⟨g,11,none⟩),.pointer (some ⟨g,12,none⟩)]) (zI 1)).run Tryz.prog W=.ok (.pointer (some ⟨g,1,none⟩)) W:=by kernel_rfl
theorem indexP_2(g:Nat)(W:World):(Instr.index 265 (.agg #[.pointer (some ⟨g,0,none⟩),.pointer (some ⟨g,1,none⟩),.pointer (some ⟨g,2,none⟩),.pointer (some ⟨g,3,none⟩),.pointer (some ⟨g,4,none⟩),.pointer (some ⟨g,5,none⟩),.pointer (some ⟨g,6,none⟩),.pointer (some ⟨g,7,none⟩),.pointer (some ⟨g,8,none⟩),.pointer (some ⟨g,9,none⟩),.pointer (some ⟨g,10,none⟩),.pointer (some ⟨g,11,none⟩),.pointer (some ⟨g,12,none⟩)]) (zI 2)).run Tryz.prog W=.ok (.pointer (some ⟨g,2,none⟩)) W:=by kernel_rfl
theorem indexP_3(g:Nat)(W:World):(Instr.index 265 (.agg #[.pointer (some ⟨g,0,none⟩),.pointer (some ⟨g,1,none⟩),.pointer (some ⟨g,2,none⟩),.pointer (some ⟨g,3,none⟩),.pointer (some ⟨g,4,none⟩),.pointer (some ⟨g,5,none⟩),.pointer (some ⟨g,6,none⟩),.pointer (some ⟨g,7,none⟩),.pointer (some ⟨g,8,none⟩),.pointer (some ⟨g,9,none⟩),.pointer (some ⟨g,10,none⟩),.pointer (some ⟨g,11,none⟩),.pointer (some ⟨g,12,none⟩)]) (zI 3)).run Tryz.prog W=.ok (.pointer (some ⟨g,3,none⟩)) W:=by kernel_rfl
theorem indexP_4(g:Nat)(W:World):(Instr.index 265 (.agg #[.pointer (some ⟨g,0,none⟩),.pointer (some ⟨g,1,none⟩),.pointer (some ⟨g,2,none⟩),.pointer (some ⟨g,3,none⟩),.pointer (some ⟨g,4,none⟩),.pointer (some ⟨g,5,none⟩),.pointer (some ⟨g,6,none⟩),.pointer (some ⟨g,7,none⟩),.pointer (some ⟨g,8,none⟩),.pointer (some ⟨g,9,none⟩),.pointer (some ⟨g,10,none⟩),.pointer (some ⟨g,11,none⟩),.pointer (some ⟨g,12,none⟩)]) (zI 4)).run Tryz.prog W=.ok (.pointer (some ⟨g,4,none⟩)) W:=by kernel_rfl
theorem indexP_5(g:Nat)(W:World):(Instr.index 265 (.agg #[.pointer (some ⟨g,0,none⟩),.pointer (some ⟨g,1,none⟩),.pointer (some ⟨g,2,none⟩),.pointer (some ⟨g,3,none⟩),.pointer (some ⟨g,4,none⟩),.pointer (some ⟨g,5,none⟩),.pointer (some ⟨g,6,none⟩),.pointer (some ⟨g,7,none⟩),.pointer (some ⟨g,8,none⟩),.pointer (some ⟨g,9,none⟩),.pointer (some ⟨g,10,none⟩),.pointer (some ⟨g,11,none⟩),.pointer (some ⟨g,12,none⟩)]) (zI 5)).run Tryz.prog W=.ok (.pointer (some ⟨g,5,none⟩)) W:=by kernel_rfl
theorem indexP_6(g:Nat)(W:World):(Instr.index 265 (.agg #[.pointer (some ⟨g,0,none⟩),.pointer (some ⟨g,1,none⟩),.pointer (some ⟨g,2,none⟩),.pointer (some ⟨g,3,none⟩),.pointer (some ⟨g,4,none⟩),.pointer (some ⟨g,5,none⟩),.pointer (some ⟨g,6,none⟩),.pointer (some ⟨g,7,none⟩),.pointer (some ⟨g,8,none⟩),.pointer (some ⟨g,9,none⟩),.pointer (some ⟨g,10,none⟩),.pointer (some ⟨g,11,none⟩),.pointer (some ⟨g,12,none⟩)]) (zI 6)).run Tryz.prog W=.ok (.pointer (some ⟨g,6,none⟩)) W:=by kernel_rfl
theorem indexP_7(g:Nat)(W:World):(Instr.index 265 (.agg #[.pointer (some ⟨g,0,none⟩),.pointer (some ⟨g,1,none⟩),.pointer (some ⟨g,2,none⟩),.pointer (some ⟨g,3,none⟩),.pointer (some ⟨g,4,none⟩),.pointer (some ⟨g,5,none⟩),.pointer (some ⟨g,6,none⟩),.pointer (some ⟨g,7,none⟩),.pointer (some ⟨g,8,none⟩),.pointer (some ⟨g,9,none⟩),.pointer (some ⟨g,10,none⟩),.pointer (some ⟨g,11,none⟩),.pointer (some ⟨g,12,none⟩)]) (zI 7)).run Tryz.prog W=.ok (.pointer (some ⟨g,7,none⟩)) W:=by kernel_rfl
theorem indexP_8(g:Nat)(W:World):(Instr.index 265 (.agg #[.pointer (some ⟨g,0,none⟩),.pointer (some ⟨g,1,none⟩),.pointer (some ⟨g,2,none⟩),.pointer (some ⟨g,3,none⟩),.pointer (some ⟨g,4,none⟩),.pointer (some ⟨g,5,none⟩),.pointer (some ⟨g,6,none⟩),.pointer (some ⟨g,7,none⟩),.pointer (some ⟨g,8,none⟩),.pointer (some ⟨g,9,none⟩),.pointer (some ⟨g,10,none⟩),.pointer (some ⟨g,11,none⟩),.pointer (some ⟨g,12,none⟩)]) (zI 8)).run Tryz.prog W=.ok (.pointer (some ⟨g,8,none⟩)) W:=by kernel_rfl
theorem indexP_9(g:Nat)(W:World):(Instr.index 265 (.agg #[.pointer (some ⟨g,0,none⟩),.pointer (some ⟨g,1,none⟩),.pointer (some ⟨g,2,none⟩),.pointer (some ⟨g,3,none⟩),.pointer (some ⟨g,4,none⟩),.pointer (some ⟨g,5,none⟩),.pointer (some ⟨g,6,none⟩),.pointer (some ⟨g,7,none⟩),.pointer (some ⟨g,8,none⟩),.pointer (some ⟨g,9,none⟩),.pointer (some ⟨g,10,none⟩),.pointer (some ⟨g,11,none⟩),.pointer (some ⟨g,12,none⟩)]) (zI 9)).run Tryz.prog W=.ok (.pointer (some ⟨g,9,none⟩)) W:=by kernel_rfl
theorem indexP_10(g:Nat)(W:World):(Instr.index 265 (.agg #[.pointer (some ⟨g,0,none⟩),.pointer (some ⟨g,1,none⟩),.pointer (some ⟨g,2,none⟩),.pointer (some ⟨g,3,none⟩),.pointer (some ⟨g,4,none⟩),.pointer (some ⟨g,5,none⟩),.pointer (some ⟨g,6,none⟩),.pointer (some ⟨g,7,none⟩),.pointer (some ⟨g,8,none⟩),.pointer (some ⟨g,9,none⟩),.pointer (some ⟨g,10,none⟩),.pointer (some ⟨g,11,none⟩),.pointer (some ⟨g,12,none⟩)]) (zI 10)).run Tryz.prog W=.ok (.pointer (some ⟨g,10,none⟩)) W:=by kernel_rfl
theorem indexP_11(g:Nat)(W:World):(Instr.index 265 (.agg #[.pointer (some ⟨g,0,none⟩),.pointer (some ⟨g,1,none⟩),.pointer (some ⟨g,2,none⟩),.pointer (some ⟨g,3,none⟩),.pointer (some ⟨g,4,none⟩),.pointer (some ⟨g,5,none⟩),.pointer (some ⟨g,6,none⟩),.pointer (some ⟨g,7,none⟩),.pointer (some ⟨g,8,none⟩),.pointer (some ⟨g,9,none⟩),.pointer (some ⟨g,10,none⟩),.pointer (some ⟨g,11,none⟩),.pointer (some ⟨g,12,none⟩)]) (zI 11)).run Tryz.prog W=.ok (.pointer (some ⟨g,11,none⟩)) W:=by kernel_rfl
theorem indexP_12(g:Nat)(W:World):(Instr.index 265 (.agg #[.pointer (some ⟨g,0,none⟩),.pointer (some ⟨g,1,none⟩),.pointer (some ⟨g,2,none⟩),.pointer (some ⟨g,3,none⟩),.pointer (some ⟨g,4,none⟩),.pointer (some ⟨g,5,none⟩),.pointer (some ⟨g,6,none⟩),.pointer (some ⟨g,7,none⟩),.pointer (some ⟨g,8,none⟩),.pointer (some ⟨g,9,none⟩),.pointer (some ⟨g,10,none⟩),.pointer (some ⟨g,11,none⟩),.pointer (some ⟨g,12,none⟩)]) (zI 12)).run Tryz.prog W=.ok (.pointer (some ⟨g,12,none⟩)) W:=by kernel_rfl
theorem indexP(g:Nat)(k:Nat)(hk:k<13)(W:World):(Instr.index 265 (.agg #[.pointer (some ⟨g,0,none⟩),.pointer (some ⟨g,1,none⟩),.pointer (some ⟨g,2,none⟩),.pointer (some ⟨g,3,none⟩),.pointer (some ⟨g,4,none⟩),.pointer (some ⟨g,5,none⟩),.pointer (some ⟨g,6,none⟩),.pointer (some ⟨g,7,none⟩),.pointer (some ⟨g,8,none⟩),.pointer (some ⟨g,9,none⟩),.pointer (some ⟨g,10,none⟩),.pointer (some ⟨g,11,none⟩),.pointer (some ⟨g,12,none⟩)]) (zI (k:Int))).run Tryz.prog W=.ok (.pointer (some ⟨g,k,none⟩)) W:=by
 match k,hk with
 |0,_=>exact indexP_0 g W
 |1,_=>exact indexP_1 g W
 |2,_=>exact indexP_2 g W
 |3,_=>exact indexP_3 g W
 |4,_=>exact indexP_4 g W
 |5,_=>exact indexP_5 g W
 |6,_=>exact indexP_6 g W
 |7,_=>exact indexP_7 g W
 |8,_=>exact indexP_8 g W
 |9,_=>exact indexP_9 g W
 |10,_=>exact indexP_10 g W
 |11,_=>exact indexP_11 g W
 |12,_=>exact indexP_12 g W
theorem bevent(a:Option Addr)(cap:Nat)(l:List Int)(w:World)(hr:RowU w a 13 l)(hm:∀x∈l,0≤x∧x<4294967296):Calls Tryz.prog 151 #[.slice a 13 cap] w λe w'=>e=.returned (evOf l).v∧zB w w':=by
 have h:=hr.1;obtain⟨b,y,rfl,lb,Z⟩:=hr.at (by decide)
 have T:Hid (∀ k,k<13→0≤l.getD k 0∧l.getD k 0<4294967296):=fun k n=>hm _ (by
  have hl:k<l.length:=by omega
  rw[show l.getD k 0=l[k] by simp[List.getD,List.getElem?_eq_getElem hl]]
  exact List.getElem_mem _)
 have S:Hid (∀W,zB w W→∀k,k<13→W.cell? ⟨b,y+k,none⟩=some (.int .u32 (l.getD k 0))):=λW hB k n=>(hB.cell (p:=⟨b,y+k,none⟩) lb).trans (Z k n);have r:Hid (∀k:Nat,k<13→∀W,(Instr.index 265 (.agg #[.pointer (some ⟨w.heap.size+1,0,none⟩),.pointer (some ⟨w.heap.size+1,1,none⟩),.pointer (some ⟨w.heap.size+1,2,none⟩),.pointer (some ⟨w.heap.size+1,3,none⟩),.pointer (some ⟨w.heap.size+1,4,none⟩),.pointer (some ⟨w.heap.size+1,5,none⟩),.pointer (some ⟨w.heap.size+1,6,none⟩),.pointer (some ⟨w.heap.size+1,7,none⟩),.pointer (some ⟨w.heap.size+1,8,none⟩),.pointer (some ⟨w.heap.size+1,9,none⟩),.pointer (some ⟨w.heap.size+1,10,none⟩),.pointer (some ⟨w.heap.size+1,11,none⟩),.pointer (some ⟨w.heap.size+1,12,none⟩)]) (zI (k:Int))).run Tryz.prog W=.ok (.pointer (some ⟨w.heap.size+1,k,none⟩)) W):=λk n W=>indexP _ k n W;have A:=zh h;clear hm Z hr lb h;obtain⟨W0,F,s,t,d,q,-⟩:=sh3 w #[zI 0,zI 0,zI 0,zI 0,zI 0,zI 0,zI 0,zI 0,zI 0,zI 0,zI 0,zI 0,zI 0] 44 #[zI 0,zI 0,zI 0,zI 0,zI 0,zI 0,zI 0,zI 0,zI 0,zI 0,zI 0,zI 0,zI 0] 44 #[.pointer (some ⟨w.heap.size+1,0,none⟩),.pointer (some ⟨w.heap.size+1,1,none⟩),.pointer (some ⟨w.heap.size+1,2,none⟩),.pointer (some ⟨w.heap.size+1,3,none⟩),.pointer (some ⟨w.heap.size+1,4,none⟩),.pointer (some ⟨w.heap.size+1,5,none⟩),.pointer (some ⟨w.heap.size+1,6,none⟩),.pointer (some ⟨w.heap.size+1,7,none⟩),.pointer (some ⟨w.heap.size+1,8,none⟩),.pointer (some ⟨w.heap.size+1,9,none⟩),.pointer (some ⟨w.heap.size+1,10,none⟩),.pointer (some ⟨w.heap.size+1,11,none⟩),.pointer (some ⟨w.heap.size+1,12,none⟩)] 265;go_enter Tryz.func151,Tryz.ntmps151;go_upto_region 3 with fail
 rw[F.o];have p0:=zy0 d;have p1:=zy1 d;have p2:=zy2 d;have p3:=zy3 d;have p4:=zy4 d;have p5:=zy5 d;have p6:=zy6 d;have p7:=zy7 d;have p8:=zy8 d;have p9:=zy9 d;have M:=zy10 d;have N:=zy11 d;have O:=zy12 d;go_wp2_with fail;clear p0 p1 p2 p3 p4 p5 p6 p7 p8 p9 M N O;go_loopw [31] (λm wr=>∃(k:Nat),k≤13∧m=zI (k:Int)∧Blk wr w.heap.size #[zI 0,zI 0,zI 0,zI 0,zI 0,zI 0,zI 0,zI 0,zI 0,zI 0,zI 0,zI 0,zI 0] 44∧Blk wr (w.heap.size+1) (cellsK l k) 44∧zB w wr) (λm _=>13-(intOf m).toNat)
 case atStart=>exact⟨0,Nat.zero_le _,rfl,s.o,t.o,q.o⟩
 case round=>
  obtain⟨k,n,rfl,V,X,u⟩:=hrel;have HR:=zh V;have U:=zh X;have j:=zh u;clear V X u s t q;by_cases f:k<13
  ·have a0:=r.o k f;have hz:=T.o k f;have J:=S.o wr j.o k f;have B:Hid ((cellsK l k).setIfInBounds k (zI (l.getD k 0))=cellsK l (k+1)):=cellsK_next l A.o k f;have L:k<(cellsK l k).size:=by rw[cellsK_size l A.o k n];exact f
   clear r T S;generalize l.getD k 0=z at *;have a1:IntKind.i64.wrap z=z:=by rw[IntKind.wrap_i64];omega
   have K:decide ((k:Int)<13)=true:=decide_eq_true (by omega);have Y:(0:Int)≤(k:Int)∧(k:Int)<((13:Nat):Int):=by omega
   clear hz;go_wp2_with (first|(refine wp_let1 rfl 3 _ _ rfl (w.heap.size+1) k rfl .i64 z rfl (by kernel_rfl) (cellsK l k) 44 U.o L ?_)|fail)
   intro W3 g;have H3:Hid (Blk W3 (w.heap.size+1) (cellsK l (k+1)) 44):=by show Blk _ _ _ _;rw[← B.o];exact g.blk
   have C:=zk1 g HR;have i:=zk g j;clear g J;go_wp2_with fail;go_roundw
   case rel=>exact⟨k+1,by omega,by go_num,C.o,H3.o,i.o⟩
   case measure=>simp[intOf];omega
  ·obtain rfl:k=13:=by omega
   have K:decide (((13:Nat):Int)<13)=false:=decide_eq_false (by omega)
   have c:Hid (Blk wr (w.heap.size+1) (evOf l).cs 44):=by
    show Blk _ _ _ _;rw[← cellsK_all l A.o];exact U.o
   obtain⟨v,hv⟩:∃v,v=evOf l:=⟨_,rfl⟩
   have E:=zh hv;rw[← hv] at c;clear hv;unfold Ev.cs at c;have c0:=zy0 c;have c1:=zy1 c;have c2:=zy2 c;have c3:=zy3 c;have c4:=zy4 c;have c5:=zy5 c;have c6:=zy6 c;have c7:=zy7 c;have c8:=zy8 c;have c9:=zy9 c;have G:=zy10 c;have H:=zy11 c;have I:=zy12 c;go_wp2_with refine zs ?_;intro W3 g;have D:=zyb g;have i:=zk g j;clear g c0 c1 c2 c3 c4 c5 c6 c7 c8 c9 G H I;obtain⟨r0,r1,r2,r3,r4,r5,r6,r7,r8,r9,P,Q,R⟩:=scl13 D;go_wp2_with fail;exact zr (.agg #[zI v.kd,zI v.me,zI v.mo,zI v.id,zI v.te,zI v.de,zI v.fe,zI v.pr,zI v.ch,zI v.un,zI v.tg,zI v.ow,zI v.bp]) (by simp[results,Tryz.results151,r0,r1,r2,r3,r4,r5,r6,r7,r8,r9,P,Q,R,go_sem]) ⟨by rw[← E.o];rfl,i.o⟩
end book
end Go.Proofs.YtoepgdhiepedeaaGreatDoor
