import Derived.Test.YtoepgdhiepedeaaGreatDoorVVGts18
import Derived.Test.YtoepgdhiepedeaaGreatDoorVVGts19
import Derived.Test.YtoepgdhiepedeaaGreatDoorVVGts23
import Derived.Test.YtoepgdhiepedeaaGreatDoorVVGts24
set_option linter.unusedVariables false
set_option linter.unusedSimpArgs false
set_option maxHeartbeats 4000000
set_option maxRecDepth 100000
namespace Go.Proofs.YtoepgdhiepedeaaGreatDoor
namespace vnd
open disk (RepIs repD lenAt itD)
open book (Ev ev0 evOf ECame)
open Go.RowKit
theorem it_in(c:List Int)(k:Nat):∀z∈(disk.itD c k).1,∀x∈z,x∈c:=by
 induction k with
 |zero=>intro z a;simp[disk.itD] at a
 |succ k ih=>
  intro z a x b;by_cases h:0<disk.lenAt c (disk.itD c k).2
  ·rw[disk.it_live h] at a;rcases List.mem_append.1 a with a|a
   ·exact ih z a x b
   ·rw[List.mem_singleton.1 a] at b;exact List.mem_of_mem_drop (List.mem_of_mem_take b)
  ·have e:=disk.it_dead h 1;rw[e] at a;exact ih z a x b
variable{o:List (List Int)}
theorem rep_in{c:List Int}{x f:Int}(h:RepIs c o x f):∀z∈o,∀y∈z,y∈c:=by
 rcases h with⟨_,rfl,_⟩|⟨_,_,rfl,_⟩|⟨_,_,rfl,_⟩
 ·intro z a;cases a
 ·intro z a;cases a
 ·exact it_in c _
theorem rep_len{c:List Int}{x f:Int}(h:RepIs c o x f):o.length≤2048:=(disk.rep_few h).1
theorem getD_inR{j:Nat}(h:j<o.length):o.getD j []∈o:=by
 have e:o.getD j []=o[j]:=by simp[List.getD,List.getElem?_eq_getElem h]
 rw[e];exact List.getElem_mem _
theorem take_mapE(o:List (List Int))(k:Nat)(h:k<o.length):(o.take k).map evOf++[evOf (o.getD k [])]=(o.take (k+1)).map evOf:=by
 have e:o.getD k []=o[k]:=by simp[List.getD,List.getElem?_eq_getElem h]
 rw[List.take_succ_eq_append_getElem h,List.map_append,e];rfl
def KeptPost(w:World)(c:List Int)(e:Ending)(w':World):Prop:=∃p m cp l f,e=.returned (.tuple #[.slice p m cp,zI f])∧KeptIs c l f∧ECame w' p m cp l∧m≤2048∧zB w w'
theorem ecame_nil(w:World):ECame w none 0 0 []:=⟨⟨rfl,.inl rfl⟩,λ_=>rfl,zc,by omega,λv a=>by cases a⟩
end vnd
namespace ora
open Go.RowKit
theorem omay_any(a:Option Addr)(n cap:Nat)(l:List Pr)(w:World)(hr:RowP w a n l):
  Calls Tryz.prog 53 #[.agg #[.slice a n cap]] w λe w'=>Told w (May l) e w':=by
 have s:Hid (Bo w (w.alloc (.cells #[.slice a n cap] 28)) a n cap l):=Bo.new hr;have K:Hid (l.length=n):=hr.1;clear hr;have c0:=s.o.box.cell 0;by_cases Z:n≤500
 ·have T:¬ (500:Int)<(n:Int):=by omega
  have Y:decide ((500:Int)<(n:Int))=false:=by simp;omega
  have P:Hid (∀W m r b t,zC 54 #[.agg #[zI m,zI r,zI b,zI t]] W λe w'=>Told W (Pr.mk m r b t).may e w'):=λW m r b t=>pairMay_any m r b t W;have R:Hid (∀W a m r b,RowP W a n l→zC 56 #[.agg #[.slice a n cap],zI m,zI r,zI b] W λe w'=>TagPost W l m r b e w'):=λW a m r b h=>tagged_any a n cap l m r b W h (by omega);go_enter Tryz.func53,Tryz.ntmps53;go_wp2_with fail;clear c0;generalize w.alloc (.cells #[.slice a n cap] 28)=W0 at *;go_loopw [3] (λj wr=>∃k:Nat,k≤n∧j=zI (k:Int)∧Hid (∀i,i<k→(l.getD i pr0).may∧At l (l.getD i pr0).m (l.getD i pr0).r (l.getD i pr0).b i)∧Bo w wr a n cap l) (λj _=>n-(intOf j).toNat)
  case atStart=>exact⟨0,Nat.zero_le _,rfl,λi f=>absurd f (Nat.not_lt_zero _),s.o⟩
  case round=>
   obtain⟨k,hk,rfl,V,D⟩:=hrel;have J:Hid (Bo w wr a n cap l):=D;clear D;have c0:=J.o.box.cell 0;by_cases E:k<n
   ·obtain⟨S,A,rfl,_,X⟩:=J.o.row.at (by omega);obtain⟨f0,f1,f2,f3⟩:=X k E
    have O:Hid ((Pr.mk (l.getD k pr0).m (l.getD k pr0).r (l.getD k pr0).b (l.getD k pr0).t).may→At l (l.getD k pr0).m (l.getD k pr0).r (l.getD k pr0).b k→∀i,i<k+1→(l.getD i pr0).may∧At l (l.getD i pr0).m (l.getD i pr0).r (l.getD i pr0).b i):=λh1 h2 i f=>by
     by_cases e:i=k
     ·subst e;exact⟨h1,h2⟩
     ·exact V.o i (by omega)
    have x:Hid (May l→(Pr.mk (l.getD k pr0).m (l.getD k pr0).r (l.getD k pr0).b (l.getD k pr0).t).may∧At l (l.getD k pr0).m (l.getD k pr0).r (l.getD k pr0).b k):=λp=>p.each k (by rw[K.o];exact E);clear X;generalize (l.getD k pr0).m=H at *;generalize (l.getD k pr0).r=d at *;generalize (l.getD k pr0).b=G at *;generalize (l.getD k pr0).t=I at *;have B:=Blk.new wr #[zI H,zI d,zI G,zI I] 87;have n0:=B.cell 0;have n1:=B.cell 1;have n2:=B.cell 2;have n3:=B.cell 3;have N:Hid (Blk (wr.alloc (.cells #[zI H,zI d,zI G,zI I] 87)) wr.heap.size #[zI H,zI d,zI G,zI I] 87):=B;have M:Hid (Bo w (wr.alloc (.cells #[zI H,zI d,zI G,zI I] 87)) (some ⟨S,A,none⟩) n cap l):=J.o.alloc _;clear B;go_wp2_with fail;refine(P.o _ _ _ _ _).mono ?_;rintro e w2 ⟨rr,rfl,q,y⟩;have g:Hid (Bo w w2 (some ⟨S,A,none⟩) n cap l):=M.o.next y;have L:=N.o.next y;have m0:=L.cell 0;have m1:=L.cell 1;have m2:=L.cell 2;have d0:=g.o.box.cell 0;clear L y n0 n1 n2 n3 c0;generalize wr.heap.size=gn at *;cases rr with
    |false=>
     have c:Hid (¬ May l):=λp=>by have:=q.2 (x.o p).1;cases this
     clear q;go_wp2_with fail;go_ret;exact Told.no c.o g.o.bel
    |true=>
     have Q:Hid ((Pr.mk H d G I).may):=q.1 rfl;clear q;go_wp2_with fail;refine(R.o _ _ _ _ _ g.o.row).mono ?_;rintro e w3 ⟨C,U⟩;have u:Hid (Bo w w3 (some ⟨S,A,none⟩) n cap l):=g.o.next C;clear C;rcases U with⟨i,f,rfl⟩|⟨F,rfl⟩
     ·by_cases z:i=k
      ·subst z;have hq:((i:Int) != (i:Int))=false:=by simp
       have c:Hid (∀j,j<i+1→(l.getD j pr0).may∧At l (l.getD j pr0).m (l.getD j pr0).r (l.getD j pr0).b j):=O.o Q.o f;clear f;go_wp2_with fail;go_roundw
       case rel=>exact⟨i+1,by omega,by go_num,c,u.o⟩
       case measure=>simp[intOf];omega
      ·have hq:((i:Int) != (k:Int))=true:=by simp;omega
       have c:Hid (¬ May l):=λp=>z (f.one (x.o p).2);clear f z;go_wp2_with fail;go_ret;exact Told.no c.o u.o.bel
     ·have hq:((-1:Int) != (k:Int))=true:=by simp only[bne_iff_ne,ne_eq];omega
      have c:Hid (¬ May l):=λp=>(x.o p).2.not F;clear F;go_wp2_with fail;go_ret;exact Told.no c.o u.o.bel
   ·obtain rfl:n=k:=by omega
    have c:Hid (May l):=⟨by rw[K.o];exact Z,λi f=>V.o i (by rw[K.o] at f;exact f)⟩
    go_wp2_with fail;go_ret;exact Told.yes c.o J.o.bel
 ·have c:Hid (¬ May l):=λp=>by have:=p.few;rw[K.o] at this;omega
  have T:decide ((500:Int)<(n:Int))=true:=by simp;omega
  clear Z;go_enter Tryz.func53,Tryz.ntmps53;go_wp2_with fail;go_ret;exact Told.no c.o s.o.bel
end ora
namespace words
open Go.RowKit
theorem run_putStep(args:Array Value)(w:World):(callFunc 184 args).run Tryz.prog w=.ok (.enter 184 args) w:=by kernel_rfl
theorem low32(s:Nat):((s:Nat):Int)%4294967296=((s%2^32:Nat):Int):=by omega
theorem putStep_abs(N At V:Nat)(x v n k M s r f g z y:Int)(w:World)(hn:w.cell? ⟨N,0,none⟩=some (zI n))(hat:w.cell? ⟨At,0,none⟩=some (zI k))(hf:w.frozen? ⟨At,0,none⟩=false)(hv:w.cell? ⟨V,0,none⟩=some (.int .u64 v))
  (HO:Hid (∀w,zC 159 #[zI n] w λe w'=>e=.returned (.int .u64 M)∧w'=w))
  (HS:Hid (∀w,zC 158 #[.int .u64 M,zI k] w λe w'=>e=.returned (.int .u64 s)∧w'=w))
  (HT:Hid (∀w,zC 158 #[.int .u64 v,zI k] w λe w'=>e=.returned (.int .u64 r)∧w'=w))
  (q1:s%4294967296=f) (q2:r%4294967296=g) (o1:bits .andNot .u32 x f=z) (o2:bits .or .u32 z g=y) (k0:-64≤k) (k1:k≤96):
  Calls Tryz.prog 184 #[.int .u32 x,.pointer (some ⟨N,0,none⟩),.pointer (some ⟨At,0,none⟩),.pointer (some ⟨V,0,none⟩)] w λe w'=>e=.returned (.int .u32 y)∧Acc w w' At (zI (k-32)):=by
 have a:Acc w w At (zI k):=Acc.refl hat hf;have b:Hid (Acc w w At (zI k)):=a;clear a;go_enter Tryz.func184,Tryz.ntmps184;go_wp2_with fail
 go_quiet (first
  |(go_at_call 159;exact(HO.o _).mono λ_ _ h=>⟨h.1,_,h.2⟩)
  |(go_at_call_of 158 (Value.int .u64 M);exact(HS.o _).mono λ_ _ h=>⟨h.1,_,h.2⟩)
  | (go_at_call_of 158 (Value.int .u64 v);exact (HT.o _).mono fun _ _ h=>⟨h.1,_,h.2⟩))
 go_wp2_with fail;go_ret;exact⟨rfl,(b.o.drewN _).set _⟩
theorem putStep_any(N At V:Nat)(x v n:Nat)(k:Int)(w:World)(hn:w.cell? ⟨N,0,none⟩=some (zI (n:Int)))(hat:w.cell? ⟨At,0,none⟩=some (zI k))(hf:w.frozen? ⟨At,0,none⟩=false)(hv:w.cell? ⟨V,0,none⟩=some (.int .u64 (v:Int)))
  (x1:x<2^32) (v1:v<2^64) (n0:1≤n) (n1:n≤64) (k0:-64≤k) (k1:k≤96):
  Calls Tryz.prog 184 #[.int .u32 (x:Int),.pointer (some ⟨N,0,none⟩),.pointer (some ⟨At,0,none⟩),.pointer (some ⟨V,0,none⟩)] w λe w'=>e=.returned (.int .u32 (putN x v n k:Nat))∧Acc w w' At (zI (k-32)):=by
 have a:sh (onesN n) k%2^32<2^32:=Nat.mod_lt _ (by decide);have b:sh v k%2^32<2^32:=Nat.mod_lt _ (by decide);have c:x &&& (2^32-1-sh (onesN n) k%2^32)<2^32:=Nat.lt_of_le_of_lt Nat.and_le_left x1
 exact putStep_abs N At V x v n k (onesN n:Nat) (sh (onesN n) k:Nat) (sh v k:Nat) _ _ _ _ w hn hat hf hv
  (λw=>ones_any n w n0 n1) (λw=>shift_any _ _ w (ones_lt n n1) (by omega) k1) (λw=>shift_any _ _ w v1 (by omega) k1)
  (low32 _) (low32 _) (andNot32 x _ x1 a) (or32 _ _ c b) k0 k1
theorem five(w:World)(cs:Array Value)(T1 T2 T3 T5:TypeId)(m v x y z u:Value)(q:Nat):
  (((((((w.alloc (.cells cs T1)).alloc (.cells #[m] T2)).alloc (.cells #[v] T3)).alloc (.cells #[x,y,z] 135)).drewN q).alloc (.cells #[u] T5)).cell? ⟨w.heap.size+1,0,none⟩=some m) ∧
  (((((((w.alloc (.cells cs T1)).alloc (.cells #[m] T2)).alloc (.cells #[v] T3)).alloc (.cells #[x,y,z] 135)).drewN q).alloc (.cells #[u] T5)).cell? ⟨w.heap.size+1+1,0,none⟩=some v) ∧
  Trio ((((((w.alloc (.cells cs T1)).alloc (.cells #[m] T2)).alloc (.cells #[v] T3)).alloc (.cells #[x,y,z] 135)).drewN q).alloc (.cells #[u] T5)) (w.heap.size+1+1+1) x y z ∧
  (((((((w.alloc (.cells cs T1)).alloc (.cells #[m] T2)).alloc (.cells #[v] T3)).alloc (.cells #[x,y,z] 135)).drewN q).alloc (.cells #[u] T5)).cell? ⟨w.heap.size+1+1+1+1,0,none⟩=some u) ∧
  (((((((w.alloc (.cells cs T1)).alloc (.cells #[m] T2)).alloc (.cells #[v] T3)).alloc (.cells #[x,y,z] 135)).drewN q).alloc (.cells #[u] T5)).frozen? ⟨w.heap.size+1+1+1+1,0,none⟩=false):=by
 have a:((((((w.alloc (.cells cs T1)).alloc (.cells #[m] T2)).alloc (.cells #[v] T3)).alloc (.cells #[x,y,z] 135)).drewN q).alloc (.cells #[u] T5)).heap=((((w.heap.push (.cells cs T1)).push (.cells #[m] T2)).push (.cells #[v] T3)).push (.cells #[x,y,z] 135)).push (.cells #[u] T5):=rfl;have f:w.heap.size+1=(w.heap.push (.cells cs T1)).size:=by simp
 have g:w.heap.size+1+1=((w.heap.push (.cells cs T1)).push (.cells #[m] T2)).size:=by simp
 have h:w.heap.size+1+1+1=(((w.heap.push (.cells cs T1)).push (.cells #[m] T2)).push (.cells #[v] T3)).size:=by simp
 have i:w.heap.size+1+1+1+1=((((w.heap.push (.cells cs T1)).push (.cells #[m] T2)).push (.cells #[v] T3)).push (.cells #[x,y,z] 135)).size:=by simp
 generalize ((((((w.alloc (.cells cs T1)).alloc (.cells #[m] T2)).alloc (.cells #[v] T3)).alloc (.cells #[x,y,z] 135)).drewN q).alloc (.cells #[u] T5))=W at *
 have c:W.heap[w.heap.size+1]?=some (.cells #[m] T2):=by
  rw[a,Array.getElem?_push,if_neg (by simp),Array.getElem?_push,if_neg (by simp),Array.getElem?_push,if_neg (by simp),f,Array.getElem?_push_size]
 have d:W.heap[w.heap.size+1+1]?=some (.cells #[v] T3):=by
  rw[a,Array.getElem?_push,if_neg (by simp),Array.getElem?_push,if_neg (by simp),g,Array.getElem?_push_size]
 have e:W.heap[w.heap.size+1+1+1]?=some (.cells #[x,y,z] 135):=by
  rw[a,Array.getElem?_push,if_neg (by simp),h,Array.getElem?_push_size]
 have b:W.heap[w.heap.size+1+1+1+1]?=some (.cells #[u] T5):=by
  rw[a,i,Array.getElem?_push_size]
 refine⟨?_,?_,e,?_,?_⟩
 ·simp only[World.cell?,c];rfl
 ·simp only[World.cell?,d];rfl
 ·simp only[World.cell?,b];rfl
 ·simp only[World.frozen?,b];rfl
theorem bel5(w:World)(o1 o2 o3 o4 o5:Obj)(q:Nat):zB w (((((w.alloc o1).alloc o2).alloc o3).alloc o4).drewN q |>.alloc o5):=
 (below_drewN (bel4 w o1 o2 o3 o4) q).alloc (by show _≤((((w.heap.push o1).push o2).push o3).push o4).size;simp;omega) _
theorem put_any(a b c v lo n:Nat)(w:World)(ha:a<2^32)(hb:b<2^32)(hc:c<2^32)(hv:v<2^n)(n0:1≤n)(n1:n≤64)(hl:lo+n≤96):
  Calls Tryz.prog 160 #[.agg #[.int .u32 (a:Int),.int .u32 (b:Int),.int .u32 (c:Int)],zI (lo:Int),zI (n:Int),.int .u64 (v:Int)] w λe w'=>
   e=.returned (.tuple #[.agg #[.int .u32 (putN a v n lo:Nat),.int .u32 (putN b v n ((lo:Int)-32):Nat),.int .u32 (putN c v n ((lo:Int)-64):Nat)],zI 0])∧zB w w':=by
 have q:v<2^64:=Nat.lt_of_lt_of_le hv (Nat.pow_le_pow_right (by decide) n1);have z:Hid (∀w,zC 157 #[zI (lo:Int),zI (n:Int)] w λe w'=>e=.returned (.bool true)∧w'=w):=λw=>isField_yes _ _ w (by omega) (by omega) (by omega) (by omega);have A:Hid (∀w,zC 159 #[zI (n:Int)] w λe w'=>e=.returned (.int .u64 (onesN n:Nat))∧w'=w):=λw=>ones_any n w n0 n1;have F:decide (((onesN n:Nat):Int)<(v:Int))=false:=decide_eq_false (by unfold onesN;omega);have m:(lo:Int)-32-32=(lo:Int)-64:=by omega
 generalize ((onesN n:Nat):Int)=M at *;rw[← m];go_enter Tryz.func160,Tryz.ntmps160;go_wp2_with fail
 go_quiet (first
  |(go_at_call 157;exact(z.o _).mono λ_ _ h=>⟨h.1,_,h.2⟩)
  | (go_at_call 159;exact (A.o _).mono fun _ _ h=>⟨h.1,_,h.2⟩))
 go_wp2_with fail;obtain⟨i,j,r,s,t⟩:=five w #[.int .u32 (a:Int),.int .u32 (b:Int),.int .u32 (c:Int)] 135 3 174 3 (zI (n:Int)) (.int .u64 (v:Int)) (.int .u32 0) (.int .u32 0) (.int .u32 0) (zI (lo:Int)) nq;have g:=bel5 w (.cells #[.int .u32 (a:Int),.int .u32 (b:Int),.int .u32 (c:Int)] 135) (.cells #[zI (n:Int)] 3) (.cells #[.int .u64 (v:Int)] 174) (.cells #[.int .u32 0,.int .u32 0,.int .u32 0] 135) (.cells #[zI (lo:Int)] 3) nq
 refine (upward_any 184 #[.pointer (some ⟨w.heap.size+1,0,none⟩),.pointer (some ⟨w.heap.size+1+1+1+1,0,none⟩),.pointer (some ⟨w.heap.size+1+1,0,none⟩)] (w.heap.size+1+1+1+1) (zI (lo:Int)) (zI ((lo:Int) - 32)) (zI ((lo:Int) - 32 - 32)) (zI ((lo:Int) - 32 - 32 - 32)) a b c
  (putN a v n lo:Nat) (putN b v n ((lo:Int)-32):Nat) (putN c v n ((lo:Int)-32-32):Nat) _ (Acc.refl s t) run_putStep
  (λw' h=>putStep_any _ _ _ _ _ _ _ w' (h.keep i (by omega)) h.cell h.free (h.keep j (by omega)) ha q n0 n1 (by omega) (by omega))
  (λw' h=>putStep_any _ _ _ _ _ _ _ w' (h.keep i (by omega)) h.cell h.free (h.keep j (by omega)) hb q n0 n1 (by omega) (by omega))
  (fun w' h=>putStep_any _ _ _ _ _ _ _ w' (h.keep i (by omega)) h.cell h.free (h.keep j (by omega)) hc q n0 n1 (by omega) (by omega))).mono ?_
 rintro e x ⟨u,p⟩;have d:=r.acc p (by omega);have y:Hid (zB w x):=p.below g (by omega);clear p i j r s t g;have f:Hid (e=.returned (.agg #[.int .u32 (putN a v n lo:Nat),.int .u32 (putN b v n ((lo:Int)-32):Nat),.int .u32 (putN c v n ((lo:Int)-32-32):Nat)])):=u;clear u;obtain⟨y0,h0⟩:∃y0:Int,y0=(putN a v n lo:Nat):=⟨_,rfl⟩
 obtain⟨y1,h1⟩:∃y1:Int,y1=(putN b v n ((lo:Int)-32):Nat):=⟨_,rfl⟩
 obtain⟨y2,h2⟩:∃y2:Int,y2=(putN c v n ((lo:Int)-32-32):Nat):=⟨_,rfl⟩
 have k:Hid (y0=(putN a v n lo:Nat)∧y1=(putN b v n ((lo:Int)-32):Nat)∧y2=(putN c v n ((lo:Int)-32-32):Nat)):=⟨h0,h1,h2⟩
 rw[← h0,← h1,← h2] at f;obtain rfl:=f.o;clear h0 h1 h2;have G:=d.c0;have H:=d.c1;have I:=d.c2;have C:=d.free 0;have D:=d.free 1;have E:=d.free 2;have B:Hid (Trio x (w.heap.size+1+1+1) (.int .u32 0) (.int .u32 0) (.int .u32 0)):=d;clear d;go_wp2_with fail;have l:=B.o.put (.int .u32 y0) (.int .u32 y1) (.int .u32 y2);refine bodyPost_ret (v:=.tuple #[.agg #[.int .u32 y0,.int .u32 y1,.int .u32 y2],zI 0]) (by simp[results,Tryz.results160,l.c0,l.c1,l.c2,go_sem]) rfl ⟨?_,?_⟩
 ·rw[k.o.1,k.o.2.1,k.o.2.2]
 ·exact below_put3 y.o _ _ _ _ (by omega)
end words
namespace book
open Go.RowKit
theorem bleft2(kd me mo id te de fe pr ch un tg ow bp:Int)(w:World)(q2:(kd==2)=true):Calls Tryz.prog 163 #[.agg #[zI kd,zI me,zI mo,zI id,zI te,zI de,zI fe,zI pr,zI ch,zI un,zI tg,zI ow,zI bp]] w λe w'=>e=.returned (.agg #[zI 0,zI 0,zI 0,zI 0,zI 0,zI 0,zI 0,zI 0,zI 0,zI 0,zI 0,zI ow,zI bp])∧zB w w':=by
 go_enter Tryz.func163,Tryz.ntmps163;go_wp2;exact zr (.agg #[zI 0,zI 0,zI 0,zI 0,zI 0,zI 0,zI 0,zI 0,zI 0,zI 0,zI 0,zI ow,zI bp]) (by simp[results,Tryz.results163,go_sem]) ⟨rfl,bki.bel2 _ _ _⟩
theorem bleft3(kd me mo id te de fe pr ch un tg ow bp:Int)(w:World)(q2:(kd==2)=false)(q3:(kd==3)=true):Calls Tryz.prog 163 #[.agg #[zI kd,zI me,zI mo,zI id,zI te,zI de,zI fe,zI pr,zI ch,zI un,zI tg,zI ow,zI bp]] w λe w'=>e=.returned (.agg #[zI 0,zI 0,zI 0,zI 0,zI te,zI de,zI fe,zI pr,zI ch,zI 0,zI 0,zI ow,zI bp])∧zB w w':=by
 go_enter Tryz.func163,Tryz.ntmps163;go_wp2;exact zr (.agg #[zI 0,zI 0,zI 0,zI 0,zI te,zI de,zI fe,zI pr,zI ch,zI 0,zI 0,zI ow,zI bp]) (by simp[results,Tryz.results163,go_sem]) ⟨rfl,bki.bel2 _ _ _⟩
theorem bleft4(kd me mo id te de fe pr ch un tg ow bp:Int)(w:World)(q2:(kd==2)=false)(q3:(kd==3)=false)(q4:(kd==4)=true):Calls Tryz.prog 163 #[.agg #[zI kd,zI me,zI mo,zI id,zI te,zI de,zI fe,zI pr,zI ch,zI un,zI tg,zI ow,zI bp]] w λe w'=>e=.returned (.agg #[zI 0,zI 0,zI mo,zI 0,zI te,zI de,zI fe,zI pr,zI ch,zI un,zI 0,zI ow,zI bp])∧zB w w':=by
 go_enter Tryz.func163,Tryz.ntmps163;go_wp2;exact zr (.agg #[zI 0,zI 0,zI mo,zI 0,zI te,zI de,zI fe,zI pr,zI ch,zI un,zI 0,zI ow,zI bp]) (by simp[results,Tryz.results163,go_sem]) ⟨rfl,bki.bel2 _ _ _⟩
theorem bleft5(kd me mo id te de fe pr ch un tg ow bp:Int)(w:World)(q2:(kd==2)=false)(q3:(kd==3)=false)(q4:(kd==4)=false)(q5:(kd==5)=true):Calls Tryz.prog 163 #[.agg #[zI kd,zI me,zI mo,zI id,zI te,zI de,zI fe,zI pr,zI ch,zI un,zI tg,zI ow,zI bp]] w λe w'=>e=.returned (.agg #[zI 0,zI 0,zI mo,zI id,zI te,zI de,zI fe,zI pr,zI ch,zI un,zI tg,zI 0,zI 0])∧zB w w':=by
 go_enter Tryz.func163,Tryz.ntmps163;go_wp2;exact zr (.agg #[zI 0,zI 0,zI mo,zI id,zI te,zI de,zI fe,zI pr,zI ch,zI un,zI tg,zI 0,zI 0]) (by simp[results,Tryz.results163,go_sem]) ⟨rfl,bki.bel2 _ _ _⟩
theorem bleft0(kd me mo id te de fe pr ch un tg ow bp:Int)(w:World)(q2:(kd==2)=false)(q3:(kd==3)=false)(q4:(kd==4)=false)(q5:(kd==5)=false):Calls Tryz.prog 163 #[.agg #[zI kd,zI me,zI mo,zI id,zI te,zI de,zI fe,zI pr,zI ch,zI un,zI tg,zI ow,zI bp]] w λe w'=>e=.returned (.agg #[zI 0,zI 0,zI mo,zI id,zI te,zI de,zI fe,zI pr,zI ch,zI un,zI tg,zI ow,zI bp])∧zB w w':=by
 go_enter Tryz.func163,Tryz.ntmps163;go_wp2;exact zr (.agg #[zI 0,zI 0,zI mo,zI id,zI te,zI de,zI fe,zI pr,zI ch,zI un,zI tg,zI ow,zI bp]) (by simp[results,Tryz.results163,go_sem]) ⟨rfl,bki.bel2 _ _ _⟩
theorem bleft(v:Ev)(w:World):Calls Tryz.prog 163 #[v.v] w λe w'=>e=.returned (leftE v).v∧zB w w':=by
 obtain⟨a,k,l,i,o,g,h,n,f,q,p,m,d⟩:=v;unfold leftE Ev.v;simp only;by_cases b:a=2
 ·rw[if_pos b];exact bleft2 a k l i o g h n f q p m d w (by simpa using b)
 rw[if_neg b];by_cases c:a=3
 ·rw[if_pos c];exact bleft3 a k l i o g h n f q p m d w (by simpa using b) (by simpa using c)
 rw[if_neg c];by_cases j:a=4
 ·rw[if_pos j];exact bleft4 a k l i o g h n f q p m d w (by simpa using b) (by simpa using c) (by simpa using j)
 rw[if_neg j];by_cases r:a=5
 ·rw[if_pos r];exact bleft5 a k l i o g h n f q p m d w (by simpa using b) (by simpa using c) (by simpa using j) (by simpa using r)
 rw[if_neg r];exact bleft0 a k l i o g h n f q p m d w (by simpa using b) (by simpa using c) (by simpa using j) (by simpa using r)
end book
namespace acc
open tar (Du du0 Came RowD Ld PairT)
open Go.RowKit
theorem psell(g:Nat)(x:Ac)(p:Option Addr)(len cap:Nat)(t:Tm)(pt:Option Addr)(lt ct:Nat)(te m:Int)(w:World)(hw:Blk w g (wcs x bi0 p len cap) 132)(hd:deb.Fresh w (g+1) p len cap x.ds)(ha:AMay x)(ht:Came w pt lt ct t.ts)(hwf:wf4 t)(hfar:Far pt lt g):Calls Tryz.prog 34 #[.pointer (some ⟨g,0,none⟩),.agg #[.slice pt lt ct,zI t.ff,zI t.fb,zI t.db,zI t.al],zI te,zI m] w λe w'=>DPost w g (Or0 (SellIs x t te m)) e w':=by
 have R:Hid (∀W,zC 66 #[zI 1,zI 100000000,zI te] W λe w'=>e=.returned (.bool (decide (1≤te∧te≤100000000)))∧w'=W):=λW=>awithin 1 100000000 te W;have bw:=hw.lt;have a0:Hid (zB w (w.alloc (.cells #[.slice pt lt ct,zI t.ff,zI t.fb,zI t.db,zI t.al] 24))):=(Below.refl w.heap.size w).alloc (by simp) _;have aD:Hid (Chg w (w.alloc (.cells #[.slice pt lt ct,zI t.ff,zI t.fb,zI t.db,zI t.al] 24)) g):=.of a0.o;have aG:=zye w #[.slice pt lt ct,zI t.ff,zI t.fb,zI t.db,zI t.al] 24;have aF:Hid (Blk (w.alloc (.cells #[.slice pt lt ct,zI t.ff,zI t.fb,zI t.db,zI t.al] 24)) g (wcs x bi0 p len cap) 132):=hw.alloc _;have aE:=zh (hd.below a0.o);have ab:=zh (ht.below a0.o);have A:=zh hfar;have aX:Hid (∀W,Blk W g (wcs x bi0 p len cap) 132→deb.Fresh W (g+1) p len cap x.ds→Came W pt lt ct t.ts→zC 65 #[.pointer (some ⟨g,0,none⟩),.agg #[.slice pt lt ct,zI t.ff,zI t.fb,zI t.db,zI t.al],zI m] W λe w'=>DPost W g (BeginR x t m bi0) e w'):=λW M U h3=>pbegin g x p len cap t pt lt ct bi0 m W M U ha h3 hwf hfar;have HM:=zh ha;have bf:=ha.2.2.2.1;clear hw hd ht hwf hfar ha;generalize au:(w.alloc (.cells #[.slice pt lt ct,zI t.ff,zI t.fb,zI t.db,zI t.al] 24))=W0 at *;have b7:=zh au;clear au;go_enter Tryz.func34,Tryz.ntmps34;go_upto_region 1 with fail
 rw[b7.o];go_wp2_with refine zw ?_;refine(aX.o _ aF.o aE.o ab.o).mono ?_;rintro e w1 ⟨y,b2,q,n,c,f,rfl,⟨hr,bb⟩,az,ax,V⟩;subst bb;have P:=zh ax;have H:=zh az;have ac:Hid (Blk w1 (w.heap.size) #[.slice pt lt ct,zI t.ff,zI t.fb,zI t.db,zI t.al] 24):=Chg.keep (g:=g) (V) aG.o (by omega);have aH:=zh (came_chg ab.o (V) A.o);have a1:=zh (aD.o.trans (V));clear ax V az;by_cases h0:f=0
 ·skip
  subst h0
  have j:TRight t∧RMay x m∧y=rolled x m:=by
   rcases hr with⟨M,U,_⟩|⟨_,_,h3,_⟩|⟨M,U,h3,_⟩
   ·exact absurd (U.ok.1 rfl) M
   ·exact absurd rfl h3.ne
   ·exact⟨M,U,h3⟩
  have J:Hid (Ready x t m):=⟨HM.o,j.1,j.2.1⟩
  have HT:=zh j.1;have E:=zh j.2.2;have O:=rolled_same x m;rw[← j.2.2] at O;have N:=(rolled_may HM.o j.2.1).2.2.2.2.2.1;rw[← j.2.2] at N;have aw:deb.Mays y.ds:=by rw[j.2.2];exact(rolled_may HM.o j.2.1).1
  have a9:=zh O.2.2.1;have bk:1≤y.nx∧y.nx≤1048576:=by rw[O.2.2.1];exact bf
  have I:=zh O;clear j hr O;by_cases h5:1≤te∧te≤100000000
  ·rw[decide_eq_true h5] at R;go_wp2_with fail;refine(R.o _).mono ?_;rintro e wz ⟨rfl,bj⟩;subst wz;go_wp2_with fail;have h:=HT.o.2;have ar:Hid (deb.TMay te t.db):=⟨⟨by omega,h5.2⟩,h.2.2.1⟩
   have b5:Hid (zC 67 #[.slice q n c,zI te,zI t.db] w1.drew λe w'=>deb.RecPost w1.drew y.ds te t.db e w'):=deb.krec _ q n c y.ds te t.db (fresh_drew P.o).came (tar.wf_mid (by omega) (by omega)) (tar.wf_mid h.2.2.1.1 (by have:=h.2.2.1.2;omega));have b3:Hid (∀W,zC 68 #[zI te,zI t.fb] W λe w'=>e=.returned (.tuple #[zI (te*t.fb/10000),zI 0])∧zB W w'):=λW=>cents.part_yes te t.fb W (by omega) (by omega) h.2.1.1 h.2.1.2;have bx:=deb.share_bd (t:=te) (bp:=t.fb) ⟨⟨by omega,h5.2⟩,h.2.1⟩;have bz:=deb.share_bd ar.o;refine wp_region_held_drew (S:=λv=>Blk v (g) #[zI y.me,zI y.rv,zI y.nx,zI y.mo,zI y.bo,zI y.fr,.slice q n c,zI 0,zI 0,zI 0,zI 0,zI 0,zI 0,zI 0] 132∧Blk v (w.heap.size) #[.slice pt lt ct,zI t.ff,zI t.fb,zI t.db,zI t.al] 24) (by kernel_rfl) ⟨Blk.drew H.o 1,Blk.drew ac.o 1⟩ (λi=>?_);refine zt' 0 (.pointer (some ⟨g,0,none⟩)) ?_;refine zt' 1 (.pointer (some ⟨g,0,none⟩)) ?_;refine zt' 2 (.pointer (some ⟨g,0,none⟩)) ?_;refine zt' 3 (.pointer (some ⟨g,6,none⟩)) ?_;refine zu' 4 (.slice q n c) rfl rfl (Or.inl ⟨by rfl,λv G=>by have g0:=G.1.cell 6;clear G;go_simp⟩) ?_;refine zt' 5 (zI te) ?_;refine zt' 6 (.pointer (some ⟨w.heap.size,3,none⟩)) ?_;refine zu' 7 (zI t.db) rfl rfl (Or.inl ⟨by rfl,λv G=>by have g0:=G.2.cell 3;clear G;go_simp⟩) ?_;refine zo 8 λK hK=>?_;rw[if_pos (by rfl)];refine wp_callOp 39 rfl (by clear hK;go_simp) b5.o ?_;rintro e w5 ⟨D,C,B,z,a,fz,rfl,aA,ay,F⟩;obtain⟨rfl,hz,Z⟩:=aA.got aw ar.o;have b8:Hid (deb.Fresh w5 (g+1) D C B z):=ay.low (by show g+1≤w1.heap.size;have:=H.o.lt;omega);have ba:=(deb.sumD_pos (deb.mem_fits aw.2)).1;have br:0≤a:=by rw[Z];omega
   have bs:a≤100000000:=by rw[Z];omega
   have ao:Hid (a=paid x t te m):=by show _=_;rw[Z];unfold paid share;rw[← E.o]
   have b9:Hid (z=deb.recK (rolled x m).ds (share t te) (rolled x m).ds.length):=by show _=_;rw[hz];unfold share;rw[← E.o]
   have am:Hid (t.ff+te*t.fb/10000=fee t te):=rfl;clear Z hz ba aA ay;have ad:=zh ((Blk.drew H.o 1).next F);have a2:Hid (Blk w5 (w.heap.size) #[.slice pt lt ct,zI t.ff,zI t.fb,zI t.db,zI t.al] 24):=Chg.keep (g:=g) ((Chg.of (bel_drew zb 1)).trans (.of F)) ac.o (by omega);have aK:Hid (Came w5 pt lt ct t.ts):=came_chg aH.o ((Chg.of (bel_drew zb 1)).trans (.of F)) A.o;have aJ:Hid (deb.Fresh w5 (g+1) q n c y.ds):=fresh_chg P.o ((Chg.of (bel_drew zb 1)).trans (.of F));have aI:Hid (Chg w w5 g):=a1.o.trans ((Chg.of (bel_drew zb 1)).trans (.of F));refine⟨_,rfl,hK.o _ _ ⟨ad.o,a2.o⟩ (λi=>?_)⟩;clear hK K F;simp only[Act.put,zq];refine zt' 9 (.tuple #[.slice D C B,zI a,zI 0]) ?_;refine zt' 10 (.slice D C B) ?_;refine zt' 11 (zI a) ?_;refine zt' 12 (zI 0) ?_;refine zt' 13 (.slice D C B) ?_;refine zt' 14 (zI a) ?_;refine zt' 15 (zI 0) ?_;refine wpAnyH_done (by kernel_rfl) ?_ _;clear i;have bm:=zy2 a2;go_wp2_with fail;refine(b3.o _).mono ?_;rintro e w6 ⟨rfl,r⟩;have a3:=shN ad r;have Q:Hid (Blk w6 (w.heap.size) #[.slice pt lt ct,zI t.ff,zI t.fb,zI t.db,zI t.al] 24):=Chg.keep (g:=g) (.of r) a2.o (by omega);have ag:=zh (came_chg aK.o (.of r) A.o);have af:=zh (fresh_chg aJ.o (.of r));have aL:=zh (fresh_chg b8.o (.of r));have ae:=zh (aI.o.trans (.of r));clear r bm;generalize te*t.fb/10000=b at *;have bv:=h.1;have T:Hid (te-a-(t.ff+b)=rest x t te m):=by show _=_;unfold rest;rw[ao.o,am.o]
   have a8:=zh HT.o.1;clear h;by_cases h6:te-a-(t.ff+b)<0
   ·have d6:decide (te-a-(t.ff+b)<0)=true:=decide_eq_true h6;have L:Hid (Or0 (SellIs x t te m) y bi0 19):=.inl ⟨by decide,.inr (.inl ⟨J.o,λhh=>by have:=hh.2.1;rw[← T.o] at this;omega,rfl,rfl,rfl⟩)⟩;have aC:=zy1 Q;go_wp2_with fail;go_ret;exact⟨y,bi0,q,n,c,19,rfl,L.o,a3.o,af.o,ae.o⟩
   ·have d6:decide (te-a-(t.ff+b)<0)=false:=decide_eq_false h6;have b0:Hid (zC 69 #[.slice pt lt ct,zI y.bo,zI (te-a-(t.ff+b))] w6.drew λe w'=>tar.ThreePost w6.drew (tar.MostIs t.ts y.bo (te-a-(t.ff+b))) e w'):=tar.kmost _ pt lt ct t.ts y.bo _ (ag.o.below (bel_drew zb 1)) (tar.wf_mid N.1 (by omega)) (tar.wf_mid (by omega) (by omega));have aZ:Hid (tar.MayMost y.bo (te-a-(t.ff+b))):=⟨N,by omega,by omega⟩
    have aC:=zy1 Q;go_wp2_with fail;clear aC;refine wp_region_held_drew (S:=λv=>Blk v (g) #[zI y.me,zI y.rv,zI y.nx,zI y.mo,zI y.bo,zI y.fr,.slice q n c,zI 0,zI 0,zI 0,zI 0,zI 0,zI 0,zI 0] 132∧Blk v (w.heap.size) #[.slice pt lt ct,zI t.ff,zI t.fb,zI t.db,zI t.al] 24) (by kernel_rfl) ⟨Blk.drew a3.o 1,Blk.drew Q.o 1⟩ (λi=>?_);refine zt' 0 (.pointer (some ⟨w.heap.size,0,none⟩)) ?_;refine zu' 1 (.slice pt lt ct) rfl rfl (Or.inl ⟨by rfl,λv G=>by have g0:=G.2.cell 0;clear G;go_simp⟩) ?_;refine zt' 2 (.pointer (some ⟨g,0,none⟩)) ?_;refine zt' 3 (.pointer (some ⟨g,0,none⟩)) ?_;refine zt' 4 (.pointer (some ⟨g,0,none⟩)) ?_;refine zt' 5 (.pointer (some ⟨g,4,none⟩)) ?_;refine zu' 6 (zI y.bo) rfl rfl (Or.inl ⟨by rfl,λv G=>by have g0:=G.1.cell 4;clear G;go_simp⟩) ?_;refine zt' 7 (zI (te-a-(t.ff+b))) ?_;refine zo 8 λK hK=>?_;rw[if_pos (by rfl)];refine wp_callOp 70 rfl (by clear hK;go_simp) b0.o ?_;rintro e w7 ⟨u,d,fm,rfl,aB,s⟩;obtain⟨rfl,k,Y⟩:=aB.got a8.o aZ.o;have bA:=k.1.1;have bB:u≤2097151:=by have:=k.1.2;unfold tar.Top at this;omega
    have bg:y.bo+u≤10000000:=by have:=k.1.2;unfold tar.Top at this;omega
    have av:=tar.cost_bd a8.o y.bo (y.bo+u) N.1 (by omega) bg;rw[← Y] at av;have bq:d≤(te-a-(t.ff+b)):=by rw[Y];exact k.2.1
    have bn:0≤d:=by omega
    have a7:Hid (tar.MostOf t.ts (rolled x m).bo (rest x t te m) u):=by show tar.MostOf _ _ _ _;rw[← E.o,← T.o];exact k
    have b4:Hid (d=tar.cost t.ts (rolled x m).bo ((rolled x m).bo+u)):=by show _=_;rw[← E.o];exact Y
    have an:Hid (∀v,tar.MostOf t.ts (rolled x m).bo (rest x t te m) v→v=u):=λv G=>by
     have be:0≤(rolled x m).bo:=by rw[← E.o];exact N.1
     exact G.one a8.o be a7.o
    clear k Y av aB;have a4:=zh ((Blk.drew a3.o 1).next s);have ai:Hid (Blk w7 (w.heap.size) #[.slice pt lt ct,zI t.ff,zI t.fb,zI t.db,zI t.al] 24):=Chg.keep (g:=g) ((Chg.of (bel_drew zb 1)).trans (.of s)) Q.o (by omega);have bt:Hid (Came w7 pt lt ct t.ts):=came_chg ag.o ((Chg.of (bel_drew zb 1)).trans (.of s)) A.o;have aM:Hid (deb.Fresh w7 (g+1) q n c y.ds):=fresh_chg af.o ((Chg.of (bel_drew zb 1)).trans (.of s));have aN:Hid (deb.Fresh w7 (g+1) D C B z):=fresh_chg aL.o ((Chg.of (bel_drew zb 1)).trans (.of s));have ah:Hid (Chg w w7 g):=ae.o.trans ((Chg.of (bel_drew zb 1)).trans (.of s));refine⟨_,rfl,hK.o _ _ ⟨a4.o,ai.o⟩ (λi=>?_)⟩;clear hK K s;simp only[Act.put,zq];refine zt' 9 (.tuple #[zI u,zI d,zI 0]) ?_;refine zt' 10 (zI u) ?_;refine zt' 11 (zI d) ?_;refine zt' 12 (zI 0) ?_;refine zt' 13 (zI u) ?_;refine zt' 14 (zI d) ?_;refine zt' 15 (zI 0) ?_;refine wpAnyH_done (by kernel_rfl) ?_ _;clear i;by_cases h7:u=0
    ·have d7:(u==0)=true:=by simpa using h7
     have L:Hid (Or0 (SellIs x t te m) y bi0 19):=.inl ⟨by decide,.inr (.inl ⟨J.o,λhh=>hh.2.2 (by rw[← h7];exact a7.o),rfl,rfl,rfl⟩)⟩;clear h7;go_wp2_with fail;go_ret;exact⟨y,bi0,q,n,c,19,rfl,L.o,a4.o,aM.o,ah.o⟩
    ·have d7:(u==0)=false:=by simpa using h7
     have aq:Hid (TenOk x t te m):=⟨h5,by rw[← T.o];omega,λhh=>h7 (an.o 0 hh).symm⟩
     clear h7;go_wp2_with (first|(refine wp_letS rfl 53 _ _ rfl g 6 rfl D C B rfl (by kernel_rfl) #[zI y.me,zI y.rv,zI y.nx,zI y.mo,zI y.bo,zI y.fr,.slice q n c,zI 0,zI 0,zI 0,zI 0,zI 0,zI 0,zI 0] 132 a4.o (by simp) ?_)|fail)
     intro W8 l;have aQ:=zyb l;have aR:Hid (Blk W8 (w.heap.size) #[.slice pt lt ct,zI t.ff,zI t.fb,zI t.db,zI t.al] 24):=Chg.keep (g:=g) (.upd l) ai.o (by omega);have aP:=zh (fresh_chg aN.o (.upd l));have aO:=zh (ah.o.trans (.upd l));clear l d7;have bl:=zy4 aQ;have bh:IntKind.i64.wrap (y.bo+u)=y.bo+u:=by rw[IntKind.wrap_i64];omega
     go_wp2_with refine zl ?_;intro W9 l;have aU:=zyb l;have aV:Hid (Blk W9 (w.heap.size) #[.slice pt lt ct,zI t.ff,zI t.fb,zI t.db,zI t.al] 24):=Chg.keep (g:=g) (.upd l) aR.o (by omega);have aT:=zh (fresh_chg aP.o (.upd l));have aS:=zh (aO.o.trans (.upd l));clear l bl bh;have bi:IntKind.i64.wrap ((te-a-(t.ff+b))-d)=(te-a-(t.ff+b))-d:=by rw[IntKind.wrap_i64];omega
     have ap:Hid (putAll #[zI y.me,zI y.rv,zI y.nx,zI y.mo,zI (y.bo+u),zI y.fr,.slice D C B,zI 0,zI 0,zI 0,zI 0,zI 0,zI 0,zI 0] 7 (#[zI 0,zI te,zI a,zI (t.ff+b),zI d,zI ((te-a-(t.ff+b))-d),zI u]:Array Value).toList=#[zI y.me,zI y.rv,zI y.nx,zI y.mo,zI (y.bo+u),zI y.fr,.slice D C B,zI 0,zI te,zI a,zI (t.ff+b),zI d,zI ((te-a-(t.ff+b))-d),zI u]):=by show _=_;kernel_rfl
     go_wp2_with (first|(refine wp_let rfl 33 _ _ rfl g 7 rfl (.agg #[zI 0,zI te,zI a,zI (t.ff+b),zI d,zI ((te-a-(t.ff+b))-d),zI u]) rfl #[zI 0,zI te,zI a,zI (t.ff+b),zI d,zI ((te-a-(t.ff+b))-d),zI u] rfl (by kernel_rfl) (by simp[Value.oneCell']) #[zI y.me,zI y.rv,zI y.nx,zI y.mo,zI (y.bo+u),zI y.fr,.slice D C B,zI 0,zI 0,zI 0,zI 0,zI 0,zI 0,zI 0] 132 aU.o (by simp) #[zI y.me,zI y.rv,zI y.nx,zI y.mo,zI (y.bo+u),zI y.fr,.slice D C B,zI 0,zI te,zI a,zI (t.ff+b),zI d,zI ((te-a-(t.ff+b))-d),zI u] ap.o ?_)|fail)
     intro WA l;have aW:=zyb l;have bu:Hid (Blk WA (w.heap.size) #[.slice pt lt ct,zI t.ff,zI t.fb,zI t.db,zI t.al] 24):=Chg.keep (g:=g) (.upd l) aV.o (by omega);have ak:=zh (fresh_chg aT.o (.upd l));have aj:=zh (aS.o.trans (.upd l));clear l bi
     have b6:Hid (⟨y.me,y.rv,y.nx+1,y.mo,y.bo+u,y.fr,z⟩=sold x t te m u):=by
      show _=_;unfold sold;rw[b9.o,← E.o,I.o.1,I.o.2.1,I.o.2.2.1,I.o.2.2.2.1,I.o.2.2.2.2]
     have aY:Hid (⟨y.nx,te,a,(t.ff+b),d,(te-a-(t.ff+b))-d,u⟩=bill x t te m u):=by
      show _=_;unfold bill;rw[← b4.o,← T.o,← ao.o,← am.o,a9.o]
     have b1:Hid (zC 70 #[.pointer (some ⟨g,0,none⟩)] WA λe w'=>NumPost WA g ⟨y.me,y.rv,y.nx,y.mo,y.bo+u,y.fr,z⟩ ⟨0,te,a,(t.ff+b),d,(te-a-(t.ff+b))-d,u⟩ D C B e w'):=pnum g ⟨y.me,y.rv,y.nx,y.mo,y.bo+u,y.fr,z⟩ ⟨0,te,a,(t.ff+b),d,(te-a-(t.ff+b))-d,u⟩ D C B WA aW.o bk;go_wp2_with fail;refine b1.o.mono ?_;rintro e wN ⟨X,⟨hx,rfl,aa⟩|⟨hx,rfl,aa⟩⟩
     ·have L:Hid (Or0 (SellIs x t te m) ⟨y.me,y.rv,y.nx,y.mo,y.bo+u,y.fr,z⟩ ⟨0,te,a,(t.ff+b),d,(te-a-(t.ff+b))-d,u⟩ 20):=.inl ⟨by decide,.inr (.inr (.inl ⟨J.o,aq.o,by rw[← a9.o];exact hx,rfl,rfl,rfl⟩))⟩;have a6:=fresh_chg ak.o X;have a5:=aj.o.trans X;clear hx;go_wp2_with fail;go_ret;exact⟨⟨y.me,y.rv,y.nx,y.mo,y.bo+u,y.fr,z⟩,⟨0,te,a,(t.ff+b),d,(te-a-(t.ff+b))-d,u⟩,D,C,B,20,rfl,L.o,aa,a6,a5⟩
     ·have L:Hid (Or0 (SellIs x t te m) ⟨y.me,y.rv,y.nx+1,y.mo,y.bo+u,y.fr,z⟩ ⟨y.nx,te,a,(t.ff+b),d,(te-a-(t.ff+b))-d,u⟩ 0):=.inr ⟨rfl,.inr (.inr (.inr ⟨J.o,aq.o,by rw[← a9.o];exact hx,rfl,u,a7.o,b6.o,aY.o⟩))⟩;have a6:=fresh_chg ak.o X;have a5:=aj.o.trans X;clear hx;go_wp2_with fail;go_ret;exact⟨⟨y.me,y.rv,y.nx+1,y.mo,y.bo+u,y.fr,z⟩,⟨y.nx,te,a,(t.ff+b),d,(te-a-(t.ff+b))-d,u⟩,D,C,B,0,rfl,L.o,aa,a6,a5⟩
  ·rw[decide_eq_false h5] at R;have L:Hid (Or0 (SellIs x t te m) y bi0 19):=.inl ⟨by decide,.inr (.inl ⟨J.o,λhh=>h5 hh.1,rfl,rfl,rfl⟩)⟩;clear h5;go_wp2_with fail;refine(R.o _).mono ?_;rintro e wz ⟨rfl,bj⟩;subst wz;go_wp2_with fail;go_ret;exact⟨y,bi0,q,n,c,19,rfl,L.o,H.o,P.o,a1.o⟩
 ·skip
  have d0:(f != 0)=true:=by simpa using h0
  have L:Hid (Or0 (SellIs x t te m) y bi0 f):=by
   refine .inl ⟨h0,.inl ⟨?_,rfl,rfl⟩⟩;rcases hr with⟨M,U,_⟩|⟨M,U,h3,_⟩|⟨_,_,_,M⟩
   ·exact .inr (.inl ⟨HM.o,M,U⟩)
   ·exact .inr (.inr ⟨HM.o,M,U,h3⟩)
   ·exact absurd M h0
  clear hr h0;go_wp2_with fail;go_ret;exact⟨y,bi0,q,n,c,f,rfl,L.o,H.o,P.o,a1.o⟩
theorem psell1(B0 B1 B2 g:Nat)(x:Ac)(p:Option Addr)(len cap:Nat)(t:Tm)(pt:Option Addr)(lt ct:Nat)(te m:Int)(w:World)(hB0:Blk w B0 #[.slice pt lt ct,zI t.ff,zI t.fb,zI t.db,zI t.al] 24)(hB1:Blk w B1 #[zI te] 3)(hB2:Blk w B2 #[zI m] 3)(hw:Blk w g (wcs x bi0 p len cap) 132)(hd:deb.Fresh w (g+1) p len cap x.ds)(ha:AMay x)(ht:Came w pt lt ct t.ts)(hwf:wf4 t)(hfar:Far pt lt g):Calls Tryz.prog 33 #[.pointer (some ⟨g,0,none⟩),.pointer (some ⟨B0,0,none⟩),.pointer (some ⟨B1,0,none⟩),.pointer (some ⟨B2,0,none⟩)] w λe w'=>WPost w g (Or0 (SellIs x t te m)) e w':=by
 have a:Hid (zC 34 #[.pointer (some ⟨g,0,none⟩),.agg #[.slice pt lt ct,zI t.ff,zI t.fb,zI t.db,zI t.al],zI te,zI m] w λe w'=>WPost w g (Or0 (SellIs x t te m)) e w'):=(psell g x p len cap t pt lt ct te m w hw hd ha ht hwf hfar).mono λe w' h=>h.w (Nat.le_of_lt hw.lt);have i:=zh hB0;have j:=zh hB1;have r:=hB1.cell 0;have k:=zh hB2;have s:=hB2.cell 0;clear hw ha hd ht hwf hfar;go_enter Tryz.func33,Tryz.ntmps33;go_wp2_with refine zw ?_;refine a.o.mono ?_;rintro e u d;have l:=zh d;obtain⟨y,b,q,n,c,f,rfl,_⟩:=d;go_wp2_with fail;go_ret;exact l.o
theorem ksell:KcSell:=by
 intro w x p len a t i lt k f m ha ht ax hm;unfold Ac.v Ac.cs Tm.v;have P:Hid (Blk ((((((w.alloc (.cells #[zI x.me,zI x.rv,zI x.nx,zI x.mo,zI x.bo,zI x.fr,.slice p len a] 55)).alloc (.cells #[.slice i lt k,zI t.ff,zI t.fb,zI t.db,zI t.al] 24)).alloc (.cells #[zI f] 3)).alloc (.cells #[zI m] 3)).alloc (.cells #[zI 0,zI 0,zI 0,zI 0,zI 0,zI 0,zS] 55)).alloc (.cells #[zI 0,zI 0,zI 0,zI 0,zI 0,zI 0,zI 0] 33)) (w.heap.size) #[zI x.me,zI x.rv,zI x.nx,zI x.mo,zI x.bo,zI x.fr,.slice p len a] 55):=(((((Blk.new w _ _).alloc _).alloc _).alloc _).alloc _).alloc _;have E:Hid (Blk ((((((w.alloc (.cells #[zI x.me,zI x.rv,zI x.nx,zI x.mo,zI x.bo,zI x.fr,.slice p len a] 55)).alloc (.cells #[.slice i lt k,zI t.ff,zI t.fb,zI t.db,zI t.al] 24)).alloc (.cells #[zI f] 3)).alloc (.cells #[zI m] 3)).alloc (.cells #[zI 0,zI 0,zI 0,zI 0,zI 0,zI 0,zS] 55)).alloc (.cells #[zI 0,zI 0,zI 0,zI 0,zI 0,zI 0,zI 0] 33)) (w.heap.size+1) #[.slice i lt k,zI t.ff,zI t.fb,zI t.db,zI t.al] 24):=((((Blk.new1 w _ _ _).alloc _).alloc _).alloc _).alloc _;have B:Hid (Blk ((((((w.alloc (.cells #[zI x.me,zI x.rv,zI x.nx,zI x.mo,zI x.bo,zI x.fr,.slice p len a] 55)).alloc (.cells #[.slice i lt k,zI t.ff,zI t.fb,zI t.db,zI t.al] 24)).alloc (.cells #[zI f] 3)).alloc (.cells #[zI m] 3)).alloc (.cells #[zI 0,zI 0,zI 0,zI 0,zI 0,zI 0,zS] 55)).alloc (.cells #[zI 0,zI 0,zI 0,zI 0,zI 0,zI 0,zI 0] 33)) (w.heap.size+1+1) #[zI f] 3):=(((Blk.new2 w _ _ _ _).alloc _).alloc _).alloc _;have D:Hid (Blk ((((((w.alloc (.cells #[zI x.me,zI x.rv,zI x.nx,zI x.mo,zI x.bo,zI x.fr,.slice p len a] 55)).alloc (.cells #[.slice i lt k,zI t.ff,zI t.fb,zI t.db,zI t.al] 24)).alloc (.cells #[zI f] 3)).alloc (.cells #[zI m] 3)).alloc (.cells #[zI 0,zI 0,zI 0,zI 0,zI 0,zI 0,zS] 55)).alloc (.cells #[zI 0,zI 0,zI 0,zI 0,zI 0,zI 0,zI 0] 33)) (w.heap.size+1+1+1) #[zI m] 3):=((Blk.new3 w _ _ _ _ _).alloc _).alloc _
 have Q:Hid (Blk ((((((w.alloc (.cells #[zI x.me,zI x.rv,zI x.nx,zI x.mo,zI x.bo,zI x.fr,.slice p len a] 55)).alloc (.cells #[.slice i lt k,zI t.ff,zI t.fb,zI t.db,zI t.al] 24)).alloc (.cells #[zI f] 3)).alloc (.cells #[zI m] 3)).alloc (.cells #[zI 0,zI 0,zI 0,zI 0,zI 0,zI 0,zS] 55)).alloc (.cells #[zI 0,zI 0,zI 0,zI 0,zI 0,zI 0,zI 0] 33)) (w.heap.size+1+1+1+1) #[zI 0,zI 0,zI 0,zI 0,zI 0,zI 0,zS] 55):=(blk_new4 w _ _ _ _ _ _).alloc _;have C:Hid (Blk ((((((w.alloc (.cells #[zI x.me,zI x.rv,zI x.nx,zI x.mo,zI x.bo,zI x.fr,.slice p len a] 55)).alloc (.cells #[.slice i lt k,zI t.ff,zI t.fb,zI t.db,zI t.al] 24)).alloc (.cells #[zI f] 3)).alloc (.cells #[zI m] 3)).alloc (.cells #[zI 0,zI 0,zI 0,zI 0,zI 0,zI 0,zS] 55)).alloc (.cells #[zI 0,zI 0,zI 0,zI 0,zI 0,zI 0,zI 0] 33)) (w.heap.size+1+1+1+1+1) #[zI 0,zI 0,zI 0,zI 0,zI 0,zI 0,zI 0] 33):=blk_new5 w _ _ _ _ _ _ _;have n:Hid (zB w ((((((w.alloc (.cells #[zI x.me,zI x.rv,zI x.nx,zI x.mo,zI x.bo,zI x.fr,.slice p len a] 55)).alloc (.cells #[.slice i lt k,zI t.ff,zI t.fb,zI t.db,zI t.al] 24)).alloc (.cells #[zI f] 3)).alloc (.cells #[zI m] 3)).alloc (.cells #[zI 0,zI 0,zI 0,zI 0,zI 0,zI 0,zS] 55)).alloc (.cells #[zI 0,zI 0,zI 0,zI 0,zI 0,zI 0,zI 0] 33))):=((((((Below.refl w.heap.size w).alloc (by simp) _).alloc (by simp) _).alloc (by simp;omega) _).alloc (by simp;omega) _).alloc (by simp;omega) _).alloc (by simp;omega) _;have A:=zh (ha.ds.below n.o);have aw:=C.o.lt;generalize I:((((((w.alloc (.cells #[zI x.me,zI x.rv,zI x.nx,zI x.mo,zI x.bo,zI x.fr,.slice p len a] 55)).alloc (.cells #[.slice i lt k,zI t.ff,zI t.fb,zI t.db,zI t.al] 24)).alloc (.cells #[zI f] 3)).alloc (.cells #[zI m] 3)).alloc (.cells #[zI 0,zI 0,zI 0,zI 0,zI 0,zI 0,zS] 55)).alloc (.cells #[zI 0,zI 0,zI 0,zI 0,zI 0,zI 0,zI 0] 33))=j at *;have ac:=zh I;clear I;go_enter Tryz.func17,Tryz.ntmps17
 go_upto_region 1 with fail
 rw[ac.o];have af:Hid (∀W,zB j W→Blk W (w.heap.size+1) #[.slice i lt k,zI t.ff,zI t.fb,zI t.db,zI t.al] 24):=λW H=>E.o.next H;have ad:Hid (∀W,zB j W→Blk W (w.heap.size+1+1) #[zI f] 3):=λW H=>B.o.next H;have ae:Hid (∀W,zB j W→Blk W (w.heap.size+1+1+1) #[zI m] 3):=λW H=>D.o.next H;have G:=zh ht.ts;have a9:=zh n.o;have ag:=n.o.size
 have ab:Hid (zC 32 #[.agg #[zI x.me,zI x.rv,zI x.nx,zI x.mo,zI x.bo,zI x.fr,.slice p len a],.func (.func 33) #[] #[.pointer (some ⟨w.heap.size+1,0,none⟩),.pointer (some ⟨w.heap.size+1+1,0,none⟩),.pointer (some ⟨w.heap.size+1+1+1,0,none⟩)]] j λe w'=>BPost j (SellIs x t f m) e w'):=by
  refine pwork 33 #[.pointer (some ⟨w.heap.size+1,0,none⟩),.pointer (some ⟨w.heap.size+1+1,0,none⟩),.pointer (some ⟨w.heap.size+1+1+1,0,none⟩)] (SellIs x t f m) x p len a j A.o (λh=> .inl ⟨.inl ⟨h,rfl⟩,rfl,rfl⟩) (λ_ _=>by kernel_rfl) ?_;intro hm W g p' r M hg J ai
  have aa:deb.Fresh W (g+1) p' len r x.ds:=by
   obtain⟨a0,c0,hv,ah⟩:=deb.ld_fresh ai hm.1;injection hv with h1 h2 h3
   rw[h1,h2,h3];exact ah
  have K:Far i lt g:=λu y z=>by have:=came_lt G.o u y z;omega
  exact psell1 _ _ _ g x p' len r t i lt k f m W (af.o W M) (ad.o W M) (ae.o W M) J aa hm (G.o.below (a9.o.trans (M.mono ag))) ht.wf K
 clear ha ht;go_wp2_with refine zw ?_;refine ab.o.mono ?_;rintro e w1 ⟨b,l,O,N,L,fz,rfl,hi,hf,d⟩;obtain⟨S,X,T,V,ao⟩:=zn5 d P E B D Q;have U:=shN C d;have an:=zh (A.o.below d);have R:=shB n d;have am:=d.size;clear d;unfold Ac.v Ac.cs Bi.v;have s:=zh hf;have q:=zh (came_lt s.o.came);have HV:=zh hi;clear hf hi;go_wp2_with (first|refine zs ?_|refine zw ?_)
 intro W4 c;obtain⟨Z,a4,a1,a2,ap⟩:=zk5 c S X T V U;have a3:=zyb c;have F:Hid (deb.Fresh W4 j.heap.size O N L b.ds):=fresh_updN s.o c (λu y z=>by have f1:=s.o.new u y z;have f2:=q.o u y z;omega);have Y:=zk c R;have aj:=c.size;clear c;go_wp2_with (first|refine zs ?_|refine zw ?_)
 intro W5 c;obtain⟨aq,av,ar,au,a8⟩:=zk5 c Z a4 a1 a2 a3;have a7:=zyb c;have a6:Hid (deb.Fresh W5 j.heap.size O N L b.ds):=fresh_updN F.o c (λu y z=>by have f1:=F.o.new u y z;have f2:=q.o u y z;omega);have a5:=zk c Y;have ak:=c.size;clear c;go_wp2_with fail;exact zr (.tuple #[.agg #[zI b.me,zI b.rv,zI b.nx,zI b.mo,zI b.bo,zI b.fr,.slice O N L],.agg #[zI l.id,zI l.te,zI l.de,zI l.fe,zI l.pr,zI l.ch,zI l.un],zI fz]) (by simp[results,Tryz.results17,scl7 a8,scl7 a7,go_sem]) ⟨b,l,O,N,L,fz,rfl,HV.o,a6.o.low (by omega),a5.o⟩
theorem pgrant1(B0 B1 g:Nat)(x:Ac)(p:Option Addr)(len cap:Nat)(t:Tm)(pt:Option Addr)(lt ct:Nat)(m:Int)(w:World)(hB0:Blk w B0 #[.slice pt lt ct,zI t.ff,zI t.fb,zI t.db,zI t.al] 24)(hB1:Blk w B1 #[zI m] 3)(hw:Blk w g (wcs x bi0 p len cap) 132)(hd:deb.Fresh w (g+1) p len cap x.ds)(ha:AMay x)(ht:Came w pt lt ct t.ts)(hwf:wf4 t)(hfar:Far pt lt g):Calls Tryz.prog 61 #[.pointer (some ⟨g,0,none⟩),.pointer (some ⟨B0,0,none⟩),.pointer (some ⟨B1,0,none⟩)] w λe w'=>WPost w g (Or0 (GrantIs x t m)) e w':=by
 have a:Hid (zC 62 #[.pointer (some ⟨g,0,none⟩),.agg #[.slice pt lt ct,zI t.ff,zI t.fb,zI t.db,zI t.al],zI m] w λe w'=>WPost w g (Or0 (GrantIs x t m)) e w'):=(pgrant g x p len cap t pt lt ct m w hw hd ha ht hwf hfar).mono λe w' h=>h.w (Nat.le_of_lt hw.lt);have i:=zh hB0;have j:=zh hB1;have l:=hB1.cell 0;clear hw ha hd ht hwf hfar;go_enter Tryz.func61,Tryz.ntmps61;go_wp2_with refine zw ?_;refine a.o.mono ?_;rintro e r d;have k:=zh d;obtain⟨y,b,q,n,c,f,rfl,_⟩:=d;go_wp2_with fail;go_ret;exact k.o
theorem kgrant:KcGrant:=by
 intro w x p len n t H lt ct m ha ht hm;unfold Ac.v Ac.cs Tm.v;obtain⟨f,a4,I,z,u,K,J,d,aj⟩:=sh5 w #[zI x.me,zI x.rv,zI x.nx,zI x.mo,zI x.bo,zI x.fr,.slice p len n] 55 #[.slice H lt ct,zI t.ff,zI t.fb,zI t.db,zI t.al] 24 #[zI m] 3 #[zI 0,zI 0,zI 0,zI 0,zI 0,zI 0,zS] 55 #[zI 0,zI 0,zI 0,zI 0,zI 0,zI 0,zI 0] 33;have s:=zh (ha.ds.below d.o);go_enter Tryz.func30,Tryz.ntmps30;go_upto_region 1 with fail
 rw[a4.o];have a6:Hid (∀W,zB f W→Blk W (w.heap.size+1) #[.slice H lt ct,zI t.ff,zI t.fb,zI t.db,zI t.al] 24):=λW hW=>z.o.next hW;have a5:Hid (∀W,zB f W→Blk W (w.heap.size+1+1) #[zI m] 3):=λW hW=>u.o.next hW;have B:=zh ht.ts;have a1:=zh d.o;have a7:=d.o.size
 have a3:Hid (zC 32 #[.agg #[zI x.me,zI x.rv,zI x.nx,zI x.mo,zI x.bo,zI x.fr,.slice p len n],.func (.func 61) #[] #[.pointer (some ⟨w.heap.size+1,0,none⟩),.pointer (some ⟨w.heap.size+1+1,0,none⟩)]] f λe w'=>BPost f (GrantIs x t m) e w'):=by
  refine pwork 61 #[.pointer (some ⟨w.heap.size+1,0,none⟩),.pointer (some ⟨w.heap.size+1+1,0,none⟩)] (GrantIs x t m) x p len n f s.o (λh=> .inl ⟨.inl ⟨h,rfl⟩,rfl,rfl⟩) (λ_ _=>by kernel_rfl) ?_;intro hm W g p' j hB hg C a9
  have a2:deb.Fresh W (g+1) p' len j x.ds:=by
   obtain⟨a0,c0,hv,a8⟩:=deb.ld_fresh a9 hm.1;injection hv with h1 h2 h3
   rw[h1,h2,h3];exact a8
  have D:Far H lt g:=λq y r=>by have:=came_lt B.o q y r;omega
  exact pgrant1 _ _ g x p' len j t H lt ct m W (a6.o W hB) (a5.o W hB) C a2 hm (B.o.below (a1.o.trans (hB.mono a7))) ht.wf D
 clear ha ht;go_wp2_with refine zw ?_;refine a3.o.mono ?_;rintro e w1 ⟨b,l,G,F,E,fz,rfl,hi,hf,c⟩;obtain⟨M,P,O,ae,N⟩:=zn5 c I z u K J;have ad:=zh (s.o.below c);have L:=shB d c;have ac:=c.size;clear c;unfold Ac.v Ac.cs Bi.v;have k:=zh hf;have i:=zh (came_lt k.o.came);have HV:=zh hi;clear hf hi;go_wp2_with (first|refine zs ?_|refine zw ?_)
 intro W4 a;obtain⟨R,U,S,af⟩:=zk4 a M P O N;have T:=zyb a;have A:Hid (deb.Fresh W4 f.heap.size G F E b.ds):=fresh_updN k.o a (λq y r=>by have f1:=k.o.new q y r;have f2:=i.o q y r;omega);have Q:=zk a L;have aa:=a.size;clear a;go_wp2_with (first|refine zs ?_|refine zw ?_)
 intro W5 a;obtain⟨ag,ai,ah,Z⟩:=zk4 a R U S T;have Y:=zyb a;have X:Hid (deb.Fresh W5 f.heap.size G F E b.ds):=fresh_updN A.o a (λq y r=>by have f1:=A.o.new q y r;have f2:=i.o q y r;omega);have V:=zk a Q;have ab:=a.size;clear a;go_wp2_with fail;exact zr (.tuple #[.agg #[zI b.me,zI b.rv,zI b.nx,zI b.mo,zI b.bo,zI b.fr,.slice G F E],.agg #[zI l.id,zI l.te,zI l.de,zI l.fe,zI l.pr,zI l.ch,zI l.un],zI fz]) (by simp[results,Tryz.results30,scl7 Z,scl7 Y,go_sem]) ⟨b,l,G,F,E,fz,rfl,HV.o,X.o.low (by omega),V.o⟩
theorem open_may{m:Int}(h:0≤m∧m≤49):AMay ⟨m,0,1,0,0,-1,[]⟩:=by
 unfold AMay deb.Mays deb.DFits;simp;omega
theorem kopen:KcOpen:=by
 intro w m z;have p:Hid (∀W,zC 64 #[.agg #[zI m,zI 0,zI 1,zI 0,zI 0,zI (-1),zS]] W λe A=>MayPost W ⟨m,0,1,0,0,-1,[]⟩ e A):=λW=>pmay ⟨m,0,1,0,0,-1,[]⟩ none 0 0 W (deb.came_nil W);clear z;obtain⟨B,s,l,k,j,-⟩:=sh2 w #[zI 0,zI 0,zI 0,zI 0,zI 0,zI 0,zS] 55 #[zI m,zI 0,zI 1,zI 0,zI 0,zI (-1),zS] 55;go_enter Tryz.func181,Tryz.ntmps181;go_upto_region 2 with fail
 rw[s.o];go_wp2_with refine zw ?_;refine(p.o _).mono ?_;rintro e C ⟨r,rfl,i,c⟩;obtain⟨x,h⟩:=zn2 c l k;have g:=shB j c;have u:=c.size;clear c;cases r with
 |false=>
  have q:Hid (OpenIs m ac0 2):=.inr ⟨λy=>Bool.noConfusion (i.2 (open_may y)),rfl,rfl⟩;clear i;go_wp2_with (first|refine zs ?_|refine zw ?_)
  intro t b;have a:=zyb b;have n:=zk1 b h;have d:=zk b g;have f:=b.size;clear b;go_wp2_with fail;exact zr (.tuple #[.agg #[zI 0,zI 0,zI 0,zI 0,zI 0,zI 0,zS],zI 2]) (by simp[results,Tryz.results181,zy0 a,zy1 a,zy2 a,zy3 a,zy4 a,zy5 a,zy6 a,go_sem]) ⟨ac0,none,0,0,_,rfl,q.o,deb.fresh_nil _ _,d.o⟩
 |true=>
  have q:Hid (OpenIs m ⟨m,0,1,0,0,-1,[]⟩ 0):=.inl ⟨(i.1 rfl).2.1,rfl,rfl⟩;clear i;go_wp2_with (first|refine zs ?_|refine zw ?_)
  intro t b;have a:=zyb b;have n:=zk1 b h;have d:=zk b g;have f:=b.size;clear b;go_wp2_with fail;exact zr (.tuple #[.agg #[zI m,zI 0,zI 1,zI 0,zI 0,zI (-1),zS],zI 0]) (by simp[results,Tryz.results181,scl7 a,go_sem]) ⟨⟨m,0,1,0,0,-1,[]⟩,none,0,0,_,rfl,q.o,deb.fresh_nil _ _,d.o⟩
end acc
end Go.Proofs.YtoepgdhiepedeaaGreatDoor
