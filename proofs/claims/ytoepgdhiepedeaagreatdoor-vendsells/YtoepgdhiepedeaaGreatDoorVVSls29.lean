import Derived.Test.YtoepgdhiepedeaaGreatDoorVVSls20
import Derived.Test.YtoepgdhiepedeaaGreatDoorVVSls27
set_option linter.unusedVariables false
set_option linter.unusedSimpArgs false
set_option maxHeartbeats 4000000
set_option maxRecDepth 100000
namespace Go.Proofs.YtoepgdhiepedeaaGreatDoor
namespace words
open Go.RowKit
theorem run_putStep(args:Array Value)(w:World):(callFunc 184 args).run Tryz.prog w=.ok (.enter 184 args) w:=by kernel_rfl
theorem low32(s:Nat):((s:Nat):Int)%4294967296=((s%2^32:Nat):Int):=by omega
theorem putStep_abs(N At V:Nat)(x v n k M s r f g z y:Int)(w:World)(hn:w.cell? ⟨N,0,none⟩=some (zI n))(hat:w.cell? ⟨At,0,none⟩=some (zI k))(hf:w.frozen? ⟨At,0,none⟩=false)(hv:w.cell? ⟨V,0,none⟩=some (.int .u64 v))
  (HO:Hid (∀w,zC 159 #[zI n] w λe w'=>e=.returned (.int .u64 M)∧w'=w))
  (HS:Hid (∀w,zC 158 #[.int .u64 M,zI k] w λe w'=>e=.returned (.int .u64 s)∧w'=w))
  (HT:Hid (∀w,zC 158 #[.int .u64 v,zI k] w λe w'=>e=.returned (.int .u64 r)∧w'=w))
  (q1:s%4294967296=f) (q2:r%4294967296=g) (o1:bits .andNot .u32 x f=z) (o2:bits .or .u32 z g=y) (k0:-64≤k) (k1:k≤96):
  Calls Tryz.prog 184 #[.int .u32 x,.pointer (some ⟨N,0,none⟩),.pointer (some ⟨At,0,none⟩),.pointer (some ⟨V,0,none⟩)] w λe w'=>e=.returned (.int .u32 y)∧Acc w w' At (zI (k-32)):=by
 have a:Acc w w At (zI k):=Acc.refl hat hf;have b:Hid (Acc w w At (zI k)):=a;clear a;go_enter Tryz.func184,Tryz.ntmps184;go_wp2_with fail
 go_quiet (first
  |(go_at_call 159;exact(HO.o _).mono λ_ _ h=>⟨h.1,_,h.2⟩)
  |(go_at_call_of 158 (Value.int .u64 M);exact(HS.o _).mono λ_ _ h=>⟨h.1,_,h.2⟩)
  | (go_at_call_of 158 (Value.int .u64 v);exact (HT.o _).mono fun _ _ h=>⟨h.1,_,h.2⟩))
 go_wp2_with fail;go_ret;exact⟨rfl,(b.o.drewN _).set _⟩
theorem putStep_any(N At V:Nat)(x v n:Nat)(k:Int)(w:World)(hn:w.cell? ⟨N,0,none⟩=some (zI (n:Int)))(hat:w.cell? ⟨At,0,none⟩=some (zI k))(hf:w.frozen? ⟨At,0,none⟩=false)(hv:w.cell? ⟨V,0,none⟩=some (.int .u64 (v:Int)))
  (x1:x<2^32) (v1:v<2^64) (n0:1≤n) (n1:n≤64) (k0:-64≤k) (k1:k≤96):
  Calls Tryz.prog 184 #[.int .u32 (x:Int),.pointer (some ⟨N,0,none⟩),.pointer (some ⟨At,0,none⟩),.pointer (some ⟨V,0,none⟩)] w λe w'=>e=.returned (.int .u32 (putN x v n k:Nat))∧Acc w w' At (zI (k-32)):=by
 have a:sh (onesN n) k%2^32<2^32:=Nat.mod_lt _ (by decide);have b:sh v k%2^32<2^32:=Nat.mod_lt _ (by decide);have c:x &&& (2^32-1-sh (onesN n) k%2^32)<2^32:=Nat.lt_of_le_of_lt Nat.and_le_left x1
 exact putStep_abs N At V x v n k (onesN n:Nat) (sh (onesN n) k:Nat) (sh v k:Nat) _ _ _ _ w hn hat hf hv
  (λw=>ones_any n w n0 n1) (λw=>shift_any _ _ w (ones_lt n n1) (by omega) k1) (λw=>shift_any _ _ w v1 (by omega) k1)
  (low32 _) (low32 _) (andNot32 x _ x1 a) (or32 _ _ c b) k0 k1
theorem five(w:World)(cs:Array Value)(T1 T2 T3 T5:TypeId)(m v x y z u:Value)(q:Nat):
  (((((((w.alloc (.cells cs T1)).alloc (.cells #[m] T2)).alloc (.cells #[v] T3)).alloc (.cells #[x,y,z] 135)).drewN q).alloc (.cells #[u] T5)).cell? ⟨w.heap.size+1,0,none⟩=some m) ∧
  (((((((w.alloc (.cells cs T1)).alloc (.cells #[m] T2)).alloc (.cells #[v] T3)).alloc (.cells #[x,y,z] 135)).drewN q).alloc (.cells #[u] T5)).cell? ⟨w.heap.size+1+1,0,none⟩=some v) ∧
  Trio ((((((w.alloc (.cells cs T1)).alloc (.cells #[m] T2)).alloc (.cells #[v] T3)).alloc (.cells #[x,y,z] 135)).drewN q).alloc (.cells #[u] T5)) (w.heap.size+1+1+1) x y z ∧
  (((((((w.alloc (.cells cs T1)).alloc (.cells #[m] T2)).alloc (.cells #[v] T3)).alloc (.cells #[x,y,z] 135)).drewN q).alloc (.cells #[u] T5)).cell? ⟨w.heap.size+1+1+1+1,0,none⟩=some u) ∧
  (((((((w.alloc (.cells cs T1)).alloc (.cells #[m] T2)).alloc (.cells #[v] T3)).alloc (.cells #[x,y,z] 135)).drewN q).alloc (.cells #[u] T5)).frozen? ⟨w.heap.size+1+1+1+1,0,none⟩=false):=by
 have a:((((((w.alloc (.cells cs T1)).alloc (.cells #[m] T2)).alloc (.cells #[v] T3)).alloc (.cells #[x,y,z] 135)).drewN q).alloc (.cells #[u] T5)).heap=((((w.heap.push (.cells cs T1)).push (.cells #[m] T2)).push (.cells #[v] T3)).push (.cells #[x,y,z] 135)).push (.cells #[u] T5):=rfl;have f:w.heap.size+1=(w.heap.push (.cells cs T1)).size:=by simp
 have g:w.heap.size+1+1=((w.heap.push (.cells cs T1)).push (.cells #[m] T2)).size:=by simp
 have h:w.heap.size+1+1+1=(((w.heap.push (.cells cs T1)).push (.cells #[m] T2)).push (.cells #[v] T3)).size:=by simp
 have i:w.heap.size+1+1+1+1=((((w.heap.push (.cells cs T1)).push (.cells #[m] T2)).push (.cells #[v] T3)).push (.cells #[x,y,z] 135)).size:=by simp
 generalize ((((((w.alloc (.cells cs T1)).alloc (.cells #[m] T2)).alloc (.cells #[v] T3)).alloc (.cells #[x,y,z] 135)).drewN q).alloc (.cells #[u] T5))=W at *
 have c:W.heap[w.heap.size+1]?=some (.cells #[m] T2):=by
  rw[a,Array.getElem?_push,if_neg (by simp),Array.getElem?_push,if_neg (by simp),Array.getElem?_push,if_neg (by simp),f,Array.getElem?_push_size]
 have d:W.heap[w.heap.size+1+1]?=some (.cells #[v] T3):=by
  rw[a,Array.getElem?_push,if_neg (by simp),Array.getElem?_push,if_neg (by simp),g,Array.getElem?_push_size]
 have e:W.heap[w.heap.size+1+1+1]?=some (.cells #[x,y,z] 135):=by
  rw[a,Array.getElem?_push,if_neg (by simp),h,Array.getElem?_push_size]
 have b:W.heap[w.heap.size+1+1+1+1]?=some (.cells #[u] T5):=by
  rw[a,i,Array.getElem?_push_size]
 refine⟨?_,?_,e,?_,?_⟩
 ·simp only[World.cell?,c];rfl
 ·simp only[World.cell?,d];rfl
 ·simp only[World.cell?,b];rfl
 ·simp only[World.frozen?,b];rfl
theorem bel5(w:World)(o1 o2 o3 o4 o5:Obj)(q:Nat):zB w (((((w.alloc o1).alloc o2).alloc o3).alloc o4).drewN q |>.alloc o5):=
 (below_drewN (bel4 w o1 o2 o3 o4) q).alloc (by show _≤((((w.heap.push o1).push o2).push o3).push o4).size;simp;omega) _
theorem put_any(a b c v lo n:Nat)(w:World)(ha:a<2^32)(hb:b<2^32)(hc:c<2^32)(hv:v<2^n)(n0:1≤n)(n1:n≤64)(hl:lo+n≤96):
  Calls Tryz.prog 160 #[.agg #[.int .u32 (a:Int),.int .u32 (b:Int),.int .u32 (c:Int)],zI (lo:Int),zI (n:Int),.int .u64 (v:Int)] w λe w'=>
   e=.returned (.tuple #[.agg #[.int .u32 (putN a v n lo:Nat),.int .u32 (putN b v n ((lo:Int)-32):Nat),.int .u32 (putN c v n ((lo:Int)-64):Nat)],zI 0])∧zB w w':=by
 have q:v<2^64:=Nat.lt_of_lt_of_le hv (Nat.pow_le_pow_right (by decide) n1);have z:Hid (∀w,zC 157 #[zI (lo:Int),zI (n:Int)] w λe w'=>e=.returned (.bool true)∧w'=w):=λw=>isField_yes _ _ w (by omega) (by omega) (by omega) (by omega);have A:Hid (∀w,zC 159 #[zI (n:Int)] w λe w'=>e=.returned (.int .u64 (onesN n:Nat))∧w'=w):=λw=>ones_any n w n0 n1;have F:decide (((onesN n:Nat):Int)<(v:Int))=false:=decide_eq_false (by unfold onesN;omega);have m:(lo:Int)-32-32=(lo:Int)-64:=by omega
 generalize ((onesN n:Nat):Int)=M at *;rw[← m];go_enter Tryz.func160,Tryz.ntmps160;go_wp2_with fail
 go_quiet (first
  |(go_at_call 157;exact(z.o _).mono λ_ _ h=>⟨h.1,_,h.2⟩)
  | (go_at_call 159;exact (A.o _).mono fun _ _ h=>⟨h.1,_,h.2⟩))
 go_wp2_with fail;obtain⟨i,j,r,s,t⟩:=five w #[.int .u32 (a:Int),.int .u32 (b:Int),.int .u32 (c:Int)] 135 3 174 3 (zI (n:Int)) (.int .u64 (v:Int)) (.int .u32 0) (.int .u32 0) (.int .u32 0) (zI (lo:Int)) nq;have g:=bel5 w (.cells #[.int .u32 (a:Int),.int .u32 (b:Int),.int .u32 (c:Int)] 135) (.cells #[zI (n:Int)] 3) (.cells #[.int .u64 (v:Int)] 174) (.cells #[.int .u32 0,.int .u32 0,.int .u32 0] 135) (.cells #[zI (lo:Int)] 3) nq
 refine (upward_any 184 #[.pointer (some ⟨w.heap.size+1,0,none⟩),.pointer (some ⟨w.heap.size+1+1+1+1,0,none⟩),.pointer (some ⟨w.heap.size+1+1,0,none⟩)] (w.heap.size+1+1+1+1) (zI (lo:Int)) (zI ((lo:Int) - 32)) (zI ((lo:Int) - 32 - 32)) (zI ((lo:Int) - 32 - 32 - 32)) a b c
  (putN a v n lo:Nat) (putN b v n ((lo:Int)-32):Nat) (putN c v n ((lo:Int)-32-32):Nat) _ (Acc.refl s t) run_putStep
  (λw' h=>putStep_any _ _ _ _ _ _ _ w' (h.keep i (by omega)) h.cell h.free (h.keep j (by omega)) ha q n0 n1 (by omega) (by omega))
  (λw' h=>putStep_any _ _ _ _ _ _ _ w' (h.keep i (by omega)) h.cell h.free (h.keep j (by omega)) hb q n0 n1 (by omega) (by omega))
  (fun w' h=>putStep_any _ _ _ _ _ _ _ w' (h.keep i (by omega)) h.cell h.free (h.keep j (by omega)) hc q n0 n1 (by omega) (by omega))).mono ?_
 rintro e x ⟨u,p⟩;have d:=r.acc p (by omega);have y:Hid (zB w x):=p.below g (by omega);clear p i j r s t g;have f:Hid (e=.returned (.agg #[.int .u32 (putN a v n lo:Nat),.int .u32 (putN b v n ((lo:Int)-32):Nat),.int .u32 (putN c v n ((lo:Int)-32-32):Nat)])):=u;clear u;obtain⟨y0,h0⟩:∃y0:Int,y0=(putN a v n lo:Nat):=⟨_,rfl⟩
 obtain⟨y1,h1⟩:∃y1:Int,y1=(putN b v n ((lo:Int)-32):Nat):=⟨_,rfl⟩
 obtain⟨y2,h2⟩:∃y2:Int,y2=(putN c v n ((lo:Int)-32-32):Nat):=⟨_,rfl⟩
 have k:Hid (y0=(putN a v n lo:Nat)∧y1=(putN b v n ((lo:Int)-32):Nat)∧y2=(putN c v n ((lo:Int)-32-32):Nat)):=⟨h0,h1,h2⟩
 rw[← h0,← h1,← h2] at f;obtain rfl:=f.o;clear h0 h1 h2;have G:=d.c0;have H:=d.c1;have I:=d.c2;have C:=d.free 0;have D:=d.free 1;have E:=d.free 2;have B:Hid (Trio x (w.heap.size+1+1+1) (.int .u32 0) (.int .u32 0) (.int .u32 0)):=d;clear d;go_wp2_with fail;have l:=B.o.put (.int .u32 y0) (.int .u32 y1) (.int .u32 y2);refine bodyPost_ret (v:=.tuple #[.agg #[.int .u32 y0,.int .u32 y1,.int .u32 y2],zI 0]) (by simp[results,Tryz.results160,l.c0,l.c1,l.c2,go_sem]) rfl ⟨?_,?_⟩
 ·rw[k.o.1,k.o.2.1,k.o.2.2]
 ·exact below_put3 y.o _ _ _ _ (by omega)
end words
namespace token
open Go.RowKit
structure Rdy (w W:World) (c i a t:Int):Prop where
 below:zB w W
 b0:W.cell? ⟨w.heap.size,0,none⟩=some (zI c)
 b1:W.cell? ⟨w.heap.size,1,none⟩=some (zI i)
 b2:W.cell? ⟨w.heap.size,2,none⟩=some (zI a)
 b3:W.cell? ⟨w.heap.size,3,none⟩=some (zI t)
 i0:W.cell? ⟨w.heap.size+1,0,none⟩=some (zI 1)
 i1:W.cell? ⟨w.heap.size+1,1,none⟩=some (zI 1048575)
 t0:W.cell? ⟨w.heap.size+1+1,0,none⟩=some (zI 0)
 t1:W.cell? ⟨w.heap.size+1+1,1,none⟩=some (zI 65535)
theorem rdy_of(w:World)(c i a t:Int):Rdy w (((w.alloc (.cells #[zI c,zI i,zI a,zI t] 73)).alloc (.cells #[zI 1,zI 1048575] 238)).alloc (.cells #[zI 0,zI 65535] 238)) c i a t:=by
 have b:=((Blk.new w #[zI c,zI i,zI a,zI t] 73).alloc (.cells #[zI 1,zI 1048575] 238)).alloc (.cells #[zI 0,zI 65535] 238);have d:=(Blk.new1 w (.cells #[zI c,zI i,zI a,zI t] 73) #[zI 1,zI 1048575] 238).alloc (.cells #[zI 0,zI 65535] 238);have e:=Blk.new2 w (.cells #[zI c,zI i,zI a,zI t] 73) (.cells #[zI 1,zI 1048575] 238) #[zI 0,zI 65535] 238;exact⟨(((zb.alloc zc _).alloc (by simp) _).alloc (by simp;omega) _),b.cell 0,b.cell 1,b.cell 2,b.cell 3,d.cell 0,d.cell 1,e.cell 0,e.cell 1⟩
theorem flaw_class(c i a t:Int)(w:World)(h:c<0∨3<c):
  Calls Tryz.prog 111 #[.agg #[zI c,zI i,zI a,zI t]] w λe w'=>e=.returned (zI 9)∧zB w w':=by
 have b:zB w (w.alloc (.cells #[zI c,zI i,zI a,zI t] 73)):=zb.alloc zc _;by_cases d:c<0
 ·clear h;go_enter Tryz.func111,Tryz.ntmps111;go_wp2;go_ret;exact⟨rfl,b⟩
 ·have f:0≤c:=by omega
  have g:4≤c:=by omega
  clear h;go_enter Tryz.func111,Tryz.ntmps111;go_wp2;go_ret;exact⟨rfl,b⟩
theorem flaw_in(c:Nat)(lo hi i a t:Int)(w:World)(hc:c<4)(g0:w.cell? ⟨0,c*2,none⟩=some (zI lo))(g1:w.cell? ⟨0,c*2+1,none⟩=some (zI hi)):
  Calls Tryz.prog 111 #[.agg #[zI (c:Int),zI i,zI a,zI t]] w λe w'=>e=.returned (zI (if hasI 1 1048575 i&&(hasI lo hi a&&hasI 0 65535 t) then 0 else 2))∧zB w w':=by
 have d:Hid (Rdy w (((w.alloc (.cells #[zI (c:Int),zI i,zI a,zI t] 73)).alloc (.cells #[zI 1,zI 1048575] 238)).alloc (.cells #[zI 0,zI 65535] 238)) c i a t):=rdy_of w c i a t;have g:=d.o.below.cell (World.block_lt_of_cell? w _ g0);rw[g0] at g;have h:=d.o.below.cell (World.block_lt_of_cell? w _ g1);rw[g1] at h;have n:Hid (∀W,zC 156 #[.agg #[zI 1,zI 1048575],zI i] W λe w'=>e=.returned (.bool (hasI 1 1048575 i))∧zB W w'):=λW=>has_any _ _ _ W;have p:Hid (∀W,zC 156 #[.agg #[zI lo,zI hi],zI a] W λe w'=>e=.returned (.bool (hasI lo hi a))∧zB W w'):=λW=>has_any _ _ _ W;have D:Hid (∀W,zC 156 #[.agg #[zI 0,zI 65535],zI t] W λe w'=>e=.returned (.bool (hasI 0 65535 t))∧zB W w'):=λW=>has_any _ _ _ W;clear g0 g1;have c0:¬ (c:Int)<0:=by omega
 have c1:¬ 4≤(c:Int):=by omega
 have c2:(c:Int)<4:=by omega
 generalize hasI 1 1048575 i=F at *;generalize hasI lo hi a=E at *;generalize hasI 0 65535 t=G at *;cases F with
 |false=>
  go_enter Tryz.func111,Tryz.ntmps111;go_wp2_with fail;generalize (((w.alloc (.cells #[zI (c:Int),zI i,zI a,zI t] 73)).alloc (.cells #[zI 1,zI 1048575] 238)).alloc (.cells #[zI 0,zI 65535] 238))=W at *;have q:=cell_regrown d.o.b0;have r:=cell_regrown d.o.b1;have s:=cell_regrown d.o.b2;have u:=cell_regrown d.o.b3;have x:=cell_regrown d.o.i0;have y:=cell_regrown d.o.i1;have z:=cell_regrown d.o.t0;have A:=cell_regrown d.o.t1;have B:=cell_regrown g;have C:=cell_regrown h;have l:Hid (zB w W):=d.o.below;clear g h;refine wq_below (by kernel_rfl) (by kernel_rfl) ?_
  iterate 3 (refine wq_step (λK b=>?_);go_simp;refine b _ ?_;clear b K)
  refine wq_step (λK b=>?_);go_simp;apply Exists.intro;refine⟨λ_=>?_,b _ ?_⟩;exact Calls.regrown_of (n.o _);clear b K
  iterate 2 (refine wq_step (λK b=>?_);go_simp;refine b _ ?_;clear b K)
  iterate 8 (refine wq_skip (by kernel_rfl) ?_;simp only[Act.put,zq])
  iterate 2 (refine wq_step (λK b=>?_);go_simp;refine b _ ?_;clear b K)
  iterate 5 (refine wq_skip (by kernel_rfl) ?_;simp only[Act.put,zq])
  iterate 1 (refine wq_step (λK b=>?_);go_simp;refine b _ ?_;clear b K)
  refine wq_nil ?_;intro _ j;obtain⟨⟨m,k⟩,f⟩:=j;subst f;go_wp2_with fail;go_ret;exact⟨rfl,l.o.trans ((below_regrown W m k).mono l.o.size)⟩
 |true=>
  cases E with
  |false=>
   go_enter Tryz.func111,Tryz.ntmps111;go_wp2_with fail;generalize (((w.alloc (.cells #[zI (c:Int),zI i,zI a,zI t] 73)).alloc (.cells #[zI 1,zI 1048575] 238)).alloc (.cells #[zI 0,zI 65535] 238))=W at *;have q:=cell_regrown d.o.b0;have r:=cell_regrown d.o.b1;have s:=cell_regrown d.o.b2;have u:=cell_regrown d.o.b3;have x:=cell_regrown d.o.i0;have y:=cell_regrown d.o.i1;have z:=cell_regrown d.o.t0;have A:=cell_regrown d.o.t1;have B:=cell_regrown g;have C:=cell_regrown h;have l:Hid (zB w W):=d.o.below;clear g h;refine wq_below (by kernel_rfl) (by kernel_rfl) ?_
   iterate 3 (refine wq_step (λK b=>?_);go_simp;refine b _ ?_;clear b K)
   refine wq_step (λK b=>?_);go_simp;apply Exists.intro;refine⟨λ_=>?_,b _ ?_⟩;exact Calls.regrown_of (n.o _);clear b K
   iterate 8 (refine wq_step (λK b=>?_);go_simp;refine b _ ?_;clear b K)
   refine wq_step (λK b=>?_);go_simp;apply Exists.intro;refine⟨λ_=>?_,b _ ?_⟩;exact Calls.regrown_of (p.o _);clear b K
   iterate 3 (refine wq_step (λK b=>?_);go_simp;refine b _ ?_;clear b K)
   iterate 5 (refine wq_skip (by kernel_rfl) ?_;simp only[Act.put,zq])
   iterate 1 (refine wq_step (λK b=>?_);go_simp;refine b _ ?_;clear b K)
   refine wq_nil ?_;intro _ j;obtain⟨⟨m,k⟩,f⟩:=j;subst f;go_wp2_with fail;go_ret;exact⟨rfl,l.o.trans ((below_regrown W m k).mono l.o.size)⟩
  |true=>
   cases G with
   |false=>
    go_enter Tryz.func111,Tryz.ntmps111;go_wp2_with fail;generalize (((w.alloc (.cells #[zI (c:Int),zI i,zI a,zI t] 73)).alloc (.cells #[zI 1,zI 1048575] 238)).alloc (.cells #[zI 0,zI 65535] 238))=W at *;have q:=cell_regrown d.o.b0;have r:=cell_regrown d.o.b1;have s:=cell_regrown d.o.b2;have u:=cell_regrown d.o.b3;have x:=cell_regrown d.o.i0;have y:=cell_regrown d.o.i1;have z:=cell_regrown d.o.t0;have A:=cell_regrown d.o.t1;have B:=cell_regrown g;have C:=cell_regrown h;have l:Hid (zB w W):=d.o.below;clear g h;refine wq_below (by kernel_rfl) (by kernel_rfl) ?_
    iterate 3 (refine wq_step (λK b=>?_);go_simp;refine b _ ?_;clear b K)
    refine wq_step (λK b=>?_);go_simp;apply Exists.intro;refine⟨λ_=>?_,b _ ?_⟩;exact Calls.regrown_of (n.o _);clear b K
    iterate 8 (refine wq_step (λK b=>?_);go_simp;refine b _ ?_;clear b K)
    refine wq_step (λK b=>?_);go_simp;apply Exists.intro;refine⟨λ_=>?_,b _ ?_⟩;exact Calls.regrown_of (p.o _);clear b K
    iterate 6 (refine wq_step (λK b=>?_);go_simp;refine b _ ?_;clear b K)
    refine wq_step (λK b=>?_);go_simp;apply Exists.intro;refine⟨λ_=>?_,b _ ?_⟩;exact Calls.regrown_of (D.o _);clear b K
    iterate 2 (refine wq_step (λK b=>?_);go_simp;refine b _ ?_;clear b K)
    refine wq_nil ?_;intro _ j;obtain⟨⟨m,k⟩,f⟩:=j;subst f;go_wp2_with fail;go_ret;exact⟨rfl,l.o.trans ((below_regrown W m k).mono l.o.size)⟩
   |true=>
    go_enter Tryz.func111,Tryz.ntmps111;go_wp2_with fail;generalize (((w.alloc (.cells #[zI (c:Int),zI i,zI a,zI t] 73)).alloc (.cells #[zI 1,zI 1048575] 238)).alloc (.cells #[zI 0,zI 65535] 238))=W at *;have q:=cell_regrown d.o.b0;have r:=cell_regrown d.o.b1;have s:=cell_regrown d.o.b2;have u:=cell_regrown d.o.b3;have x:=cell_regrown d.o.i0;have y:=cell_regrown d.o.i1;have z:=cell_regrown d.o.t0;have A:=cell_regrown d.o.t1;have B:=cell_regrown g;have C:=cell_regrown h;have l:Hid (zB w W):=d.o.below;clear g h;refine wq_below (by kernel_rfl) (by kernel_rfl) ?_
    iterate 3 (refine wq_step (λK b=>?_);go_simp;refine b _ ?_;clear b K)
    refine wq_step (λK b=>?_);go_simp;apply Exists.intro;refine⟨λ_=>?_,b _ ?_⟩;exact Calls.regrown_of (n.o _);clear b K
    iterate 8 (refine wq_step (λK b=>?_);go_simp;refine b _ ?_;clear b K)
    refine wq_step (λK b=>?_);go_simp;apply Exists.intro;refine⟨λ_=>?_,b _ ?_⟩;exact Calls.regrown_of (p.o _);clear b K
    iterate 6 (refine wq_step (λK b=>?_);go_simp;refine b _ ?_;clear b K)
    refine wq_step (λK b=>?_);go_simp;apply Exists.intro;refine⟨λ_=>?_,b _ ?_⟩;exact Calls.regrown_of (D.o _);clear b K
    iterate 2 (refine wq_step (λK b=>?_);go_simp;refine b _ ?_;clear b K)
    refine wq_nil ?_;intro _ j;obtain⟨⟨m,k⟩,f⟩:=j;subst f;go_wp2_with fail;go_ret;exact⟨rfl,l.o.trans ((below_regrown W m k).mono l.o.size)⟩
theorem flaw_any(c i a t:Int)(w:World)(ht:TTab w):
  Calls Tryz.prog 111 #[.agg #[zI c,zI i,zI a,zI t]] w λe w'=>e=.returned (zI (flawT c i a t))∧zB w w':=by
 by_cases h:c<0∨3<c
 ·rw[flawT_class h];exact flaw_class c i a t w h
 ·have b:=ht.amounts.cell;rw[flawT_in h];rcases (by omega:c=0∨c=1∨c=2∨c=3) with rfl|rfl|rfl|rfl
  ·exact flaw_in 0 1 2097151 i a t w (by omega) b.1 b.2.1
  ·exact flaw_in 1 0 0 i a t w (by omega) b.2.2.1 b.2.2.2.1
  ·exact flaw_in 2 1 15 i a t w (by omega) b.2.2.2.2.1 b.2.2.2.2.2.1
  ·exact flaw_in 3 0 0 i a t w (by omega) b.2.2.2.2.2.2.1 b.2.2.2.2.2.2.2
end token
namespace book
open Go.RowKit
theorem bkind(kd me mo id te de fe pr ch un tg ow bp:Int)(w:World):Calls Tryz.prog 162 #[.agg #[zI kd,zI me,zI mo,zI id,zI te,zI de,zI fe,zI pr,zI ch,zI un,zI tg,zI ow,zI bp]] w λe w'=>YN w (KindR ⟨kd,me,mo,id,te,de,fe,pr,ch,un,tg,ow,bp⟩) e w':=by
 obtain⟨x,V,E,A,-⟩:=sh1 w #[zI kd,zI me,zI mo,zI id,zI te,zI de,zI fe,zI pr,zI ch,zI un,zI tg,zI ow,zI bp] 44;go_enter Tryz.func162,Tryz.ntmps162;go_upto_region 1 with fail
 rw[V.o];obtain⟨c0,c1,c2,k,l,m,n,p,r,s,a,b,c⟩:=scl13 E;by_cases F:kd=1
 case pos=>
  have q1:(kd==1)=true:=by simpa using F
  have i:=zh F;clear F;go_wp2_with fail;go_ret;exact YN.yes (Or.inl i.o) A.o
 have q1:(kd==1)=false:=by simpa using F
 by_cases I:kd=2
 case pos=>
  have q2:(kd==2)=true:=by simpa using I
  have i:=zh I;clear F I;have d:Hid (zC 161 #[zI 0,zI 2399,.slice (some ⟨x.heap.size,0,none⟩) 1 1] (x.alloc (.cells #[zI mo] 3)) λe w'=>e=.returned (.bool (decide (0≤mo∧mo≤2399)))∧w'=(x.alloc (.cells #[zI mo] 3))):=bki.within_one 0 2399 mo x _ rfl;have g:=zyf A (.cells #[zI mo] 3);have j:=zya E (.cells #[zI mo] 3);by_cases z:0≤mo∧mo≤2399
  case neg=>
   rw[decide_eq_false z] at d;go_wp2_with fail;refine d.o.mono ?_;rintro e W ⟨rfl,y⟩;subst y;go_wp2_with fail;go_ret;exact YN.no (λq=>(λq=>z q.1) ((kind_2 (v:=⟨kd,me,mo,id,te,de,fe,pr,ch,un,tg,ow,bp⟩) i.o).1 q)) g.o
  rw[decide_eq_true z] at d;go_wp2_with fail;refine d.o.mono ?_;rintro e W ⟨rfl,y⟩;subst y;clear c0 c1 c2 k l m n p r s a b c;generalize (x.alloc (.cells #[zI mo] 3))=J at *;obtain⟨c0,c1,c2,k,l,m,n,p,r,s,a,b,c⟩:=scl13 j;have L:Hid (∀W,zC 185 #[.agg #[zI kd,zI me,zI mo,zI id,zI te,zI de,zI fe,zI pr,zI ch,zI un,zI tg,zI ow,zI bp]] W λe w'=>YN W (Numd id tg) e w'):=λW=>bnum kd me mo id te de fe pr ch un tg ow bp W;go_wp2_with fail;refine(L.o _).mono ?_;rintro e Y ⟨B,rfl,f,h⟩;have t:=shB g h;have u:=shN j h;clear h;clear c0 c1 c2 k l m n p r s a b c;obtain⟨c0,c1,c2,k,l,m,n,p,r,s,a,b,c⟩:=scl13 u;cases B
  case false=>
   have D:Hid (¬ (Numd id tg)):=λq=>absurd (f.2 q) (by decide);clear f;go_wp2_with fail;go_ret;exact YN.no (λq=>(λq=>D.o q.2.1) ((kind_2 (v:=⟨kd,me,mo,id,te,de,fe,pr,ch,un,tg,ow,bp⟩) i.o).1 q)) t.o
  have P:Hid (Numd id tg):=f.1 rfl;clear f;have M:Hid (∀W,zC 186 #[.agg #[zI kd,zI me,zI mo,zI id,zI te,zI de,zI fe,zI pr,zI ch,zI un,zI tg,zI ow,zI bp]] W λe w'=>YN W (Unt un) e w'):=λW=>bunt kd me mo id te de fe pr ch un tg ow bp W;go_wp2_with fail;refine(M.o _).mono ?_;rintro e W3 ⟨B,rfl,f,h⟩;have C:=shB t h;have H:=shN u h;clear h;clear c0 c1 c2 k l m n p r s a b c;obtain⟨c0,c1,c2,k,l,m,n,p,r,s,a,b,c⟩:=scl13 H;cases B
  case false=>
   have D:Hid (¬ (Unt un)):=λq=>absurd (f.2 q) (by decide);clear f;go_wp2_with fail;go_ret;exact YN.no (λq=>(λq=>D.o q.2.2.1) ((kind_2 (v:=⟨kd,me,mo,id,te,de,fe,pr,ch,un,tg,ow,bp⟩) i.o).1 q)) C.o
  have S:Hid (Unt un):=f.1 rfl;clear f;have U:Hid (∀W,zC 187 #[.agg #[zI id,zI te,zI de,zI fe,zI pr,zI ch,zI un]] W λe w'=>YN W (Mony te de fe pr ch) e w'):=λW=>bmony id te de fe pr ch un W;go_wp2_with fail;refine(U.o _).mono ?_;rintro e W4 ⟨B,rfl,f,h⟩;have Q:=shB C h;have X:=shN H h;clear h;clear c0 c1 c2 k l m n p r s a b c;obtain⟨c0,c1,c2,k,l,m,n,p,r,s,a,b,c⟩:=scl13 X;cases B
  case false=>
   have D:Hid (¬ (Mony te de fe pr ch)):=λq=>absurd (f.2 q) (by decide);clear f;go_wp2_with fail;go_ret;exact YN.no (λq=>(λq=>D.o q.2.2.2) ((kind_2 (v:=⟨kd,me,mo,id,te,de,fe,pr,ch,un,tg,ow,bp⟩) i.o).1 q)) Q.o
  have Z:Hid (Mony te de fe pr ch):=f.1 rfl;clear f;go_wp2_with fail;go_ret;exact YN.yes ((kind_2 (v:=⟨kd,me,mo,id,te,de,fe,pr,ch,un,tg,ow,bp⟩) i.o).2 ⟨z,P.o,S.o,Z.o⟩) Q.o
 have q2:(kd==2)=false:=by simpa using I
 by_cases K:kd=3
 case pos=>
  have q3:(kd==3)=true:=by simpa using K
  have i:=zh K;clear F I K;have d:Hid (zC 161 #[zI 0,zI 2399,.slice (some ⟨x.heap.size,0,none⟩) 1 1] (x.alloc (.cells #[zI mo] 3)) λe w'=>e=.returned (.bool (decide (0≤mo∧mo≤2399)))∧w'=(x.alloc (.cells #[zI mo] 3))):=bki.within_one 0 2399 mo x _ rfl;have g:=zyf A (.cells #[zI mo] 3);have j:=zya E (.cells #[zI mo] 3);by_cases z:0≤mo∧mo≤2399
  case neg=>
   rw[decide_eq_false z] at d;go_wp2_with fail;refine d.o.mono ?_;rintro e W ⟨rfl,y⟩;subst y;go_wp2_with fail;go_ret;exact YN.no (λq=>(λq=>z q.1) ((kind_3 (v:=⟨kd,me,mo,id,te,de,fe,pr,ch,un,tg,ow,bp⟩) i.o).1 q)) g.o
  rw[decide_eq_true z] at d;go_wp2_with fail;refine d.o.mono ?_;rintro e W ⟨rfl,y⟩;subst y;clear c0 c1 c2 k l m n p r s a b c;generalize (x.alloc (.cells #[zI mo] 3))=J at *;obtain⟨c0,c1,c2,k,l,m,n,p,r,s,a,b,c⟩:=scl13 j;have L:Hid (∀W,zC 185 #[.agg #[zI kd,zI me,zI mo,zI id,zI te,zI de,zI fe,zI pr,zI ch,zI un,zI tg,zI ow,zI bp]] W λe w'=>YN W (Numd id tg) e w'):=λW=>bnum kd me mo id te de fe pr ch un tg ow bp W;go_wp2_with fail;refine(L.o _).mono ?_;rintro e Y ⟨B,rfl,f,h⟩;have t:=shB g h;have u:=shN j h;clear h;clear c0 c1 c2 k l m n p r s a b c;obtain⟨c0,c1,c2,k,l,m,n,p,r,s,a,b,c⟩:=scl13 u;cases B
  case false=>
   have D:Hid (¬ (Numd id tg)):=λq=>absurd (f.2 q) (by decide);clear f;go_wp2_with fail;go_ret;exact YN.no (λq=>(λq=>D.o q.2.1) ((kind_3 (v:=⟨kd,me,mo,id,te,de,fe,pr,ch,un,tg,ow,bp⟩) i.o).1 q)) t.o
  have P:Hid (Numd id tg):=f.1 rfl;clear f;have M:Hid (∀W,zC 186 #[.agg #[zI kd,zI me,zI mo,zI id,zI te,zI de,zI fe,zI pr,zI ch,zI un,zI tg,zI ow,zI bp]] W λe w'=>YN W (Unt un) e w'):=λW=>bunt kd me mo id te de fe pr ch un tg ow bp W;go_wp2_with fail;refine(M.o _).mono ?_;rintro e W3 ⟨B,rfl,f,h⟩;have C:=shB t h;have H:=shN u h;clear h;clear c0 c1 c2 k l m n p r s a b c;obtain⟨c0,c1,c2,k,l,m,n,p,r,s,a,b,c⟩:=scl13 H;cases B
  case false=>
   have D:Hid (¬ (Unt un)):=λq=>absurd (f.2 q) (by decide);clear f;go_wp2_with fail;go_ret;exact YN.no (λq=>(λq=>D.o q.2.2) ((kind_3 (v:=⟨kd,me,mo,id,te,de,fe,pr,ch,un,tg,ow,bp⟩) i.o).1 q)) C.o
  have S:Hid (Unt un):=f.1 rfl;clear f;go_wp2_with fail;go_ret;exact YN.yes ((kind_3 (v:=⟨kd,me,mo,id,te,de,fe,pr,ch,un,tg,ow,bp⟩) i.o).2 ⟨z,P.o,S.o⟩) C.o
 have q3:(kd==3)=false:=by simpa using K
 by_cases N:kd=4
 case pos=>
  have q4:(kd==4)=true:=by simpa using N
  have i:=zh N;clear F I K N;have T:Hid (∀W,zC 185 #[.agg #[zI kd,zI me,zI mo,zI id,zI te,zI de,zI fe,zI pr,zI ch,zI un,zI tg,zI ow,zI bp]] W λe w'=>YN W (Numd id tg) e w'):=λW=>bnum kd me mo id te de fe pr ch un tg ow bp W;go_wp2_with fail;refine(T.o _).mono ?_;rintro e J ⟨B,rfl,f,h⟩;have g:=shB A h;have j:=shN E h;clear h;clear c0 c1 c2 k l m n p r s a b c;obtain⟨c0,c1,c2,k,l,m,n,p,r,s,a,b,c⟩:=scl13 j;cases B
  case false=>
   have D:Hid (¬ (Numd id tg)):=λq=>absurd (f.2 q) (by decide);clear f;go_wp2_with fail;go_ret;exact YN.no (λq=>(λq=>D.o q) ((kind_4 (v:=⟨kd,me,mo,id,te,de,fe,pr,ch,un,tg,ow,bp⟩) i.o).1 q)) g.o
  have P:Hid (Numd id tg):=f.1 rfl;clear f;go_wp2_with fail;go_ret;exact YN.yes ((kind_4 (v:=⟨kd,me,mo,id,te,de,fe,pr,ch,un,tg,ow,bp⟩) i.o).2 P.o) g.o
 have q4:(kd==4)=false:=by simpa using N
 by_cases O:kd=5
 case pos=>
  have q5:(kd==5)=true:=by simpa using O
  have i:=zh O;clear F I K N O;have d:Hid (zC 161 #[zI 1,zI 1000000000,.slice (some ⟨x.heap.size,0,none⟩) 1 1] (x.alloc (.cells #[zI ow] 3)) λe w'=>e=.returned (.bool (decide (1≤ow∧ow≤1000000000)))∧w'=(x.alloc (.cells #[zI ow] 3))):=bki.within_one 1 1000000000 ow x _ rfl;have g:=zyf A (.cells #[zI ow] 3);have j:=zya E (.cells #[zI ow] 3);by_cases z:1≤ow∧ow≤1000000000
  case neg=>
   rw[decide_eq_false z] at d;go_wp2_with fail;refine d.o.mono ?_;rintro e W ⟨rfl,y⟩;subst y;go_wp2_with fail;go_ret;exact YN.no (λq=>(λq=>z q.1) ((kind_5 (v:=⟨kd,me,mo,id,te,de,fe,pr,ch,un,tg,ow,bp⟩) i.o).1 q)) g.o
  rw[decide_eq_true z] at d;go_wp2_with fail;refine d.o.mono ?_;rintro e W ⟨rfl,y⟩;subst y;clear c0 c1 c2 k l m n p r s a b c;generalize (x.alloc (.cells #[zI ow] 3))=J at *;obtain⟨c0,c1,c2,k,l,m,n,p,r,s,a,b,c⟩:=scl13 j;have G:Hid (zC 161 #[zI 0,zI 10000,.slice (some ⟨J.heap.size,0,none⟩) 1 1] (J.alloc (.cells #[zI bp] 3)) λe w'=>e=.returned (.bool (decide (0≤bp∧bp≤10000)))∧w'=(J.alloc (.cells #[zI bp] 3))):=bki.within_one 0 10000 bp J _ rfl;have t:=zyf g (.cells #[zI bp] 3);have u:=zya j (.cells #[zI bp] 3);by_cases R:0≤bp∧bp≤10000
  case neg=>
   rw[decide_eq_false R] at G;go_wp2_with fail;refine G.o.mono ?_;rintro e W ⟨rfl,y⟩;subst y;go_wp2_with fail;go_ret;exact YN.no (λq=>(λq=>R q.2) ((kind_5 (v:=⟨kd,me,mo,id,te,de,fe,pr,ch,un,tg,ow,bp⟩) i.o).1 q)) t.o
  rw[decide_eq_true R] at G;go_wp2_with fail;refine G.o.mono ?_;rintro e W ⟨rfl,y⟩;subst y;clear c0 c1 c2 k l m n p r s a b c;generalize (J.alloc (.cells #[zI bp] 3))=Y at *;obtain⟨c0,c1,c2,k,l,m,n,p,r,s,a,b,c⟩:=scl13 u;go_wp2_with fail;go_ret;exact YN.yes ((kind_5 (v:=⟨kd,me,mo,id,te,de,fe,pr,ch,un,tg,ow,bp⟩) i.o).2 ⟨z,R⟩) t.o
 have q5:(kd==5)=false:=by simpa using O
 have i:Hid (¬ KindR ⟨kd,me,mo,id,te,de,fe,pr,ch,un,tg,ow,bp⟩):=λq=>by
  rcases q with q|q|q|q|q
  ·exact F q
  ·exact I q.1
  ·exact K q.1
  ·exact N q.1
  ·exact O q.1
 clear F I K N O;go_wp2_with fail;go_ret;exact YN.no i.o A.o
end book
namespace words
open Go.RowKit
def hf(f:Nat→Nat)(i n:Nat):Nat:=nf (λj=>f (i+j)) (n-i)
theorem hf_zero(f:Nat→Nat)(n:Nat):hf f 0 n=nf f n:=by
 unfold hf;exact nf_congr λj _=>by rw[Nat.zero_add]
theorem hf_top(f:Nat→Nat)(n:Nat):hf f n n=0:=by unfold hf;rw[Nat.sub_self];rfl
theorem hf_step(f:Nat→Nat){i n:Nat}(h:i<n):hf f i n=f i+4294967296*hf f (i+1) n:=by
 unfold hf;rw[show n-i=(n-(i+1))+1 by omega,nf_cons]
 congr 2
 exact nf_congr λj _=>by rw[show i+(j+1)=i+1+j by omega]
theorem hf_congr{f g:Nat→Nat}{i n:Nat}(h:∀j,i≤j→f j=g j):hf f i n=hf g i n:=by
 unfold hf;exact nf_congr λj _=>h _ (by omega)
theorem small_step{Q A r d x:Nat}(h:Q*d+r=A):((r*4294967296+x)/d+4294967296*Q)*d+(r*4294967296+x)%d=x+4294967296*A:=by
 have e:=Nat.div_add_mod (r*4294967296+x) d;have a:(r*4294967296+x)/d*d=d*((r*4294967296+x)/d):=Nat.mul_comm _ _;rw[Nat.add_mul,← h,Nat.mul_add,← Nat.mul_assoc 4294967296 Q d];omega
theorem small_fin{Q r d m:Nat}(h:Q*d+r=m)(hr:r<d):Q=m/d∧r=m%d:=by
 have a:m/d=Q:=by
  rw[← h,Nat.mul_comm,Nat.mul_add_div (by omega),Nat.div_eq_of_lt hr,Nat.add_zero]
 have b:m%d=r:=by
  rw[← h,Nat.mul_comm,Nat.mul_add_mod,Nat.mod_eq_of_lt hr]
 exact⟨a.symm,b.symm⟩
def TrimAt(w:World)(a:Option Addr)(cap m:Nat)(e:Ending)(w':World):Prop:=w'=w∧∃k,e=.returned (.slice a k cap)∧Ru w a k cap (dig m)
theorem trim_at(a:Option Addr)(n cap:Nat)(l:List Nat)(w:World)(h:Ru w a n cap l)(hn:n≤1000):
  Calls Tryz.prog 176 #[.slice a n cap] w λe w'=>TrimAt w a cap (nv l) e w':=by
 have d:Hid (Ru w a n cap l):=h;clear h;go_enter Tryz.func176,Tryz.ntmps176;go_wp2_with fail;go_loop [3] (λv=>∃k:Nat,k≤n∧v=zI k∧∀i,k≤i→i<n→l.getD i 0=0) (λv=>(intOf v).toNat)
 case atStart=>exact⟨n,zc,rfl,λi q m=>by omega⟩
 case round=>
  obtain⟨k,t,rfl,D⟩:=hrel;have B:Hid (∀i,k≤i→i<n→l.getD i 0=0):=D;clear D
  have j:(k=0∨l.getD (k-1) 0≠0)→TrimAt w a cap (nv l) (.returned (.slice a k cap)) w:=λI=>by
   have e:=trim_dig l k d.o.lt (by rw[d.o.len];exact t) (λi q m=>B.o i q (by rw[d.o.len] at m;exact m)) I;refine⟨rfl,k,rfl,?_⟩;rw[← e];refine⟨by rw[List.length_take,d.o.len];omega,λx K=>d.o.lt x (List.mem_of_mem_take K),d.o.nil,Nat.le_trans t d.o.room,?_,λb f s e hn=>d.o.typ b f s e (by omega)⟩;rcases d.o.cell with L|⟨b,f,rfl,p⟩
   ·exact .inl (by omega)
   ·refine .inr ⟨b,f,rfl,λi J=>?_⟩;rw[p i (by omega)]
    congr 3
    simp[List.getD,J]
  have A:Hid ((k=0∨l.getD (k-1) 0≠0)→TrimAt w a cap (nv l) (.returned (.slice a k cap)) w):=j;have z:=slice_top a n cap k w t d.o.room d.o.nil;clear j;by_cases u:k=0
  ·subst u;go_wp2_with fail;go_ret;exact A.o (.inl (by trivial))
  ·obtain⟨b,f,rfl,p⟩:=d.o.at (i:=k-1) (by omega);have G:(k:Int)-1=((k-1:Nat):Int):=by omega
   have kp:(0:Int)<(k:Int):=by omega
   by_cases c:l.getD (k-1) 0=0
   ·rw[c] at p
    have F:Hid (∀i,k-1≤i→i<n→l.getD i 0=0):=λi q m=>by
     by_cases e:i=k-1
     ·rw[e];exact c
     ·exact B.o i (by omega) m
    clear z c;have C:k-1<n:=by omega
    generalize r:k-1=g at *;go_wp2_with fail;go_round
    case rel=>exact⟨g,by omega,by go_num,F.o⟩
    case measure=>simp[intOf];omega
   ·have H:((((l.getD (k-1) 0:Nat):Int))==0)=false:=beq_eq_false_iff_ne.2 (by omega);have E:Hid (l.getD (k-1) 0≠0):=c;clear c;have C:k-1<n:=by omega
    generalize ((l.getD (k-1) 0:Nat):Int)=y at H p;generalize r:k-1=g at p G C;go_wp2_with fail;go_ret;exact A.o (.inr E.o)
def SmallGives(w:World)(m r:Nat)(e:Ending)(w':World):Prop:=∃a n cap,e=.returned (.tuple #[.slice a n cap,.int .u32 (r:Int)])∧Ru w' a n cap (dig m)∧zB w w'∧∀b off,a=some ⟨b,off,none⟩→w.heap.size≤b
theorem small_any(a:Option Addr)(n ca d:Nat)(la:List Nat)(w:World)(ha:Ru w a n ca la)(hn:n≤100)(d0:0<d)(d1:d<4294967296):
  Calls Tryz.prog 141 #[.slice a n ca,.int .u32 (d:Int)] w λe w'=>SmallGives w (nv la/d) (nv la%d) e w':=by
 obtain⟨i0,U,D,E,F⟩:=info_parts info_u32;have G:Hid (Ru w a n ca la):=ha;clear ha;go_enter Tryz.func141,Tryz.ntmps141
 go_wp2_with (first
  | (at_make;refine wpList_make_full _ rfl _ _ 25 rfl w.heap.size 83 i0 (.int .u32 0) 1 Tryz.underlying25 U D E _ _ _ _ n rfl rfl ?c0 ?c1 ?c2 ?c3 ?c4 ?_))
 try (case c0=>first|rfl|(congr 1;omega))
 try (case c1=>first|rfl|(congr 1;omega))
 case c2=>first|omega|(rw[F];omega)
 case c3=>unfold maxLen;omega
 try (case c4=>simp)
 intro W p z;have L:Hid (RowU W w.heap.size n (λ_=>0)):=rowU_made p;have H:Hid (zB w W):=zb.grown z zc (λk hk=>by cases hk);clear p z U D E F;go_wp2_with fail;go_loopw [7,8] (λrv S wr=>∃(k r:Nat)(f:Nat→Nat),k≤n∧S=zI ((k:Int)-1)∧rv=.int .u64 (r:Int)∧r<d∧RowU wr w.heap.size n f∧(∀j,j<n→f j<4294967296)∧zB w wr∧hf f k n*d+r=hf (λj=>la.getD j 0) k n) (λ_ S _=>(intOf S+1).toNat)
 case atStart=>exact⟨n,0,λ_=>0,zc,rfl,rfl,d0,L.o,λ_ _=>(by decide:0<4294967296),H.o,by rw[hf_top,hf_top,Nat.zero_mul]⟩
 case round=>
  obtain⟨k,r,f,a0,rfl,rfl,B,c,m,y,h⟩:=hrel;by_cases N:k=0
  ·subst N;have K:Hid (Ru wr (some ⟨w.heap.size,0,none⟩) n n ((List.range n).map f)):=c.ru m;have X:Hid (zB w wr):=y
   have l:nv ((List.range n).map f)=nv la/d∧r=nv la%d:=by
    rw[hf_zero,hf_zero,← nv_more la (by rw[G.o.len];exact zc),← nv_range] at h;exact small_fin h B
   have J:Hid (nv ((List.range n).map f)=nv la/d):=l.1;have HM:Hid (r=nv la%d):=l.2;have rb:(r:Int)<4294967296:=by omega
   have rm:(r:Int)%4294967296=r:=by omega
   clear c m y h l;go_wp2_with fail;refine(trim_at _ _ _ _ _ K.o (by omega)).mono ?_;rintro e w3 ⟨rfl,T,rfl,s⟩;rw[J.o] at s;have Z:Hid (SmallGives w (nv la/d) (nv la%d) (.returned (.tuple #[.slice (some ⟨w.heap.size,0,none⟩) T n,.int .u32 (r:Int)])) w3):=⟨some ⟨w.heap.size,0,none⟩,T,n,by rw[HM.o],s,X.o,λb a2 e=>by simp at e;omega⟩
   clear s;go_wp2_with fail;refine bodyPost_ret (v:=.tuple #[.slice (some ⟨w.heap.size,0,none⟩) T n,.int .u32 (r:Int)]) (by simp[results,Tryz.results141,go_sem]) rfl Z.o
  ·obtain⟨g,rfl⟩:∃g,k=g+1:=⟨k-1,by omega⟩
   have eg:((g+1:Nat):Int)-1=(g:Int):=by omega
   rw[eg];obtain⟨ba,oa,rfl,M⟩:=(G.o.below y).at (i:=g) (by omega);have hx:=G.o.word g;obtain⟨x,hxx⟩:∃x,la.getD g 0=x:=⟨_,rfl⟩
   rw[hxx] at M hx;have r0:=c.cell (i:=g) (by omega);have f0:=c.free g;obtain⟨fi,hfi⟩:∃fi:Int,((f g:Nat):Int)=fi:=⟨_,rfl⟩
   rw[hfi] at r0;clear hfi;have gn:(g:Int)<(n:Int):=by omega
   have O:=or_words r x (by omega) (by omega) (by omega) (by omega);have e0:(r:Int)*4294967296+(x:Int)=((r*4294967296+x:Nat):Int):=by omega
   have C:=small_step (Q:=hf f (g+1) n) (A:=hf (λj=>la.getD j 0) (g+1) n) (r:=r) (d:=d) (x:=x) h
   have P:(r*4294967296+x)/d<4294967296:=by
    rw[Nat.div_lt_iff_lt_mul d0];have:(r+1)*4294967296≤d*4294967296:=Nat.mul_le_mul_right _ B;rw[Nat.mul_comm 4294967296 d];omega
   have Y:Hid (∀j,j<n→updU f g ((r*4294967296+x)/d) j<4294967296):=λj V=>by
    unfold updU;split
    ·exact P
    ·exact m j V
   have J:Hid (hf (updU f g ((r*4294967296+x)/d)) g n*d+(r*4294967296+x)%d=hf (λj=>la.getD j 0) g n):=by
    have e3:hf (updU f g ((r*4294967296+x)/d)) (g+1) n=hf f (g+1) n:=hf_congr λj V=>by unfold updU;rw[if_neg (by omega)]
    have e4:updU f g ((r*4294967296+x)/d) g=(r*4294967296+x)/d:=by unfold updU;rw[if_pos rfl]
    have t:hf (updU f g ((r*4294967296+x)/d)) g n*d+(r*4294967296+x)%d=hf (λj=>la.getD j 0) g n:=by
     rw[hf_step _ (by omega:g<n),hf_step (λj=>la.getD j 0) (by omega:g<n),e3,e4,hxx];exact C
    exact t
   have R:(r*4294967296+x)%d<d:=Nat.mod_lt _ d0;have a1:r*4294967296+x<18446744073709551616:=by omega
   generalize hq:r*4294967296+x=q at *;rw[e0] at O;have e1:((q:Nat):Int)/(d:Int)=((q/d:Nat):Int):=by simp
   have e2:((q:Nat):Int)%(d:Int)=((q%d:Nat):Int):=by simp
   have K:Hid (RowU (wr.setCell ⟨w.heap.size,g,none⟩ (.int .u32 ((q/d:Nat):Int))) w.heap.size n (updU f g (q/d))):=c.set _ _;have I:Hid (zB w (wr.setCell ⟨w.heap.size,g,none⟩ (.int .u32 ((q/d:Nat):Int)))):=below_set y _ _ _ zc;clear C h m c y hxx hq;have di:0<(d:Int):=by omega
   have dl:(d:Int)<4294967296:=by omega
   have dz:((d:Int)==0)=false:=beq_eq_false_iff_ne.2 (by omega);generalize q/d=u at *;have ql:(u:Int)<4294967296:=by omega
   have qm:(u:Int)%4294967296=(u:Int):=by omega
   generalize q%d=v at *;go_wp2_with fail;go_roundw
   case rel=>exact⟨g,v,_,by omega,by go_num,by first|rfl|rw[e2],R,K.o,Y.o,I.o,J.o⟩
   case measure=>first|(simp[intOf];done)|(simp[intOf];omega)
end words
end Go.Proofs.YtoepgdhiepedeaaGreatDoor
