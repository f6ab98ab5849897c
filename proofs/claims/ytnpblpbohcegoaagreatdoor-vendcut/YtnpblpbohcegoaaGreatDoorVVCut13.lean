import Derived.Test.YtnpblpbohcegoaaGreatDoorVVCut8
set_option linter.unusedVariables false
set_option linter.unusedSimpArgs false
set_option maxHeartbeats 4000000
set_option maxRecDepth 100000
namespace Go.Proofs.YtnpblpbohcegoaaGreatDoor
namespace deb
open tar (Du du0 Came RowD Ld ErrPost TwoPost PairT)
open Go.RowKit
def SharePost (ls:List Du) (t bp:Int) (w:World) (e:Ending) (w':World):Prop:=∃ s f,e = .returned (.tuple #[zI s,zI f])∧((¬ Mays ls∧FaultIs ls f∧s=0)∨(Mays ls∧ShareIs t bp s f))∧Below w.heap.size w w'
theorem pshare (a:Option Addr) (len cap:Nat) (ls:List Du) (t bp:Int) (w:World) (hr:RowD w a len ls) (hl:len≤maxLen):Calls Tryz.prog 191 #[.slice a len cap,zI t,zI bp] w fun e w'=>SharePost ls t bp w e w':=by
 have HFA:Hid (Calls Tryz.prog 199 #[.slice a len cap] w fun e w'=>∃ f,e = .returned (zI f)∧FaultIs ls f∧Below w.heap.size w w'):=pcheck a len cap ls w hr hl;have HIT:Hid (∀ W,Calls Tryz.prog 202 #[zI 0,zI 100000000,zI t] W fun e w'=>e = .returned (.bool (decide (0≤t∧t≤100000000)))∧w'=W):=fun W=>dwithin 0 100000000 t W;clear hr hl;go_enter Tryz.func191,Tryz.ntmps191;go_wp2_with fail;refine HFA.o.mono ?_;rintro e w1 ⟨f,rfl,hf,hb1⟩;have HB1:Hid (Below w.heap.size w w1):=hb1;have HF:Hid (FaultIs ls f):=hf;clear hb1 HFA;by_cases h0:f=0
 ·subst h0;have HM:Hid (Mays ls):=hf.ok.1 rfl;clear hf HF;by_cases ht:0≤t∧t≤100000000
  ·rw [decide_eq_true ht] at HIT;by_cases hb:0≤bp∧bp≤10000
   ·have HPA:Hid (∀ W,Calls Tryz.prog 165 #[zI t,zI bp] W fun e w'=>e = .returned (.tuple #[zI (t*bp / 10000),zI 0])∧Below W.heap.size W w'):=fun W=>cents.part_yes t bp W ht.1 (by omega) hb.1 hb.2;have HT:Hid (TMay t bp):=⟨ht,hb⟩
    clear ht hb;go_wp2_with fail;refine (HIT.o _).mono ?_;rintro e w2 ⟨rfl,hw2⟩;subst hw2;go_wp2_with fail;refine (HPA.o _).mono ?_;rintro e w3 ⟨rfl,hb3⟩;have HB3:=shB HB1 hb3;clear hb3;go_wp2_with fail;go_ret2;exact ⟨_,_,rfl,.inr ⟨HM.o,.inl ⟨HT.o,rfl,rfl⟩⟩,HB3.o⟩
   ·have HPA:Hid (∀ W,Calls Tryz.prog 165 #[zI t,zI bp] W fun e w'=>e = .returned (.tuple #[zI 0,zI 2])∧Below W.heap.size W w'):=fun W=>cents.part_no t bp W (.inr (by omega));have HT:Hid (¬ TMay t bp):=fun h=>hb h.2;clear ht hb;go_wp2_with fail;refine (HIT.o _).mono ?_;rintro e w2 ⟨rfl,hw2⟩;subst hw2;go_wp2_with fail;refine (HPA.o _).mono ?_;rintro e w3 ⟨rfl,hb3⟩;have HB3:=shB HB1 hb3;clear hb3;go_wp2_with fail;go_ret2;exact ⟨_,_,rfl,.inr ⟨HM.o,.inr ⟨HT.o,rfl,rfl⟩⟩,HB3.o⟩
  ·rw [decide_eq_false ht] at HIT;have HT:Hid (¬ TMay t bp):=fun h=>ht h.1;clear ht;go_wp2_with fail;refine (HIT.o _).mono ?_;rintro e w2 ⟨rfl,hw2⟩;subst hw2;go_wp2_with fail;go_ret2;exact ⟨_,_,rfl,.inr ⟨HM.o,.inr ⟨HT.o,rfl,rfl⟩⟩,HB1.o⟩
 ·have hne:(f != 0)=true:=by simpa using h0
  have HN:Hid (¬ Mays ls):=fun h=>h0 (hf.ok.2 h);clear hf h0 HIT;go_wp2_with fail;go_ret2;exact ⟨_,_,rfl,.inl ⟨HN.o,HF.o,rfl⟩,HB1.o⟩
end deb
namespace tar
open Go.RowKit Go.Shelf
attribute [local go_sem] Oper.semAt_some
theorem blk_own {β:Type} (B:Nat) (t:TypeId) (f:β→Array Value):Own (fun s W=>Blk W B (f s) t):=fun s X Y row hs hg hrow=>by
 have hl:=hs.lt;refine (hg.block B hl fun e'=>?_).trans hs;obtain ⟨o,ho,hc⟩:=hrow B e'.symm;rw [show X.heap[B]?=_ from hs] at ho;cases ho;cases hc
def boxes (w:World) (v:Value) (x u:Int):World:=((w.alloc (.cells #[v] 22)).alloc (.cells #[zI x] 3)).alloc (.cells #[zI u] 3)
theorem boxes_size (w:World) (v:Value) (x u:Int):(boxes w v x u).heap.size=w.heap.size+3:=by unfold boxes;simp
theorem boxes_t (w:World) (v:Value) (x u:Int):Boxed (boxes w v x u) w.heap.size 22 v:=((Boxed.new w _ v).alloc _).alloc _
theorem boxes_x (w:World) (v:Value) (x u:Int):Boxed (boxes w v x u) (w.heap.size+1) 3 (zI x):=by
 have h:=(Boxed.new (w.alloc (.cells #[v] 22)) 3 (zI x)).alloc (.cells #[zI u] 3);rw [World.size_alloc] at h;exact h
theorem boxes_u (w:World) (v:Value) (x u:Int):Boxed (boxes w v x u) (w.heap.size+1+1) 3 (zI u):=by
 have h:=Boxed.new ((w.alloc (.cells #[v] 22)).alloc (.cells #[zI x] 3)) 3 (zI u);rw [World.size_alloc,World.size_alloc] at h;exact h
theorem boxes_bel {n:Nat} {w0 w:World} (h:Below n w0 w) (hn:n≤w.heap.size) (v:Value) (x u:Int):Below n w0 (boxes w v x u):=((h.alloc hn _).alloc (by simp;omega) _).alloc (by simp;omega) _
theorem boxes_boxed {w:World} {B:Nat} {t:TypeId} {o:Value} (h:Boxed w B t o) (v:Value) (x u:Int):Boxed (boxes w v x u) B t o:=((h.alloc _).alloc _).alloc _
theorem lines_in (F:Fence) (n:Nat) (hF:F.fn 193) (hro:F.round=none) (a:Option Addr) (len cap:Nat) (x u:Int) (w:World) :
  CallsIn F n Tryz.prog 193 #[.slice a len cap,zI x,zI u] w fun e w'=>e = .returned (.func (.func 203) #[] #[.pointer (some ⟨w.heap.size+1,0,none⟩),.pointer (some ⟨w.heap.size,0,none⟩),.pointer (some ⟨w.heap.size+1+1,0,none⟩)])∧w'=boxes w (.slice a len cap) x u:=by
 refine callsIn_of_wp Tryz.func193 rfl hF ?_ hro;simp only [Tryz.ntmps193,List.size_toArray,List.length_cons,List.length_nil,Nat.reduceAdd,Nat.reduceSub,Array.replicate_succ,Array.replicate_zero,List.push_toArray,List.append_toArray,List.nil_append,List.cons_append]
 gi_wp2
 go_ret;exact ⟨rfl,rfl⟩
structure Lnd (w:World) (n₀ B b off len cap:Nat) (ls:List Du) (x u:Int):Prop where
 right:Right ls
 many:ls.length=len
 x0:0≤x
 x1:x≤10000000
 u0:0≤u
 u1:x+u≤10000000
 bt:Boxed w B 22 (.slice (some ⟨b,off,none⟩) len cap)
 bx:Boxed w (B+1) 3 (zI x)
 bu:Boxed w (B+1+1) 3 (zI u)
 hb:b<n₀
 hn:n₀≤w.heap.size
 row:∀ i,i<len→w.cell? ⟨b,off+i*2,none⟩=some (zI (ls.getD i du0).a)∧w.cell? ⟨b,off+i*2+1,none⟩=some (zI (ls.getD i du0).b)
theorem lines_stops (F:Fence) (n:Nat) (hF:F.fn 203) (hro:F.round=none) (hn:1≤n) (n₀ B b off len cap:Nat) (ls:List Du) (x u:Int) (w:World) (h:Lnd w n₀ B b off len cap ls x u) :
  SeqStopsK F n Tryz.prog 203 #[.pointer (some ⟨B+1,0,none⟩),.pointer (some ⟨B,0,none⟩),.pointer (some ⟨B+1+1,0,none⟩)] encL (Kq n₀ B (B+3)) (fun ys=>lns ys=billK ls x (x+u) len) (fun pre=>lns pre <+: billK ls x (x+u) len) len w:=fun l J Jx W hW hJ _ hY h0=>
 lines1_in F n hF hro hn l (B+1) B (B+1+1) n₀ B (B+3) b off len cap W.heap.size ls x u J Jx h.right h.many ⟨h.x0,h.x1⟩ ⟨h.u0,h.u1⟩ hJ hY W
  (boxed_same h.bx (hW.block _ h.bx.lt)) (boxed_same h.bt (hW.block _ h.bt.lt)) (boxed_same h.bu (hW.block _ h.bu.lt)) ⟨by omega,by omega⟩ ⟨by omega,by omega⟩ h.hb (Nat.le_trans h.hn hW.size)
  (fun i hi=>⟨(hW.cell (p:=⟨b,off+i*2,none⟩) (Nat.lt_of_lt_of_le h.hb h.hn)).trans (h.row i hi).1,(hW.cell (p:=⟨b,off+i*2+1,none⟩) (Nat.lt_of_lt_of_le h.hb h.hn)).trans (h.row i hi).2⟩) h0
theorem Kq.refl (n lo hi:Nat) (W:World):Kq n lo hi W W:=⟨Below.refl _ _,fun _ _ _=>rfl⟩
theorem Kq.alloc {n lo hi:Nat} {W W':World} (h:Kq n lo hi W W') (o:Obj) (hn:n≤W'.heap.size) (hs:hi≤W'.heap.size):Kq n lo hi W (W'.alloc o):=⟨h.1.alloc hn o,fun j a b=>(Below.heap_alloc W' o j (by omega)).trans (h.2 j a b)⟩
theorem Kq.set {n lo hi:Nat} {W W':World} (h:Kq n lo hi W W') (B i:Nat) (v:Value) (hB:n≤B) (hl:B<lo∨hi≤B):Kq n lo hi W (W'.setCell ⟨B,i,none⟩ v):=⟨h.1.setCell (p:=⟨B,i,none⟩) hB v,fun j a b=>(Below.heap_setCell W' ⟨B,i,none⟩ v j (by show j≠B;omega)).trans (h.2 j a b)⟩
theorem kq_b {n lo hi:Nat} {w:World} (hn:n≤w.heap.size) (hh:hi≤w.heap.size) (W:World) (l:Nat) (o o':Obj) (hl:w.heap.size≤l) (h:W.heap[l]?=some o) (hc:o.isCells=false) (hw:o.isWalk=false):Kq n lo hi W (W.putObj l o'):=⟨belowK_b hn W l o o' hl h hc hw,fun j a b=>(grownBy_putObj' W l o').block j (by have:=(Array.getElem?_eq_some_iff.1 h).1;omega) (fun e=>by cases e;omega)⟩
theorem lnd_of {w w1:World} (n₀ B b off len cap:Nat) {ls:List Du} {x u:Int} (hr:Right ls) (hl:ls.length=len) (hx:0≤x∧x≤10000000) (hu:0≤u∧x+u≤10000000) (hB:w1.heap.size=B) (hb:b<n₀) (hn:n₀≤w1.heap.size)
  (hbel:Below n₀ w w1) (hc:∀ i,i<len→w.cell? ⟨b,off+i*2,none⟩=some (zI (ls.getD i du0).a)∧w.cell? ⟨b,off+i*2+1,none⟩=some (zI (ls.getD i du0).b)):Lnd (boxes w1 (.slice (some ⟨b,off,none⟩) len cap) x u) n₀ B b off len cap ls x u:=by
 subst hB;have h2:=boxes_bel hbel hn (.slice (some ⟨b,off,none⟩) len cap) x u;exact ⟨hr,hl,hx.1,hx.2,hu.1,hu.2,boxes_t _ _ _ _,boxes_x _ _ _ _,boxes_u _ _ _ _,hb,by rw [boxes_size];omega,fun i hi=>⟨(h2.cell (p:=⟨b,off+i*2,none⟩) hb).trans (hc i hi).1,(h2.cell (p:=⟨b,off+i*2+1,none⟩) hb).trans (hc i hi).2⟩⟩
theorem ov_before {l:List Du} (h:Right l) (x y z:Int) (k j:Nat) (hk:k<l.length) (hj:j<k) (hy:low l k≤y) (hz:low l k≤z):ov (low l j) (l.getD j du0).a x z=ov (low l j) (l.getD j du0).a x y:=by
 have h1:=low_mono h (j+1) k (by omega) (by omega);rw [low_next] at h1;unfold ov;omega
theorem costK_before {l:List Du} (h:Right l) (x y z:Int) (k j:Nat) (hk:k<l.length) (hj:j≤k) (hy:low l k≤y) (hz:low l k≤z):costK l x z j=costK l x y j:=by
 induction j with
 | zero=>rfl
 | succ j ih=>rw [costK_next,costK_next,ih (by omega),ov_before h x y z k j hk (by omega) hy hz]
theorem costK_behind {l:List Du} (h:Right l) (x z:Int) (k j:Nat) (hkj:k≤j) (hj:j≤l.length) (hz:z≤low l k):costK l x z j=costK l x z k:=by
 induction j with
 | zero=>
  have:k=0:=by omega
  subst this;rfl
 | succ j ih=>
  by_cases e:k=j+1
  ·subst e;rfl
  ·have h1:=ih (by omega) (by omega);have h2:=low_mono h k j (by omega) (by omega);rw [costK_next,h1,show ov (low l j) (l.getD j du0).a x z=0 by unfold ov;omega];omega
theorem cost_part {l:List Du} (h:Right l) (x y:Int) (hx:0≤x) (hxy:x≤y) (k:Nat) (hk:k<l.length) (q:Int) (hq:0≤q) (hq2:q≤ov (low l k) (l.getD k du0).a x y) (hp:0<ov (low l k) (l.getD k du0).a x y) :
  cost l x (x+(manyK l x y k+q))=costK l x y k+q*(l.getD k du0).b:=by
 have h1:=many_eq h x y hx hxy k (by omega);have h2:=h.rise k hk;have h3:=h.low_pos k (by omega);have hlo:low l k≤y:=by unfold ov at hp;omega
 have hz:low l k≤x+(manyK l x y k+q):=by rw [h1];omega
 have hz2:x+(manyK l x y k+q)≤low l (k+1):=by rw [h1,low_next];unfold ov at hq2 hp;omega
 unfold cost;rw [costK_behind h x _ (k+1) l.length (by omega) (Nat.le_refl _) hz2,costK_next,costK_before h x y _ k k hk (Nat.le_refl _) hlo hz];rw [show ov (low l k) (l.getD k du0).a x (x+(manyK l x y k+q))=q by rw [h1];unfold ov at hq2 hp ⊢;omega]
theorem bill_at (l:List Du) (x y:Int) (n:Nat) (p:List Tr) (t:Tr) (h:p++[t] <+: billK l x y n):∃ k,k<n∧p=billK l x y k∧0<ov (low l k) (l.getD k du0).a x y∧t=⟨ov (low l k) (l.getD k du0).a x y,(l.getD k du0).b,ov (low l k) (l.getD k du0).a x y*(l.getD k du0).b⟩:=by
 induction n with
 | zero=>
  have:=h.length_le;simp [billK] at this
 | succ n ih=>
  by_cases hp:0<ov (low l n) (l.getD n du0).a x y
  ·rw [billK_yes l x y n hp] at h;rcases List.prefix_concat_iff.1 h with h | h
   ·obtain ⟨h1,h2⟩:=List.append_inj' h rfl;exact ⟨n,by omega,h1,hp,by simpa using h2⟩
   ·obtain ⟨k,a,b⟩:=ih h;exact ⟨k,by omega,b⟩
  ·rw [billK_no l x y n hp] at h;obtain ⟨k,a,b⟩:=ih h;exact ⟨k,by omega,b⟩
theorem top_bd {x:Int} (hx:0≤x∧x≤10000000):0≤Top x∧x+Top x≤10000000:=by unfold Top;omega
theorem most_all {l:List Du} (h:Right l) (x m:Int) (hx:0≤x∧x≤10000000) (hm:sumC (billK l x (x+Top x) l.length)≤m):MostOf l x m (sumA (billK l x (x+Top x) l.length))∧sumC (billK l x (x+Top x) l.length)=cost l x (x+sumA (billK l x (x+Top x) l.length)):=by
 have ht:=top_bd hx;have h1:=bill_sums l x (x+Top x) l.length;have h2:=many_all h x (x+Top x) hx.1 (by omega) ht.2;have e:sumA (billK l x (x+Top x) l.length)=Top x:=by rw [h1.1,h2];omega
 have e2:sumC (billK l x (x+Top x) l.length)=cost l x (x+Top x):=h1.2;rw [e,e2];rw [e2] at hm;exact ⟨⟨⟨ht.1,Int.le_refl _⟩,hm,.inl rfl⟩,rfl⟩
theorem most_cut {l:List Du} (h:Right l) (x m q:Int) (hx:0≤x∧x≤10000000) (p:List Tr) (t:Tr) (hpre:p++[t] <+: billK l x (x+Top x) l.length) (hq0:0≤q) (hq:q<t.a) (h1:sumC p+q*t.b≤m) (h2:m<sumC p+(q+1)*t.b) :
  MostOf l x m (sumA p+q)∧sumC p+q*t.b=cost l x (x+(sumA p+q)):=by
 have ht:=top_bd hx;obtain ⟨k,hk,rfl,hp,rfl⟩:=bill_at l x (x+Top x) l.length p t hpre;have hs:=bill_sums l x (x+Top x) k;rw [hs.1,hs.2];rw [hs.2] at h1 h2;dsimp only at hq h1 h2 ⊢;have e1:=cost_part h x (x+Top x) hx.1 (by omega) k hk q hq0 (by omega) hp;have e2:=cost_part h x (x+Top x) hx.1 (by omega) k hk (q+1) (by omega) (by omega) hp;have hb:=many_bd h x (x+Top x) hx.1 (by omega) k (by omega);have hb2:=many_bd h x (x+Top x) hx.1 (by omega) (k+1) (by omega);rw [many_next] at hb2;rw [e1];refine ⟨⟨⟨by omega,by omega⟩,by rw [e1];exact h1,.inr ?_⟩,rfl⟩;rw [show manyK l x (x+Top x) k+q+1=manyK l x (x+Top x) k+(q+1) by omega,e2];exact h2
theorem sums_bd (l:List Tr) (h:∀ t∈l,LineOk t):(0≤sumA l∧sumA l≤(l.length:Int)*10000000)∧0≤sumC l:=by
 induction l with
 | nil=>exact ⟨⟨Int.le_refl _,Int.le_refl _⟩,Int.le_refl _⟩
 | cons t l ih=>
  have h1:=ih fun x hx=>h x (List.mem_cons_of_mem _ hx);obtain ⟨a1,a2,a3,a4,a5⟩:=h t List.mem_cons_self;have h2:=prod_bd (show 0≤t.a by omega) a2 a3 a4;rw [← a5] at h2;have e:((t :: l).length:Int)=(l.length:Int)+1:=by simp
  rw [e,Int.add_mul];exact ⟨⟨by show 0≤t.a+sumA l;omega,by show t.a+sumA l≤_;omega⟩,by show 0≤t.c+sumC l;omega⟩
theorem quo_bd {d p q:Int} (hd:0≤d) (hp:1≤p) (hq:d / p=q):0≤q∧q*p≤d∧d<(q+1)*p∧q≤d:=by
 subst hq;have h1:=Int.ediv_nonneg hd (show 0≤p by omega);have h2:=Int.mul_ediv_self_le (x:=d) (k:=p) (by omega);have h3:=Int.lt_mul_ediv_self_add (x:=d) (k:=p) (by omega);have h4:d / p≤d:=Int.ediv_le_self _ hd;rw [Int.mul_comm] at h2 h3;exact ⟨h1,h2,by rw [Int.add_mul];omega,h4⟩
theorem snoc_one {p:List Ln} {t:Ln}:lns (p++[t])=lns p++[t.1]:=by rw [lns_app];rfl
theorem sums_one (p:List Ln) (t:Ln):sumA (lns (p++[t]))=sumA (lns p)+t.1.a∧sumC (lns (p++[t]))=sumC (lns p)+t.1.c:=by
 rw [snoc_one,sumA_app,sumC_app];exact ⟨by show _+(t.1.a+0)=_;omega,by show _+(t.1.c+0)=_;omega⟩
end tar
section
open Go.RowKit
theorem operIn_round {F:Fence} {n:Nat} {P:Program} (hro:F.round=none) (l:Nat) {o:Oper} (hd:∀ c,o.op ≠ .defer c) {a:Act} {w:World} {K K':Act→World→Prop} {Q:Exit→Act→World→Prop} (hK:∀ a w,K a w→K' a w) (h:o.wpIn F n P a w K Q):o.wpIn (F.inRound l) n P a w K' Q:=by
 have h2:=Oper.wpIn_mono hK h;unfold Oper.wpIn at *;refine ⟨h2.1,?_⟩;have h3:=h2.2;rw [hro,Oper.semAt_none] at h3;rw [Fence.inRound_round,Oper.semAt_some l _ _ hd];generalize (execOp a.eval o).run P w=r at *;cases r with
 | ok x w'=>cases x <;> exact h3
 | halt x w'=>cases x <;> exact h3
theorem opsIn_round {F:Fence} {n:Nat} {P:Program} {ops:Array Oper} {Q:Exit→Act→World→Prop} (hro:F.round=none) (l:Nat) (hd:∀ (i:Nat) (o:Oper),ops[i]?=some o→∀ c,o.op ≠ .defer c):∀ (s:List Nat) (a:Act) (w:World),wpOpsIn F n P ops Q s a w→wpOpsIn (F.inRound l) n P ops Q s a w
 | [],_,_,h=>h
 | i :: s,a,w,h=>by
  unfold wpOpsIn at h ⊢;cases hi:ops[i]? with
  | none=>rw [hi] at h;exact opsIn_round hro l hd s a w h
  | some o=>
   rw [hi] at h;dsimp only at h ⊢;by_cases hw:Region.wanted o (yielded ops a.tmps)=true
   ·rw [if_pos hw] at h ⊢;exact operIn_round hro l (hd i o hi) (fun a w h=>opsIn_round hro l hd s a w h) h
   ·rw [if_neg hw] at h ⊢;exact ⟨h.1,opsIn_round hro l hd s _ w h.2⟩
def noDefer (l:List Oper):Bool:=l.all fun o=>match o.op with | .defer _=>false | _=>true
theorem noDefer_spec {l:List Oper} (h:noDefer l=true) (i:Nat) (o:Oper) (ho:l.toArray[i]?=some o) (c:Call):o.op ≠ .defer c:=by
 intro e
 have h1:o∈l:=by
  have:l[i]?=some o:=by simpa using ho
  exact List.mem_of_getElem? this
 have h2:=List.all_eq_true.1 h o h1;rw [e] at h2;exact Bool.noConfusion h2
theorem round_quiet {F:Fence} {n:Nat} {P:Program} {id:Nat} {Q:Exit→Act→World→Prop} {a:Act} {w:World} {l:List Oper} {r:Nat} (hro:F.round=none) (hm:P.follows .mixedOrders=true) (hB:Region.lexB .any l.toArray=true) (hd:noDefer l=true)
  (h:wpQuietIn F n P l.toArray (fun w'=>∃ n,w'=w.drewN n) (fun a'=>∀ w',(∃ n,w'=w.drewN n)→Q .normal a' w') l a):(Code.region id l.toArray true).wpIn (F.inRound r) n P Q a w:=by
 simp only [Region.lexB,Bool.and_eq_true] at hB;refine wpIn_region_draw fun t=>opsIn_round hro r (noDefer_spec hd) _ _ _ ?_;simp only [Region.schedule,hm,Bool.true_or,if_true];refine wpAnyIn_sound _ t _ a _ ?_;refine wpAnyIn_of_quiet (C:=fun w'=>∃ n,w'=w.drewN n) (Q:=fun a'=>∀ w',(∃ n,w'=w.drewN n)→Q .normal a' w') hro (fun _ w' hw' h=>h w' hw') _ _ _ _ ⟨1,rfl⟩ ?_;have:=wpAnyQIn_lex (F:=F) (n:=n) (C:=fun w'=>∃ n,w'=w.drewN n) (md:= .any) hB.1 l 0 (Array.replicate l.toArray.size false) a (by simp) (by simpa using hB.2) h;simpa using this
end
namespace book
open Go.RowKit
def findV (B:Nat):Value:= .func (.func 84) #[] #[.pointer (some ⟨B,0,none⟩)]
theorem asked_any (B:Nat) (me xm xr xn xo xb xf:Int) (dp:Option Addr) (dn dc:Nat) (sp:Option Addr) (sn sc:Nat) (W:World) (hc:W.cell? ⟨B,0,none⟩=some (zI me)) (hB:B<W.heap.size) :
  Calls Tryz.prog 84 #[.agg #[zI xm,zI xr,zI xn,zI xo,zI xb,zI xf,.slice dp dn dc,.slice sp sn sc],.pointer (some ⟨B,0,none⟩)] W fun e w'=>e = .returned (.bool (xm == me))∧Below W.heap.size W w':=by
 have hc2:(W.alloc (.cells #[zI xm,zI xr,zI xn,zI xo,zI xb,zI xf,.slice dp dn dc,.slice sp sn sc] 54)).cell? ⟨B,0,none⟩=some (zI me):=by rw [World.cell?_alloc_lt W _ _ hB];exact hc
 have HB:Hid (Below W.heap.size W (W.alloc (.cells #[zI xm,zI xr,zI xn,zI xo,zI xb,zI xf,.slice dp dn dc,.slice sp sn sc] 54))):=(Below.refl _ _).alloc (Nat.le_refl _) _;clear hc hB;go_enter Tryz.func84,Tryz.ntmps84;go_wp2_with fail;go_ret;exact ⟨rfl,HB.o⟩
theorem index_cust (B n cap:Nat) (me:Int) (a:Option Addr) (l:List Cu) (w:World) (hc:w.cell? ⟨B,0,none⟩=some (zI me)) (hr:RowC w a n l) (hn:n≤2000000) :
  Calls Tryz.prog 83 #[.slice a n cap,findV B] w fun e w'=>∃ x,e = .returned (zI x)∧FoundIs l me x∧Below w.heap.size w w':=by
 have hB:=World.block_lt_of_cell? w _ hc
 have HC:Hid (∀ wr,Below w.heap.size w wr→∀ (xm xr xn xo xb xf:Int) (dp:Option Addr) (dn dc:Nat) (sp:Option Addr) (sn sc:Nat),Calls Tryz.prog 84 #[.agg #[zI xm,zI xr,zI xn,zI xo,zI xb,zI xf,.slice dp dn dc,.slice sp sn sc],.pointer (some ⟨B,0,none⟩)] wr fun e w'=>e = .returned (.bool (xm == me))∧Below wr.heap.size wr w'):=fun wr hb xm xr xn xo xb xf dp dn dc sp sn sc=>
  asked_any B me xm xr xn xo xb xf dp dn dc sp sn sc wr ((hb.cell (p:=⟨B,0,none⟩) hB).trans hc) (Nat.lt_of_lt_of_le hB hb.size)
 have HR:Hid (RowC w a n l):=hr;have HL:Hid (l.length=n):=hr.1;clear hc hB hr;unfold findV;go_enter Tryz.func83,Tryz.ntmps83;go_wp2_with fail;go_loopw [8] (fun i wr=>∃ k:Nat,k≤n∧i=zI (k:Int)∧(∀ j,j<k→(l.getD j cu0).me≠me)∧Below w.heap.size w wr) (fun i _=>n - (intOf i).toNat)
 case atStart=>exact ⟨0,Nat.zero_le _,rfl,(fun j hj=>absurd hj (Nat.not_lt_zero _)),Below.refl _ _⟩
 case round=>
  obtain ⟨k,hk,rfl,hal,hb⟩:=hrel;have HA:Hid (∀ j,j<k→(l.getD j cu0).me≠me):=hal;have HB:Hid (Below w.heap.size w wr):=hb;clear hal hb;by_cases hlt:k<n
  ·obtain ⟨b2,o2,rfl,l2,hc2⟩:=HR.o.2.resolve_left (by omega);have hce:∀ j,j<8→wr.cell? ⟨b2,o2+k*8+j,none⟩=(l.getD k cu0).cs[j]?:=fun j hj=>(HB.o.cell (p:=⟨b2,o2+k*8+j,none⟩) l2).trans (hc2 k j hlt hj)
   have HME:Hid (∀ z,z=(l.getD k cu0).me→(z=me→FoundIs l me (k:Int))∧(z≠me→∀ j,j<k+1→(l.getD j cu0).me≠me)):=fun z hz=>⟨fun e=> .inl ⟨k,by rw [HL.o];exact hlt,by rw [← hz];exact e,HA.o,rfl⟩,fun e j hj=>by
    by_cases q:j=k
    ·subst q;rw [← hz];exact e
    ·exact HA.o j (by omega)⟩
   clear hc2 l2;obtain ⟨⟨xm,xr,xn,xo,xb,xf,dp,dn,dc,sp,sn,sc⟩,hx⟩:∃ x,x=l.getD k cu0:=⟨_,rfl⟩
   have HMX:=HME.o xm (by rw [← hx]);have HY:Hid (xm=me→FoundIs l me (k:Int)):=HMX.1;have HNO:Hid (xm≠me→∀ j,j<k+1→(l.getD j cu0).me≠me):=HMX.2;rw [← hx] at hce;clear hx HME HMX;have c0:wr.cell? ⟨b2,o2+k*8,none⟩=some (zI xm):=hce 0 (by decide);have c1:wr.cell? ⟨b2,o2+k*8+1,none⟩=some (zI xr):=hce 1 (by decide);have c2:wr.cell? ⟨b2,o2+k*8+2,none⟩=some (zI xn):=hce 2 (by decide);have c3:wr.cell? ⟨b2,o2+k*8+3,none⟩=some (zI xo):=hce 3 (by decide);have c4:wr.cell? ⟨b2,o2+k*8+4,none⟩=some (zI xb):=hce 4 (by decide);have c5:wr.cell? ⟨b2,o2+k*8+5,none⟩=some (zI xf):=hce 5 (by decide);have c6:wr.cell? ⟨b2,o2+k*8+6,none⟩=some (.slice dp dn dc):=hce 6 (by decide);have c7:wr.cell? ⟨b2,o2+k*8+7,none⟩=some (.slice sp sn sc):=hce 7 (by decide);clear hce;have hcall:=HC.o wr HB.o xm xr xn xo xb xf dp dn dc sp sn sc;clear HC;by_cases he:xm=me
   ·have HF:Hid (FoundIs l me (k:Int)):=HY.o he;rw [show (xm == me)=true by simpa using he] at hcall;have HCL:Hid (Calls Tryz.prog 84 #[.agg #[zI xm,zI xr,zI xn,zI xo,zI xb,zI xf,.slice dp dn dc,.slice sp sn sc],.pointer (some ⟨B,0,none⟩)] wr fun e w'=>e = .returned (.bool true)∧Below wr.heap.size wr w'):=hcall;clear hcall he;go_wp2_with fail;refine HCL.o.mono ?_;rintro e w' ⟨rfl,hb'⟩;have HB':Hid (Below w.heap.size w w'):=bel_step HB.o hb';clear hb' c0 c1 c2 c3 c4 c5 c6 c7;go_wp2_with fail;go_ret;exact ⟨(k:Int),rfl,HF.o,HB'.o⟩
   ·have HF:Hid (∀ j,j<k+1→(l.getD j cu0).me≠me):=HNO.o he;rw [show (xm == me)=false by simpa using he] at hcall;have HCL:Hid (Calls Tryz.prog 84 #[.agg #[zI xm,zI xr,zI xn,zI xo,zI xb,zI xf,.slice dp dn dc,.slice sp sn sc],.pointer (some ⟨B,0,none⟩)] wr fun e w'=>e = .returned (.bool false)∧Below wr.heap.size wr w'):=hcall;clear hcall he;go_wp2_with fail;refine HCL.o.mono ?_;rintro e w' ⟨rfl,hb'⟩;have HB':Hid (Below w.heap.size w w'):=bel_step HB.o hb';clear hb' c0 c1 c2 c3 c4 c5 c6 c7;go_wp2_with fail;go_roundw
    case rel=>exact ⟨k+1,by omega,by go_num,HF.o,HB'.o⟩
    case measure=>simp [intOf];omega
  ·obtain rfl:k=n:=by omega
   have HFA:Hid (FoundIs l me (-1)):= .inr ⟨fun j hj=>HA.o j (by rw [← HL.o];exact hj),rfl⟩;go_wp2_with fail;go_ret;exact ⟨-1,rfl,HFA.o,HB.o⟩
theorem pfind (w:World) (p:Option Addr) (n cap:Nat) (l:List Cu) (me:Int) (hr:RowC w p n l) (hn:n≤2000000):Calls Tryz.prog 51 #[.agg #[.slice p n cap],zI me] w fun e w'=>FindPost w l me e w':=by
 have hmf:∀ (fn:Fn) (first cap:Array Value) (w:World),(Instr.makeFunc fn first cap).run Tryz.prog w = .ok (.func fn first cap) w:=fun _ _ _ _=>rfl;obtain ⟨W1,HWW,HK1,HM1,HB1,-⟩:=sh2 w #[.slice p n cap] 46 #[zI me] 3;have HR:Hid (RowC w p n l):=hr;have HN:Hid (n≤2000000):=hn;clear hr hn;go_enter Tryz.func51,Tryz.ntmps51;go_upto_region 1 with fail
 rw [HWW.o];clear HWW;have c0:W1.cell? ⟨w.heap.size,0,none⟩=some (.slice p n cap):=HK1.o.cell 0;have hI:=index_cust (w.heap.size+1) n cap me p l W1 (HM1.o.cell 0) (HR.o.below HB1.o) HN.o;unfold findV at hI;have HI:Hid (Calls Tryz.prog 83 #[.slice p n cap,.func (.func 84) #[] #[.pointer (some ⟨w.heap.size+1,0,none⟩)]] W1 fun e w'=>∃ x,e = .returned (zI x)∧FoundIs l me x∧Below W1.heap.size W1 w'):=hI;clear hI HK1 HM1 HR HN;go_wp2_with fail;refine HI.o.mono ?_;rintro e w' ⟨x,rfl,hx,hb⟩;have HB':Hid (Below w.heap.size w w'):=bel_step HB1.o hb;clear hb HI HB1 c0;by_cases hneg:x<0
 ·have HF:Hid (FindIs l me 0 18):=by
   rcases hx with ⟨k,_,_,_,e⟩ | ⟨h,_⟩
   ·omega
   ·exact .inr ⟨h,rfl,rfl⟩
  clear hx;go_wp2_with fail;go_ret2;exact ⟨0,18,rfl,HF.o,HB'.o⟩
 ·have HF:Hid (FindIs l me x 0):=by
   rcases hx with ⟨k,h1,h2,h3,e⟩ | ⟨h,e⟩
   ·exact .inl ⟨k,h1,h2,h3,e,rfl⟩
   ·omega
  clear hx;go_wp2_with fail;go_ret2;exact ⟨x,0,rfl,HF.o,HB'.o⟩
end book
end Go.Proofs.YtnpblpbohcegoaaGreatDoor
