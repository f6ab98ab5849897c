import Derived.Test.YtoepgdhiepedeaaGreatDoorVVSls16
import Derived.Test.YtoepgdhiepedeaaGreatDoorVVSls17
set_option linter.unusedVariables false
set_option linter.unusedSimpArgs false
set_option maxHeartbeats 4000000
set_option maxRecDepth 100000
namespace Go.Proofs.YtoepgdhiepedeaaGreatDoor
namespace tar
open Go.RowKit
theorem roverlap(lo hi x y:Int)(w:World)(h0:0≤lo∧lo≤10000000)(h1:0≤hi∧hi≤10000000)(h2:0≤x∧x≤10000000)(h3:0≤y∧y≤10000000):Calls Tryz.prog 135 #[zI lo,zI hi,zI x,zI y] w λe w'=>e=.returned (zI (ov lo hi x y))∧w'=w:=by
 obtain⟨k,l⟩:=h0;obtain⟨m,n⟩:=h1;obtain⟨c0,c1⟩:=h2;obtain⟨r,s⟩:=h3
 have c:Hid (∀z,(max lo x≤min hi y→z=min hi y-max lo x)→(min hi y<max lo x→z=0)→z=ov lo hi x y):=λz i j=>by
  unfold ov;by_cases h:max lo x≤min hi y
  ·have:=i h;omega
  ·have:=j (by omega);omega
 by_cases p:lo<x
 ·have q:decide (lo<x)=true:=decide_eq_true p;by_cases f:y<hi
  ·have g:decide (y<hi)=true:=decide_eq_true f;by_cases b:y<x
   ·have d:decide (y<x)=true:=decide_eq_true b;have a:Hid ((0:Int)=ov lo hi x y):=c.o 0 (λh=>by omega) (λ_=>rfl);go_enter Tryz.func135,Tryz.ntmps135;go_wp2_with fail;go_ret;exact⟨by rw[← a.o];rfl,rfl⟩
   ·have d:decide (y<x)=false:=decide_eq_false b;have a:Hid (y-x=ov lo hi x y):=c.o _ (λh=>by omega) (λh=>by omega);go_enter Tryz.func135,Tryz.ntmps135;go_wp2_with fail;go_ret;exact⟨by rw[← a.o];rfl,rfl⟩
  ·have g:decide (y<hi)=false:=decide_eq_false f;by_cases b:hi<x
   ·have d:decide (hi<x)=true:=decide_eq_true b;have a:Hid ((0:Int)=ov lo hi x y):=c.o 0 (λh=>by omega) (λ_=>rfl);go_enter Tryz.func135,Tryz.ntmps135;go_wp2_with fail;go_ret;exact⟨by rw[← a.o];rfl,rfl⟩
   ·have d:decide (hi<x)=false:=decide_eq_false b;have a:Hid (hi-x=ov lo hi x y):=c.o _ (λh=>by omega) (λh=>by omega);go_enter Tryz.func135,Tryz.ntmps135;go_wp2_with fail;go_ret;exact⟨by rw[← a.o];rfl,rfl⟩
 ·have q:decide (lo<x)=false:=decide_eq_false p;by_cases f:y<hi
  ·have g:decide (y<hi)=true:=decide_eq_true f;by_cases b:y<lo
   ·have d:decide (y<lo)=true:=decide_eq_true b;have a:Hid ((0:Int)=ov lo hi x y):=c.o 0 (λh=>by omega) (λ_=>rfl);go_enter Tryz.func135,Tryz.ntmps135;go_wp2_with fail;go_ret;exact⟨by rw[← a.o];rfl,rfl⟩
   ·have d:decide (y<lo)=false:=decide_eq_false b;have a:Hid (y-lo=ov lo hi x y):=c.o _ (λh=>by omega) (λh=>by omega);go_enter Tryz.func135,Tryz.ntmps135;go_wp2_with fail;go_ret;exact⟨by rw[← a.o];rfl,rfl⟩
  ·have g:decide (y<hi)=false:=decide_eq_false f;by_cases b:hi<lo
   ·have d:decide (hi<lo)=true:=decide_eq_true b;have a:Hid ((0:Int)=ov lo hi x y):=c.o 0 (λh=>by omega) (λ_=>rfl);go_enter Tryz.func135,Tryz.ntmps135;go_wp2_with fail;go_ret;exact⟨by rw[← a.o];rfl,rfl⟩
   ·have d:decide (hi<lo)=false:=decide_eq_false b;have a:Hid (hi-lo=ov lo hi x y):=c.o _ (λh=>by omega) (λh=>by omega);go_enter Tryz.func135,Tryz.ntmps135;go_wp2_with fail;go_ret;exact⟨by rw[← a.o];rfl,rfl⟩
theorem rcost(a:Option Addr)(n cap:Nat)(ls:List Du)(x y:Int)(w:World)(hr:RowD w a n ls)(hR:Right ls)(hx:0≤x)(hxy:x≤y)(hy:y≤10000000):Calls Tryz.prog 91 #[.slice a n cap,zI x,zI y] w λe w'=>ValPost w (cost ls x y) e w':=by
 have f:=hr.1;have E:1≤n:=by have:=hR.1.1;omega
 have O:n≤8:=by have:=hR.1.2;omega
 obtain⟨b,c,rfl,l,G⟩:=hr.at E;have F:=zh G;have d:=zh f;have g:=zh hR;have A:Hid (0≤x∧x≤y∧y≤10000000):=⟨hx,hxy,hy⟩
 clear G hr f hR;go_enter Tryz.func91,Tryz.ntmps91;go_wp2_with fail;go_loopw [7,8,9] (λu v z wr=>∃k:Nat,k≤n∧z=zI (k:Int)∧u=zI (costK ls x y k)∧v=zI (low ls k)∧zB w wr) (λ_ _ z _=>n-(intOf z).toNat)
 case atStart=>exact⟨0,Nat.zero_le _,rfl,rfl,rfl,zb⟩
 case round=>
  obtain⟨k,V,rfl,rfl,rfl,j⟩:=hrel;by_cases i:k<n
  ·have C:decide ((k:Int)<(n:Int))=true:=by simp;omega
   have m:k<ls.length:=by rw[d.o];exact i
   have c0:wr.cell? ⟨b,c+k*2,none⟩=some (zI (ls.getD k du0).a):=(j.cell (p:=⟨b,c+k*2,none⟩) l).trans (F.o k i).1;have c1:wr.cell? ⟨b,c+k*2+1,none⟩=some (zI (ls.getD k du0).b):=(j.cell (p:=⟨b,c+k*2+1,none⟩) l).trans (F.o k i).2;have r:=zh j;have H:=g.o.price k m;have Q:=g.o.upto k m;have q:=g.o.low_pos k (by omega);have D:low ls k≤10000000:=by have:=low_mono g.o k ls.length (by omega) zc;rw[g.o.low_end] at this;exact this
   have t:Hid (∀W,zC 135 #[zI (low ls k),zI (ls.getD k du0).a,zI x,zI y] W λe w'=>e=.returned (zI (ov (low ls k) (ls.getD k du0).a x y))∧w'=W):=λW=>roverlap _ _ x y W ⟨q,D⟩ ⟨by omega,by omega⟩ ⟨by omega,by omega⟩ ⟨by omega,by omega⟩;have L:=costK_pos g.o x y k (by omega);have M:=costK_le g.o x y A.o.1 A.o.2.1 A.o.2.2 k (by omega);have P:=prod_bd (ov_pos (low ls k) (ls.getD k du0).a x y) (ov_le _ _ x y q Q.2) H.1 H.2;have J:=zh (costK_next ls x y k).symm;have I:=zh (low_next ls k).symm;clear j;generalize costK ls x y k=B at *;generalize low ls k=T at *;generalize ov T (ls.getD k du0).a x y=o at *;generalize (ls.getD k du0).a=u at *;generalize (ls.getD k du0).b=p at *;have R:IntKind.i64.wrap (o*p)=o*p:=by rw[IntKind.wrap_i64];omega
   have S:IntKind.i64.wrap (B+o*p)=B+o*p:=by rw[IntKind.wrap_i64];omega
   go_wp2_with fail;go_quiet (exact(t.o _).mono λ_ _ h=>⟨h.1,_,h.2⟩);have U:=c0;have s:=zh (bel_drewN r.o nq);go_wp2_with fail;go_roundw
   case rel=>exact⟨k+1,by omega,by go_num,by rw[← J.o],by rw[← I.o],s.o⟩
   case measure=>simp[intOf];omega
  ·obtain rfl:k=n:=by omega
   have C:decide ((k:Int)<(k:Int))=false:=by simp
   have K:Hid (costK ls x y k=cost ls x y):=by show _=_;unfold cost;rw[d.o]
   have r:=zh j;clear j;generalize N:costK ls x y k=B at *;go_wp2_with fail;go_ret;exact⟨by rw[← K.o];rfl,r.o⟩
open Go.Shelf
attribute [local go_sem] Oper.semAt_some
def three(w:World)(m:Int):World:=((w.alloc (.cells #[zI m] 3)).alloc (.cells #[zI 0] 3)).alloc (.cells #[zI 0] 3)
theorem three_size(w:World)(m:Int):(three w m).heap.size=w.heap.size+3:=by unfold three;simp
theorem three_m(w:World)(m:Int):Boxed (three w m) w.heap.size 3 (zI m):=((Boxed.new w _ _).alloc _).alloc _
theorem three_u(w:World)(m:Int):Boxed (three w m) (w.heap.size+1) 3 (zI 0):=by
 have h:=(Boxed.new (w.alloc (.cells #[zI m] 3)) 3 (zI 0)).alloc (.cells #[zI 0] 3);rw[World.size_alloc] at h;exact h
theorem three_p(w:World)(m:Int):Boxed (three w m) (w.heap.size+1+1) 3 (zI 0):=by
 have h:=Boxed.new ((w.alloc (.cells #[zI m] 3)).alloc (.cells #[zI 0] 3)) 3 (zI 0);rw[World.size_alloc,World.size_alloc] at h;exact h
theorem three_bel(w:World)(m:Int):zB w (three w m):=(((Below.refl _ w).alloc zc _).alloc (by simp) _).alloc (by simp;omega) _
def Full(P:Nat)(w:World)(m:Int)(c:Code)(pre:List Ln)(W:World):Prop:=(∃(p:List Ln)(t:Ln)(q:Int),c=Code.exit 0∧pre=p++[t]∧(0≤q∧q<t.1.a∧sumC (lns p)+q*t.1.b≤m∧m<sumC (lns p)+(q+1)*t.1.b)∧Boxed W (P+1) 3 (zI (sumA (lns p)+q))∧Boxed W (P+1+1) 3 (zI (sumC (lns p)+q*t.1.b)))∧Below P w W
theorem full_own(P B:Nat)(w:World)(m:Int)(c:Code)(h1:P≤w.heap.size)(h2:P≤B):OwnFrom B (Full P w m c):=
 OwnFrom.and (fun j X Y row i a d=>by
  obtain⟨p,t,q,h1,h2,f,g,h⟩:=i
  exact ⟨p,t,q,h1,h2,f,boxed_own (P+1) 3 (fun (_:Unit)=>Value.int .i64 (sumA (lns p)+q)) () X Y row g a (fun r e=>(d r e).2),boxed_own (P+1+1) 3 (fun (_:Unit)=>Value.int .i64 (sumC (lns p)+q*t.1.b)) () X Y row h a (fun r e=>(d r e).2)⟩) (ownFrom_below h1 h2)
theorem pmost_in(F:Fence)(k:Nat)(hk:6≤k)(hF:F.fn 69)(hFl:F.fn 103)(hF1:F.fn 147)(hFc:F.fn 101)(hFw:F.fn 102)(hro:F.round=none)(w:World)(a:Option Addr)(len cap:Nat)(ls:List Du)(x m:Int)(hc:Came w a len cap ls)
  (HCK:Hid (CallsIn F (k-1) Tryz.prog 101 #[.slice a len cap] (three w m) λe w'=>ErrPost (three w m) (FaultIs ls) e w'))
  (HIX:Hid (∀W,CallsIn F (k-1) Tryz.prog 102 #[zI 0,zI 10000000,zI x] W λe w'=>e=.returned (.bool (decide (0≤x∧x≤10000000)))∧w'=W))
  (HIM:Hid (∀W,CallsIn F (k-1) Tryz.prog 102 #[zI 0,zI 1000000000000,zI m] W λe w'=>e=.returned (.bool (decide (0≤m∧m≤1000000000000)))∧w'=W)):
  CallsIn F k Tryz.prog 69 #[.slice a len cap,zI x,zI m] w λe w'=>ThreePost w (MostIs ls x m) e w':=by
 have h1:1≤k:=by omega
 have hmo:Tryz.prog.follows .mixedOrders=true:=by kernel_rfl
 have HRW:=hc.row;have HLEN:Hid (ls.length=len):=hc.row.1;clear hc;refine callsIn_of_wp_marks Tryz.func69 rfl hF ?_ hro;simp only[Tryz.ntmps69,List.size_toArray,List.length_cons,List.length_nil,Nat.reduceAdd,Nat.reduceSub,Array.replicate_succ,Array.replicate_zero,List.push_toArray,List.append_toArray,List.nil_append,List.cons_append]
 gi_wp2_with fail
 refine HCK.o.mono ?_;rintro e w1 ⟨f,rfl,hf,hb⟩;have HB:Hid (Below w.heap.size w w1):=(three_bel w m).trans (hb.mono (by rw[three_size];omega));have HF:Hid (FaultIs ls f):=hf;have bM:Boxed w1 w.heap.size 3 (zI m):=boxed_same (three_m w m) (hb.block _ (three_m w m).lt);have bU:Boxed w1 (w.heap.size+1) 3 (zI 0):=boxed_same (three_u w m) (hb.block _ (three_u w m).lt);have bP:Boxed w1 (w.heap.size+1+1) 3 (zI 0):=boxed_same (three_p w m) (hb.block _ (three_p w m).lt);have hsz1:w.heap.size+3≤w1.heap.size:=by have:=hb.size;rw[three_size] at this;exact this
 clear hb;by_cases h0:f=0
 ·subst h0;have HR:Hid (Right ls):=hf.ok.1 rfl;have hpos:0<len:=by have:=HR.o.1.1;have:=HLEN.o;omega
  obtain⟨b,off,rfl,hbl,hcl⟩:=HRW.at hpos;have HC:Hid (∀i,i<len→w.cell? ⟨b,off+i*2,none⟩=some (zI (ls.getD i du0).a)∧w.cell? ⟨b,off+i*2+1,none⟩=some (zI (ls.getD i du0).b)):=hcl;have hl8:len≤8:=by have:=HR.o.1.2;have:=HLEN.o;omega
  clear hf hcl;have cM:=bM.cell;by_cases hx:0≤x∧x≤10000000
  ·rw[decide_eq_true hx] at HIX;by_cases hmm:0≤m∧m≤1000000000000
   ·rw[decide_eq_true hmm] at HIM;have HMM:Hid (MayMost x m):=⟨hx,hmm⟩
    have HTP:Hid (0≤Top x∧x+Top x≤10000000):=top_bd hx;obtain⟨hx0,hx1⟩:=hx;obtain⟨hm0,hm1⟩:=hmm
    gi_wp2_with fail
    refine(HIX.o _).mono ?_;rintro e w2 ⟨rfl,hw2⟩;subst w2
    gi_wp2_with fail
    refine(HIM.o _).mono ?_;rintro e w2 ⟨rfl,hw2⟩;subst w2;have hmin:=run_min 2097151 (10000000-x) (Top x) rfl;have HTX:Hid (Top x=Top x):=rfl;generalize hT:Top x=T at *
    gi_wp2_with (gi_at_call 103;refine(lines_in F (k-1) hFl hro _ _ _ _ _ _).mono ?_;rintro e w' ⟨rfl,rfl⟩)
    have hL:=lnd_of (w:=w) (w1:=w1) w.heap.size w1.heap.size b off len cap HR.o HLEN.o ⟨hx0,hx1⟩ HTP.o rfl hbl (by omega) HB.o HC.o;have bM2:=boxes_boxed bM (.slice (some ⟨b,off,none⟩) len cap) x T;have bU2:=boxes_boxed bU (.slice (some ⟨b,off,none⟩) len cap) x T;have bP2:=boxes_boxed bP (.slice (some ⟨b,off,none⟩) len cap) x T;have hB2:Below w.heap.size w (boxes w1 (.slice (some ⟨b,off,none⟩) len cap) x T):=boxes_bel HB.o (by omega) _ _ _;have hsz:=boxes_size w1 (.slice (some ⟨b,off,none⟩) len cap) x T;generalize boxes w1 (.slice (some ⟨b,off,none⟩) len cap) x T=W0 at *;generalize hB1:w1.heap.size=B at *;generalize hP0:w.heap.size=P at *;clear bM bU bP cM hmin
    refine wpIn_rangeFunc_ownH hro h1 (gf:=147) (lb:=#[.pointer (some ⟨B+1,0,none⟩),.pointer (some ⟨B,0,none⟩),.pointer (some ⟨B+1+1,0,none⟩)]) rfl hF1 (enters_of Tryz.func147 (by kernel_rfl) rfl)
     (lines_stops F (k-1) hF1 hro (by omega) P B b off len cap ls x T W0 hL) Kq.trans (kq_b hL.hn (by omega)) (Below.refl _ _) (λ_=>rfl)
     (λpre W=>(Boxed W P 3 (zI m)∧Boxed W (P+1) 3 (zI (sumA (lns pre)))∧Boxed W (P+1+1) 3 (zI (sumC (lns pre))))∧sumC (lns pre)≤m∧Below P w W∧W0.heap.size≤W.heap.size)
     (Full P w m)
     (OwnFrom.and (OwnFrom.and (Own.from (boxed_own _ _ _) _) (OwnFrom.and (Own.from (boxed_own _ _ _) _) (Own.from (boxed_own _ _ _) _))) (OwnFrom.and (ownFrom_pure _ _) (OwnFrom.and (ownFrom_below (by omega) (by omega)) (λ_ _ _ _ hs hg _=>Nat.le_trans hs hg.size))))
     (λc=>full_own P _ w m c (by omega) (by omega))
     ⟨⟨bM2,bU2,bP2⟩,hm0,hB2,Nat.le_refl _⟩
     (λt a' W=>∃Bx,B+3≤Bx∧Blk W Bx #[zI t.1.a,zI t.1.b,zI t.1.c] 166∧a'={ tmps:=#[.slice (some ⟨b,off,none⟩) len cap,zI x,zI m,undef,undef,.pointer (some ⟨P,0,none⟩),.pointer (some ⟨P+1,0,none⟩),.pointer (some ⟨P+1+1,0,none⟩),zI 0,.pointer (some ⟨Bx,0,none⟩),undef,.slice (some ⟨b,off,none⟩) len cap,zI 0,zI 0,.bool false,undef,zI x,.bool true,.bool false,.bool false,zI m,.bool true,.bool false,.bool false,.slice (some ⟨b,off,none⟩) len cap,zI x,zI x,zI (10000000-x),zI T,.func (.func 147) #[] #[.pointer (some ⟨B+1,0,none⟩),.pointer (some ⟨B,0,none⟩),.pointer (some ⟨B+1+1,0,none⟩)],.agg #[zI t.1.a,zI t.1.b,zI t.1.c],undef,undef,undef,undef,undef,undef,undef,undef,undef,undef,undef,undef,undef,undef,undef,undef,undef,undef,undef,undef,undef,undef,undef,undef],defers:=[] })
     (λt a' _ X Y row hs hg hr=>by obtain⟨Bx,h1,h2,h3⟩:=hs;exact⟨Bx,h1,blk_own Bx 166 (λ(_:Unit)=>#[zI t.1.a,zI t.1.b,zI t.1.c]) () X Y row h2 hg (λr e=>(hr r e).2),h3⟩)
     ?assign ?body ?done ?stop
    case assign=>
     rintro l pre t W K ⟨⟨b1,b2,b3⟩,hle,hBS,hSW⟩ hK;simp only[encL]
     gi_wp2
     exact hK _ _ ((KeepsOthers.alloc _ _).from _) ((Kq.refl _ _ _ W).alloc _ (by omega) (by omega)) ⟨⟨b1.alloc _,b2.alloc _,b3.alloc _⟩,hle,hBS.alloc (by omega) _,by simp;omega⟩ ⟨W.heap.size,by omega,Blk.new W _ _,rfl⟩
    case body=>
     rintro l pre t a' W hl ⟨r,hr⟩ ⟨⟨b1,b2,b3⟩,hle,hBS,hSW⟩ ⟨Bx,hBx,bX,rfl⟩ hlt;have h2:=sums_bd (lns pre) (lns_ok pre);have h3:=lns_len pre;have h4:=t.2.1;have h5:=t.2.2.1;have h6:=t.2.2.2.1;have h7:=t.2.2.2.2.1;have h8:=t.2.2.2.2.2;have h9:=prod_bd (show 0≤t.1.a by omega) h5 h6 h7;rw[← h8] at h9;have HN:=sums_one pre t;have c1:=b1.cell;have c2:=b2.cell;have c3:=b3.cell;have f2:=b2.frozen;have f3:=b3.frozen;have cX0:W.cell? ⟨Bx,0,none⟩=some (zI t.1.a):=bX.cell 0;have cX1:W.cell? ⟨Bx,1,none⟩=some (zI t.1.b):=bX.cell 1;have hs0:0≤sumC (lns pre):=h2.2;have hs2:sumA (lns pre)≤80000000:=by have:=h2.1.2;omega
     have hs1:0≤sumA (lns pre):=h2.1.1;have hq:=quo_bd (d:=m-sumC (lns pre)) (p:=t.1.b) (by omega) h6 rfl;have hp0:(t.1.b==0)=false:=by simp;omega
     have hqe:(m-sumC (lns pre)).tdiv t.1.b=(m-sumC (lns pre))/t.1.b:=Int.tdiv_eq_ediv_of_nonneg (by omega);clear h2 h3;obtain⟨hN1,hN2⟩:=HN;have HN1:Hid (sumA (lns (pre++[t]))=sumA (lns pre)+t.1.a):=hN1;have HN2:Hid (sumC (lns (pre++[t]))=sumC (lns pre)+t.1.c):=hN2;have HTC:Hid (t.1.c=t.1.a*t.1.b):=h8;have HXI:Hid (∀q W',0≤q∧q<t.1.a∧sumC (lns pre)+q*t.1.b≤m∧m<sumC (lns pre)+(q+1)*t.1.b→Boxed W' (P+1) 3 (zI (sumA (lns pre)+q))→Boxed W' (P+1+1) 3 (zI (sumC (lns pre)+q*t.1.b))→Below P w W'→Full P w m (.exit 0) (pre++[t]) W'):=λq W' h1 h2 h3 h4=>⟨⟨pre,t,q,rfl,rfl,h1,h2,h3⟩,h4⟩;clear hN1 hN2 h8;generalize t.1.a=ta at *;generalize t.1.b=tb at *;generalize t.1.c=tc at *;generalize sumC (lns pre)=s at *;generalize sumA (lns pre)=u at *;have hd0:0≤m-s:=by omega
     have hd1:m-s≤1000000000000:=by omega
     generalize (m-s)/tb=q at *;obtain⟨q0,q1,q2,q3⟩:=hq;by_cases hlt2:q<ta
     ·have hmin:=run_min ta q q (by omega);have hq4:=prod_bd (o:=q) (p:=tb) q0 (by omega) h6 h7;obtain⟨hq5,hq6⟩:=hq4;have hdd:decide (q<ta)=true:=decide_eq_true hlt2
      gi_wp2_with fail
      refine round_quiet hro hmo (by kernel_rfl) (by kernel_rfl) ?_
      repeat (gi_big_quiet_step (fail))
      refine wpQuietIn_nil ?_;intro _ hw';obtain⟨nq,hw''⟩:=hw';subst hw'';have e1:Boxed (W.drewN nq) P 3 (zI m):=b1;have e2:Boxed (W.drewN nq) (P+1) 3 (zI u):=b2;have e3:Boxed (W.drewN nq) (P+1+1) 3 (zI s):=b3;have eX:Blk (W.drewN nq) Bx #[zI ta,zI tb,zI tc] 166:=bX;have eK:KeepsOthers W (W.drewN nq):=⟨Nat.le_refl _,λ_ _ h _=>h⟩
      have eQ:Kq P B (B+3) W (W.drewN nq):=⟨bel_drewN (Below.refl _ _) nq,λ_ _ _=>rfl⟩
      have eB:Below P w (W.drewN nq):=bel_drewN hBS nq;have eS:W0.heap.size≤(W.drewN nq).heap.size:=hSW;clear c1 c2 c3 f2 f3 cX0 cX1 hmin b1 b2 b3 bX hBS hSW;generalize W.drewN nq=V at *;have c2:=e2.cell;have f2:=e2.frozen;have c3:=λv=>(e3.other (B':=P+1) (by omega) v).cell;have f3:=λv=>(e3.other (B':=P+1) (by omega) v).frozen;have cX1:∀v,(V.setCell ⟨P+1,0,none⟩ v).cell? ⟨Bx,1,none⟩=some (zI tb):=λv=>(eX.other 0 v (by omega)).cell 1;have cX0:∀v v2,((V.setCell ⟨P+1,0,none⟩ v).setCell ⟨P+1+1,0,none⟩ v2).cell? ⟨Bx,0,none⟩=some (zI ta):=λv v2=>((eX.other 0 v (by omega)).other 0 v2 (by omega)).cell 0
      gi_wp2_with fail
      exact⟨((eK.trans (KeepsOthers.setCell _ _ _)).trans (KeepsOthers.setCell _ _ _)).from _,HXI.o q _ ⟨q0,hlt2,by omega,by omega⟩ ((e2.set _).other (by omega) _) ((e3.other (by omega) _).set _) ((eB.setCell (p:=⟨P+1,0,none⟩) (by show P≤P+1;omega) _).setCell (p:=⟨P+1+1,0,none⟩) (by show P≤P+1+1;omega) _)⟩
     ·have hmin:=run_min ta q ta (by omega);have hta:ta*tb=tc:=HTC.o.symm;have htc0:0≤tc:=h9.1;have htc1:tc≤1000000000000:=h9.2;have hml:tc≤q*tb:=by rw[← hta];exact Int.mul_le_mul_of_nonneg_right (by omega) (by omega)
      have hdd:decide (ta<ta)=false:=decide_eq_false (by omega)
      gi_wp2_with fail
      refine round_quiet hro hmo (by kernel_rfl) (by kernel_rfl) ?_
      repeat (gi_big_quiet_step (fail))
      refine wpQuietIn_nil ?_;intro _ hw';obtain⟨nq,hw''⟩:=hw';subst hw'';have e1:Boxed (W.drewN nq) P 3 (zI m):=b1;have e2:Boxed (W.drewN nq) (P+1) 3 (zI u):=b2;have e3:Boxed (W.drewN nq) (P+1+1) 3 (zI s):=b3;have eX:Blk (W.drewN nq) Bx #[zI ta,zI tb,zI tc] 166:=bX;have eK:KeepsOthers W (W.drewN nq):=⟨Nat.le_refl _,λ_ _ h _=>h⟩
      have eQ:Kq P B (B+3) W (W.drewN nq):=⟨bel_drewN (Below.refl _ _) nq,λ_ _ _=>rfl⟩
      have eB:Below P w (W.drewN nq):=bel_drewN hBS nq;have eS:W0.heap.size≤(W.drewN nq).heap.size:=hSW;clear c1 c2 c3 f2 f3 cX0 cX1 hmin b1 b2 b3 bX hBS hSW;generalize W.drewN nq=V at *;have c2:=e2.cell;have f2:=e2.frozen;have c3:=λv=>(e3.other (B':=P+1) (by omega) v).cell;have f3:=λv=>(e3.other (B':=P+1) (by omega) v).frozen;have cX1:∀v,(V.setCell ⟨P+1,0,none⟩ v).cell? ⟨Bx,1,none⟩=some (zI tb):=λv=>(eX.other 0 v (by omega)).cell 1;have cX0:∀v v2,((V.setCell ⟨P+1,0,none⟩ v).setCell ⟨P+1+1,0,none⟩ v2).cell? ⟨Bx,0,none⟩=some (zI ta):=λv v2=>((eX.other 0 v (by omega)).other 0 v2 (by omega)).cell 0
      gi_wp2_with fail
      exact⟨((eK.trans (KeepsOthers.setCell _ _ _)).trans (KeepsOthers.setCell _ _ _)).from _,(eQ.set (P+1) 0 _ (by omega) (.inl (by omega))).set (P+1+1) 0 _ (by omega) (.inl (by omega)),⟨(e1.other (by omega) _).other (by omega) _,by rw[HN1.o];exact(e2.set _).other (by omega) _,by rw[HN2.o];exact(e3.other (by omega) _).set _⟩,by rw[HN2.o];omega,(eB.setCell (p:=⟨P+1,0,none⟩) (by show P≤P+1;omega) _).setCell (p:=⟨P+1+1,0,none⟩) (by show P≤P+1+1;omega) _,by simp[World.setCell];omega⟩
    case done=>
     rintro D ys W hD hys ⟨⟨b1,b2,b3⟩,hle,hBS,hSW⟩ hK
     have HM:Hid (MostOf ls x m (sumA (lns ys))∧sumC (lns ys)=cost ls x (x+sumA (lns ys))):=by
      have h:=most_all HR.o x m ⟨hx0,hx1⟩;rw[hT,HLEN.o,← hys] at h;exact h hle
     clear hys hle;generalize sumA (lns ys)=u at *;generalize sumC (lns ys)=s at *
     gi_wp2_with fail
     obtain⟨Z,hZ⟩:∃Z,((W.setCell ⟨P+1,0,none⟩ (zI u)).setCell ⟨P+1+1,0,none⟩ (zI s)).drew=Z:=⟨_,rfl⟩
     have hKD:Z.heap[D]?=some (.deferred (some [])):=by
      rw[← hZ];exact((KeepsOthers.setCell W ⟨P+1,0,none⟩ (zI u)).trans (KeepsOthers.setCell _ ⟨P+1+1,0,none⟩ (zI s))).same D _ hK rfl
     have HE2:Boxed Z (P+1) 3 (zI u):=by rw[← hZ];exact(b2.set (zI u)).other (B':=P+1+1) (by omega) (zI s)
     have HE3:Boxed Z (P+1+1) 3 (zI s):=by rw[← hZ];exact(b3.other (B':=P+1) (by omega) (zI u)).set (zI s)
     have HEB:Hid (Below w.heap.size w (Z.putObj D (.deferred none))):=by
      have h:Below P w Z:=by
       rw[← hZ];exact bel_drewN ((hBS.setCell (p:=⟨P+1,0,none⟩) (by show P≤P+1;omega) _).setCell (p:=⟨P+1+1,0,none⟩) (by show P≤P+1+1;omega) _) 1
      show Below w.heap.size w (Z.putObj D (.deferred none));rw[hP0];exact h.trans (belowK_b (w:=w) (by omega) _ D _ _ (by omega) hKD rfl rfl)
     have r2:=cell_kept HE2.cell (grownBy_putObj' _ D (.deferred none)) (λr e=>by cases e;exact⟨_,hKD,rfl⟩);have r3:=cell_kept HE3.cell (grownBy_putObj' _ D (.deferred none)) (λr e=>by cases e;exact⟨_,hKD,rfl⟩);have HZ:Hid (((W.setCell ⟨P+1,0,none⟩ (zI u)).setCell ⟨P+1+1,0,none⟩ (zI s)).drew=Z):=hZ;clear hZ;have g2:=b2.cell;have g2':=b2.frozen;have g3:=b3.cell;have g3':=λv=>(b3.other (B':=P+1) (by omega) v).cell;have g3'':=λv=>(b3.other (B':=P+1) (by omega) v).frozen
     gi_region_with_o (fail)
     all_goals gi_wp2
     all_goals rw[HZ.o]
     all_goals refine⟨by simp,.inl ⟨_,_,rfl,run_takeDeferred hKD,?_⟩⟩
     all_goals refine⟨.tuple #[zI u,zI s,zI 0],?_,u,s,0,rfl,.inr (.inr ⟨HR.o,HMM.o,rfl,HM.o.1,HM.o.2⟩),HEB.o⟩
     all_goals simp[results,Tryz.f69,go_sem,r2,r3]
    case stop=>
     rintro D c pre W hD hpre ⟨⟨p,t,q,rfl,rfl,⟨g1,g2,g3,g4⟩,b2,b3⟩,hBS⟩ hK
     have HM:Hid (MostOf ls x m (sumA (lns p)+q)∧sumC (lns p)+q*t.1.b=cost ls x (x+(sumA (lns p)+q))):=by
      have h:=most_cut HR.o x m q ⟨hx0,hx1⟩ (lns p) t.1;rw[hT,HLEN.o,← snoc_one] at h;exact h hpre g1 g2 g3 g4
     clear hpre g3 g4;generalize sumA (lns p)+q=u at *;generalize sumC (lns p)+q*t.1.b=s at *
     gi_wp2_with fail
     obtain⟨Z,hZ⟩:∃Z,((W.setCell ⟨P+1,0,none⟩ (zI u)).setCell ⟨P+1+1,0,none⟩ (zI s)).drew=Z:=⟨_,rfl⟩
     have hKD:Z.heap[D]?=some (.deferred (some [])):=by
      rw[← hZ];exact((KeepsOthers.setCell W ⟨P+1,0,none⟩ (zI u)).trans (KeepsOthers.setCell _ ⟨P+1+1,0,none⟩ (zI s))).same D _ hK rfl
     have HE2:Boxed Z (P+1) 3 (zI u):=by rw[← hZ];exact(b2.set (zI u)).other (B':=P+1+1) (by omega) (zI s)
     have HE3:Boxed Z (P+1+1) 3 (zI s):=by rw[← hZ];exact(b3.other (B':=P+1) (by omega) (zI u)).set (zI s)
     have HEB:Hid (Below w.heap.size w (Z.putObj D (.deferred none))):=by
      have h:Below P w Z:=by
       rw[← hZ];exact bel_drewN ((hBS.setCell (p:=⟨P+1,0,none⟩) (by show P≤P+1;omega) _).setCell (p:=⟨P+1+1,0,none⟩) (by show P≤P+1+1;omega) _) 1
      show Below w.heap.size w (Z.putObj D (.deferred none));rw[hP0];exact h.trans (belowK_b (w:=w) (by omega) _ D _ _ (by omega) hKD rfl rfl)
     have r2:=cell_kept HE2.cell (grownBy_putObj' _ D (.deferred none)) (λr e=>by cases e;exact⟨_,hKD,rfl⟩);have r3:=cell_kept HE3.cell (grownBy_putObj' _ D (.deferred none)) (λr e=>by cases e;exact⟨_,hKD,rfl⟩);have HZ:Hid (((W.setCell ⟨P+1,0,none⟩ (zI u)).setCell ⟨P+1+1,0,none⟩ (zI s)).drew=Z):=hZ;clear hZ;have g2:=b2.cell;have g2':=b2.frozen;have g3:=b3.cell;have g3':=λv=>(b3.other (B':=P+1) (by omega) v).cell;have g3'':=λv=>(b3.other (B':=P+1) (by omega) v).frozen
     gi_region_with_o (fail)
     all_goals gi_wp2
     all_goals rw[HZ.o]
     all_goals refine⟨by simp,.inl ⟨_,_,rfl,run_takeDeferred hKD,?_⟩⟩
     all_goals refine⟨.tuple #[zI u,zI s,zI 0],?_,u,s,0,rfl,.inr (.inr ⟨HR.o,HMM.o,rfl,HM.o.1,HM.o.2⟩),HEB.o⟩
     all_goals simp[results,Tryz.f69,go_sem,r2,r3]
   ·rw[decide_eq_false hmm] at HIM;have HN:Hid (¬ MayMost x m):=λh=>hmm h.2;clear hmm;have e2:=(bU.set (zI 0)).other (B':=w.heap.size+1+1) (by omega) (zI 0);have e3:=(bP.other (B':=w.heap.size+1) (by omega) (zI 0)).set (zI 0);have cU:=bU.cell;have fU:=bU.frozen;have cP:=λv=>(bP.other (B':=w.heap.size+1) (by omega) v).cell;have fP:=λv=>(bP.other (B':=w.heap.size+1) (by omega) v).frozen;have HEB:Hid (Below w.heap.size w ((w1.setCell ⟨w.heap.size+1,0,none⟩ (zI 0)).setCell ⟨w.heap.size+1+1,0,none⟩ (zI 0))):=(HB.o.setCell (p:=⟨w.heap.size+1,0,none⟩) (by show w.heap.size≤w.heap.size+1;omega) _).setCell (p:=⟨w.heap.size+1+1,0,none⟩) (by show w.heap.size≤w.heap.size+1+1;omega) _
    gi_wp2_with fail
    refine(HIX.o _).mono ?_;rintro e w2 ⟨rfl,hw2⟩;subst w2
    gi_wp2_with fail
    refine(HIM.o _).mono ?_;rintro e w2 ⟨rfl,hw2⟩;subst w2
    gi_wp2_with fail
    have r2:=e2.cell;have r3:=e3.cell;refine⟨.tuple #[zI 0,zI 0,zI 2],?_,0,0,2,rfl,.inr (.inl ⟨HR.o,HN.o,rfl,rfl,rfl⟩),HEB.o⟩;simp[results,Tryz.f69,go_sem,r2,r3]
  ·rw[decide_eq_false hx] at HIX;have HN:Hid (¬ MayMost x m):=λh=>hx h.1;clear hx;have e2:=(bU.set (zI 0)).other (B':=w.heap.size+1+1) (by omega) (zI 0);have e3:=(bP.other (B':=w.heap.size+1) (by omega) (zI 0)).set (zI 0);have cU:=bU.cell;have fU:=bU.frozen;have cP:=λv=>(bP.other (B':=w.heap.size+1) (by omega) v).cell;have fP:=λv=>(bP.other (B':=w.heap.size+1) (by omega) v).frozen;have HEB:Hid (Below w.heap.size w ((w1.setCell ⟨w.heap.size+1,0,none⟩ (zI 0)).setCell ⟨w.heap.size+1+1,0,none⟩ (zI 0))):=(HB.o.setCell (p:=⟨w.heap.size+1,0,none⟩) (by show w.heap.size≤w.heap.size+1;omega) _).setCell (p:=⟨w.heap.size+1+1,0,none⟩) (by show w.heap.size≤w.heap.size+1+1;omega) _
   gi_wp2_with fail
   refine(HIX.o _).mono ?_;rintro e w2 ⟨rfl,hw2⟩;subst w2
   gi_wp2_with fail
   have r2:=e2.cell;have r3:=e3.cell;refine⟨.tuple #[zI 0,zI 0,zI 2],?_,0,0,2,rfl,.inr (.inl ⟨HR.o,HN.o,rfl,rfl,rfl⟩),HEB.o⟩;simp[results,Tryz.f69,go_sem,r2,r3]
 ·have hne:(f != 0)=true:=by simpa using h0
  have HN:Hid (¬ Right ls):=λh=>h0 (hf.ok.2 h);clear hf h0;have e2:=(bU.set (zI 0)).other (B':=w.heap.size+1+1) (by omega) (zI 0);have e3:=(bP.other (B':=w.heap.size+1) (by omega) (zI 0)).set (zI 0);have cU:=bU.cell;have fU:=bU.frozen;have cP:=λv=>(bP.other (B':=w.heap.size+1) (by omega) v).cell;have fP:=λv=>(bP.other (B':=w.heap.size+1) (by omega) v).frozen;have HEB:Hid (Below w.heap.size w ((w1.setCell ⟨w.heap.size+1,0,none⟩ (zI 0)).setCell ⟨w.heap.size+1+1,0,none⟩ (zI 0))):=(HB.o.setCell (p:=⟨w.heap.size+1,0,none⟩) (by show w.heap.size≤w.heap.size+1;omega) _).setCell (p:=⟨w.heap.size+1+1,0,none⟩) (by show w.heap.size≤w.heap.size+1+1;omega) _
  gi_wp2_with fail
  have r2:=e2.cell;have r3:=e3.cell;refine⟨.tuple #[zI 0,zI 0,zI f],?_,0,0,f,rfl,.inl ⟨HN.o,HF.o,rfl,rfl⟩,HEB.o⟩;simp[results,Tryz.f69,go_sem,r2,r3]
theorem kmost:KtMost:=λw a len b d x n c _ _=>(callsIn_wide (n:=6)).1 (pmost_in Fence.wide 6 (by omega) trivial trivial trivial trivial trivial rfl w a len b d x n c (callsIn_wide.2 (kcheck (three w n) a len b d (c.below (three_bel w n)))) (λW=>callsIn_wide.2 (pwithin 0 10000000 x W)) (λW=>callsIn_wide.2 (pwithin 0 1000000000000 n W)))
end tar
namespace acc
open tar (Du du0 Came RowD Ld PairT)
open Go.RowKit
def MayPost(w:World)(x:Ac)(e:Ending)(w':World):Prop:=∃r,e=.returned (.bool r)∧(r=true↔AMay x)∧zB w w'
theorem pmay(x:Ac)(p:Option Addr)(len cap:Nat)(w:World)(h:Came w p len cap x.ds):Calls Tryz.prog 64 #[.agg #[zI x.me,zI x.rv,zI x.nx,zI x.mo,zI x.bo,zI x.fr,.slice p len cap]] w λe w'=>MayPost w x e w':=by
 have g:Hid (∀W,zC 66 #[zI 0,zI 49,zI x.me] W λe w'=>e=.returned (.bool (decide (0≤x.me∧x.me≤49)))∧w'=W):=λW=>awithin 0 49 x.me W;have i:Hid (∀W,zC 66 #[zI 0,zI 15,zI x.rv] W λe w'=>e=.returned (.bool (decide (0≤x.rv∧x.rv≤15)))∧w'=W):=λW=>awithin 0 15 x.rv W;have j:Hid (∀W,zC 66 #[zI 1,zI 1048576,zI x.nx] W λe w'=>e=.returned (.bool (decide (1≤x.nx∧x.nx≤1048576)))∧w'=W):=λW=>awithin 1 1048576 x.nx W;have k:Hid (∀W,zC 66 #[zI 0,zI 2399,zI x.mo] W λe w'=>e=.returned (.bool (decide (0≤x.mo∧x.mo≤2399)))∧w'=W):=λW=>awithin 0 2399 x.mo W;have l:Hid (∀W,zC 66 #[zI 0,zI 10000000,zI x.bo] W λe w'=>e=.returned (.bool (decide (0≤x.bo∧x.bo≤10000000)))∧w'=W):=λW=>awithin 0 10000000 x.bo W;have m:Hid (∀W,zC 66 #[zI (-1),zI x.mo,zI x.fr] W λe w'=>e=.returned (.bool (decide (-1≤x.fr∧x.fr≤x.mo)))∧w'=W):=λW=>awithin (-1) x.mo x.fr W;obtain⟨F,E,r,q,-⟩:=sh1 w #[zI x.me,zI x.rv,zI x.nx,zI x.mo,zI x.bo,zI x.fr,.slice p len cap] 55;have D:Hid (zC 96 #[.slice p len cap] F λe w'=>tar.TwoPost F (deb.OwedIs x.ds) e w'):=deb.ktotal _ p len cap x.ds (h.below q.o);have H:F.cell? ⟨w.heap.size,6,none⟩=some (.slice p len cap):=r.o.cell 6;clear h;go_enter Tryz.func64,Tryz.ntmps64;go_upto_region 1 with fail
 rw[E.o];go_wp2_with fail;refine D.o.mono ?_;rintro e P ⟨O,f,rfl,hf,n⟩;have c:=shB q n;have C:=shN r n;have G:Hid (f=0↔deb.Mays x.ds):=hf.1.ok;clear hf n H;obtain⟨c0,c1,c2,K,L,M,H⟩:=scl7 C;by_cases B:f=0
 ·have I:Hid (deb.Mays x.ds):=G.o.1 B;subst B;by_cases s:0≤x.me∧x.me≤49
  ·rw[decide_eq_true s] at g;go_wp2_with fail;refine(g.o _).mono ?_;rintro e b ⟨rfl,a⟩;subst b;by_cases t:0≤x.rv∧x.rv≤15
   ·rw[decide_eq_true t] at i;go_wp2_with fail;refine(i.o _).mono ?_;rintro e b ⟨rfl,a⟩;subst b;by_cases u:1≤x.nx∧x.nx≤1048576
    ·rw[decide_eq_true u] at j;go_wp2_with fail;refine(j.o _).mono ?_;rintro e b ⟨rfl,a⟩;subst b;by_cases y:0≤x.mo∧x.mo≤2399
     ·rw[decide_eq_true y] at k;go_wp2_with fail;refine(k.o _).mono ?_;rintro e b ⟨rfl,a⟩;subst b;by_cases z:0≤x.bo∧x.bo≤10000000
      ·rw[decide_eq_true z] at l;go_wp2_with fail;refine(l.o _).mono ?_;rintro e b ⟨rfl,a⟩;subst b;by_cases A:-1≤x.fr∧x.fr≤x.mo
       ·rw[decide_eq_true A] at m;go_wp2_with fail;refine(m.o _).mono ?_;rintro e b ⟨rfl,a⟩;subst b;have J:Hid (AMay x):=⟨I.o,s,t,u,y,z,A⟩
        go_wp2_with fail;go_ret;exact⟨true,rfl,⟨λ_=>J.o,λ_=>rfl⟩,c.o⟩
       ·rw[decide_eq_false A] at m;have d:Hid (¬ AMay x):=λh=>A h.2.2.2.2.2.2;clear A;go_wp2_with fail;refine(m.o _).mono ?_;rintro e b ⟨rfl,a⟩;subst b;go_wp2_with fail
        all_goals first
         |(rename_i q1 q2;exact absurd q1 (by simp[undef]))
         |(go_ret;exact⟨false,rfl,⟨λh=>absurd h (by decide),λh=>absurd h d.o⟩,c.o⟩)
      ·rw[decide_eq_false z] at l;have d:Hid (¬ AMay x):=λh=>z h.2.2.2.2.2.1;clear z;go_wp2_with fail;refine(l.o _).mono ?_;rintro e b ⟨rfl,a⟩;subst b;go_wp2_with fail
       all_goals first
        |(rename_i q1 q2;exact absurd q1 (by simp[undef]))
        |(go_ret;exact⟨false,rfl,⟨λh=>absurd h (by decide),λh=>absurd h d.o⟩,c.o⟩)
     ·rw[decide_eq_false y] at k;have d:Hid (¬ AMay x):=λh=>y h.2.2.2.2.1;clear y;go_wp2_with fail;refine(k.o _).mono ?_;rintro e b ⟨rfl,a⟩;subst b;go_wp2_with fail
      all_goals first
       |(rename_i q1 q2;exact absurd q1 (by simp[undef]))
       |(go_ret;exact⟨false,rfl,⟨λh=>absurd h (by decide),λh=>absurd h d.o⟩,c.o⟩)
    ·rw[decide_eq_false u] at j;have d:Hid (¬ AMay x):=λh=>u h.2.2.2.1;clear u;go_wp2_with fail;refine(j.o _).mono ?_;rintro e b ⟨rfl,a⟩;subst b;go_wp2_with fail
     all_goals first
      |(rename_i q1 q2;exact absurd q1 (by simp[undef]))
      |(go_ret;exact⟨false,rfl,⟨λh=>absurd h (by decide),λh=>absurd h d.o⟩,c.o⟩)
   ·rw[decide_eq_false t] at i;have d:Hid (¬ AMay x):=λh=>t h.2.2.1;clear t;go_wp2_with fail;refine(i.o _).mono ?_;rintro e b ⟨rfl,a⟩;subst b;go_wp2_with fail
    all_goals first
     |(rename_i q1 q2;exact absurd q1 (by simp[undef]))
     |(go_ret;exact⟨false,rfl,⟨λh=>absurd h (by decide),λh=>absurd h d.o⟩,c.o⟩)
  ·rw[decide_eq_false s] at g;have d:Hid (¬ AMay x):=λh=>s h.2.1;clear s;go_wp2_with fail;refine(g.o _).mono ?_;rintro e b ⟨rfl,a⟩;subst b;go_wp2_with fail
   all_goals first
    |(rename_i q1 q2;exact absurd q1 (by simp[undef]))
    |(go_ret;exact⟨false,rfl,⟨λh=>absurd h (by decide),λh=>absurd h d.o⟩,c.o⟩)
 ·have N:(f==0)=false:=by simpa using B
  have d:Hid (¬ AMay x):=λh=>B (G.o.2 h.1);clear B;go_wp2_with fail
  all_goals first
   |(rename_i q1 q2;exact absurd q1 (by simp[undef]))
   |(go_ret;exact⟨false,rfl,⟨λh=>absurd h (by decide),λh=>absurd h d.o⟩,c.o⟩)
theorem wp_copyD{P:Program}{T S:TypeId}(hP:PairT P T S){w:World}{ops:Array Oper}{rest:List Oper}{o:Oper}{a:Act}{Q:Exit→Act→World→Prop}(hgd:o.guard=none)(s x:Operand)
  (ho:o.op=.call { callee:=.builtin .append,args:=#[s,x],argTypes:=#[S,S] })
  (base:Nat) (p:Option Addr) (len cap:Nat) (zs:List Du) (hs:a.eval s=zS) (hx:a.eval x=.slice p len cap) (hc:Came w p len cap zs) (hbase:base≤w.heap.size)
  (h:∀v' w',Ld T w' base v' zs→w.grownBy w' none→wpList P ops Q rest (a.put o.dst v') w'):wpList P ops Q (o::rest) a w:=by
 cases p with
 |some A=>exact tar.wp_pairs hP hgd s x ho base A len cap zs hs hx hc.row hc.bytes hbase h
 |none=>
  have c:=hc.nil rfl;have d:len=0:=by have:=hc.room;omega
  have e:zs=[]:=List.eq_nil_of_length_eq_zero (by have:=hc.row.1;omega);subst c d e;have f:=hP.under;have b:=hP.info;cases hq:P.info? T with
  |none=>rw[hq] at b;cases b
  |some i=>
   refine wpList_append_own_none hgd s x S ho base T i 2 f hq (zS) 0 [] hs (World.ownsRow_nil _ _ _ _) hx ?_;exact h _ _ (tar.Ld.zero _ _ _) ⟨rfl,rfl,rfl,zc,λ_ _ _=>rfl⟩
theorem pwork(F:Nat)(caps:Array Value)(Is:Ac→Bi→Int→Prop)(x:Ac)(p:Option Addr)(len cap:Nat)(w:World)(hc:Came w p len cap x.ds)(h5:¬ AMay x→Is ac0 bi0 5)(hK:∀args w,(callFunc F args).run Tryz.prog w=.ok (.enter F args) w)
  (hf:AMay x→∀(W:World)(g:Nat)(p':Option Addr)(cap':Nat),zB w W→w.heap.size≤g→Blk W g (wcs x bi0 p' len cap') 132→Ld 42 W (g+1) (.slice p' len cap') x.ds→zC F (#[.pointer (some ⟨g,0,none⟩)]++caps) W λe w'=>WPost W g (Or0 Is) e w'):
  Calls Tryz.prog 32 #[.agg #[zI x.me,zI x.rv,zI x.nx,zI x.mo,zI x.bo,zI x.fr,.slice p len cap],.func (.func F) #[] caps] w λe w'=>BPost w Is e w':=by
 have ay:=zh hf;have a6:=zh hc.row.1;have H5:=zh h5;clear hf h5;obtain⟨W0,aD,ah,aj,ai,R,aP⟩:=sh3 w #[zI x.me,zI x.rv,zI x.nx,zI x.mo,zI x.bo,zI x.fr,.slice p len cap] 55 #[zI 0,zI 0,zI 0,zI 0,zI 0,zI 0,zS] 55 #[zI 0,zI 0,zI 0,zI 0,zI 0,zI 0,zI 0] 33;have T:=zh (hc.below R.o);go_enter Tryz.func32,Tryz.ntmps32;go_upto_region 1 with fail
 rw[aD.o];clear hc;have aB:=zh (pmay x p len cap W0 T.o);go_wp2_with refine zw ?_;refine aB.o.mono ?_;rintro e s ⟨r,rfl,hr,t⟩;obtain⟨C,al,V⟩:=zn3 t ah aj ai;have ak:=zh (T.o.below t);have U:=shB R t;have aJ:=t.size;clear t;cases r with
 |false=>
  have HV:Hid (Is ac0 bi0 5):=H5.o λh=>Bool.noConfusion (hr.2 h);clear hr hK;go_wp2_with (first|refine zs ?_|refine zw ?_)
  intro aQ a;obtain⟨u,X⟩:=zk2 a C V;have D:=zk a U;have E:=zyb a;have aE:=a.size;clear a;go_wp2_with (first|refine zs ?_|refine zw ?_)
  intro aM a;obtain⟨Y,I⟩:=zk2 a u E;have G:=zk a D;have H:=zyb a;have af:=a.size;clear a;go_wp2_with fail;exact zr (.tuple #[.agg #[zI 0,zI 0,zI 0,zI 0,zI 0,zI 0,zS],.agg #[zI 0,zI 0,zI 0,zI 0,zI 0,zI 0,zI 0],zI 5]) (by simp[results,Tryz.results32,scl7 I,scl7 H,go_sem]) ⟨ac0,bi0,none,0,0,_,rfl,HV.o,deb.fresh_nil _ _,G.o⟩
 |true=>
  have HM:Hid (AMay x):=hr.1 rfl;clear hr;have aC:=zh C.o;have u:=zya C (.cells #[zI x.me,zI x.rv,zI x.nx,zI x.mo,zI x.bo,zI x.fr,.slice p len cap,zI 0,zI 0,zI 0,zI 0,zI 0,zI 0,zI 0] 132);have E:=zya al (.cells #[zI x.me,zI x.rv,zI x.nx,zI x.mo,zI x.bo,zI x.fr,.slice p len cap,zI 0,zI 0,zI 0,zI 0,zI 0,zI 0,zI 0] 132);have X:=zya V (.cells #[zI x.me,zI x.rv,zI x.nx,zI x.mo,zI x.bo,zI x.fr,.slice p len cap,zI 0,zI 0,zI 0,zI 0,zI 0,zI 0,zI 0] 132);have am:Hid (Came (s.alloc (.cells #[zI x.me,zI x.rv,zI x.nx,zI x.mo,zI x.bo,zI x.fr,.slice p len cap,zI 0,zI 0,zI 0,zI 0,zI 0,zI 0,zI 0] 132)) p len cap x.ds):=ak.o.below (zb.alloc zc _);have an:=zye s #[zI x.me,zI x.rv,zI x.nx,zI x.mo,zI x.bo,zI x.fr,.slice p len cap,zI 0,zI 0,zI 0,zI 0,zI 0,zI 0,zI 0] 132;have D:=zyf U (.cells #[zI x.me,zI x.rv,zI x.nx,zI x.mo,zI x.bo,zI x.fr,.slice p len cap,zI 0,zI 0,zI 0,zI 0,zI 0,zI 0,zI 0] 132);have aH:(s.alloc (.cells #[zI x.me,zI x.rv,zI x.nx,zI x.mo,zI x.bo,zI x.fr,.slice p len cap,zI 0,zI 0,zI 0,zI 0,zI 0,zI 0,zI 0] 132)).heap.size=s.heap.size+1:=by simp
  go_upto_region 4 with(first|(refine zqw rfl rfl rfl aC zqu55 ?_)|fail)
  generalize (s.alloc (.cells #[zI x.me,zI x.rv,zI x.nx,zI x.mo,zI x.bo,zI x.fr,.slice p len cap,zI 0,zI 0,zI 0,zI 0,zI 0,zI 0,zI 0] 132))=W2 at *;have aG:=zy6 u;go_wp2_with (first|(at_builtin;refine wp_copyD deb.debtT rfl _ _ rfl (s.heap.size+1) p len cap x.ds rfl rfl am.o (by omega) ?_)|refine zw ?_)
  intro v3 w3 Q ab;have A:zB W2 w3:=zb.grown ab zc (λk hk=>by cases hk);obtain⟨p3,a8,ae,a9⟩:=deb.ld_fresh Q HM.o.1;rw[a6.o] at ae a9;subst ae;obtain⟨Y,I,H,aO⟩:=zn4 A u E X an;have G:=shB D A;have az:=zh Q;have aK:=A.size;clear Q ab A a9 aG;go_wp2_with (first|refine zm ?_|refine zw ?_)
  intro W4 a;obtain⟨ao,ar,ap⟩:=zk3 a Y I H;have Z:=zk a G;have aq:=zyb a;have aA:=zh (ld_upd az.o a (by omega));have ax:=zh (ay.o HM.o W4 s.heap.size p3 a8 Z.o (by omega) aq.o aA.o);have aI:=a.size;clear a;go_wp2_with fail;refine ax.o.mono ?_;rintro e w5 ⟨y,b,q,n,c,f,rfl,ad,ac,aa,m⟩;have a1:=zh (ao.o.below m (by omega));have au:=zh (ar.o.below m (by omega));have a2:=zh (ap.o.below m (by omega));have J:=zh ac;have a0:=zh (Z.o.trans (m.mono (by omega)));have aL:=m.size;have L:=zh aa;have B:=zh (came_lt L.o.came);have a7:=zh ad;clear ad ac aa m hK;by_cases h0:f=0
  ·subst h0
   have HV:Hid (Is y b 0):=by
    rcases a7.o with⟨h,_⟩|⟨_,h⟩
    ·exact absurd rfl h
    ·exact h
   go_wp2_with fail;refine wp_region_held_drew (S:=λv=>Blk v (s.heap.size) #[zI y.me,zI y.rv,zI y.nx,zI y.mo,zI y.bo,zI y.fr,.slice q n c,zI b.id,zI b.te,zI b.de,zI b.fe,zI b.pr,zI b.ch,zI b.un] 132) (by kernel_rfl) (Blk.drew J.o 1) (λl=>?_);refine zt' 0 (.pointer (some ⟨s.heap.size,0,none⟩)) ?_;refine zu' 1 (.agg #[zI y.me,zI y.rv,zI y.nx,zI y.mo,zI y.bo,zI y.fr,.slice q n c]) rfl rfl (Or.inl ⟨by rfl,λv j=>by have g0:=j.cell 0;have g1:=j.cell 1;have g2:=j.cell 2;have g3:=j.cell 3;have g4:=j.cell 4;have g5:=j.cell 5;have g6:=j.cell 6;clear j;go_simp⟩) ?_;refine zt' 2 (.pointer (some ⟨s.heap.size,7,none⟩)) ?_;refine zu' 3 (.agg #[zI b.id,zI b.te,zI b.de,zI b.fe,zI b.pr,zI b.ch,zI b.un]) rfl rfl (Or.inl ⟨by rfl,λv j=>by have g0:=j.cell 7;have g1:=j.cell 8;have g2:=j.cell 9;have g3:=j.cell 10;have g4:=j.cell 11;have g5:=j.cell 12;have g6:=j.cell 13;clear j;go_simp⟩) ?_;refine zo 4 λK hK=>?_;rw[if_pos (by rfl)];refine wp_letOp 55 _ _ rfl (w.heap.size+1) rfl #[zI y.me,zI y.rv,zI y.nx,zI y.mo,zI y.bo,zI y.fr,.slice q n c] rfl (by kernel_rfl) (by simp[Value.oneCell']) #[zI 0,zI 0,zI 0,zI 0,zI 0,zI 0,zS] 55 (Blk.drew au.o 1) rfl rfl ?_;intro V1 a;have N:=zh (a.keep (Blk.drew a1.o 1) (by omega));have O:=zyb a;have a4:=zh (a.keep (Blk.drew a2.o 1) (by omega));have z:=zh (a.keep (Blk.drew J.o 1) (by omega));have a3:Hid (deb.Fresh V1 (s.heap.size+1) q n c y.ds):=fresh_updN (fresh_drew L.o) a (λhn y hy=>by have f1:=L.o.new hn y hy;have f2:=B.o hn y hy;omega);have M:Hid (zB w V1):=a.bel _ _ (by omega) a0.o.drew;clear a;refine hK.o _ _ z.o (λl=>?_);clear hK K;refine zo 5 λK hK=>?_;rw[if_pos (by rfl)];refine wp_letOp 33 _ _ rfl (w.heap.size+1+1) rfl #[zI b.id,zI b.te,zI b.de,zI b.fe,zI b.pr,zI b.ch,zI b.un] rfl (by kernel_rfl) (by simp[Value.oneCell']) #[zI 0,zI 0,zI 0,zI 0,zI 0,zI 0,zI 0] 33 a4.o rfl rfl ?_
   intro V2 a;obtain⟨aw,i,a5⟩:=zk3 a N O z;have d:=zyb a;have av:Hid (deb.Fresh V2 (s.heap.size+1) q n c y.ds):=fresh_updN a3.o a (λhn y hy=>by have f1:=a3.o.new hn y hy;have f2:=B.o hn y hy;omega);have P:=zk a M;clear a;refine hK.o _ _ a5.o (λl=>?_);clear hK K;refine zt' 6 (zI 0) ?_;refine wpAnyH_done (by kernel_rfl) ?_ _;clear l;go_wp2_with fail;exact zr (.tuple #[.agg #[zI y.me,zI y.rv,zI y.nx,zI y.mo,zI y.bo,zI y.fr,.slice q n c],.agg #[zI b.id,zI b.te,zI b.de,zI b.fe,zI b.pr,zI b.ch,zI b.un],zI 0]) (by simp[results,Tryz.results32,zy0 i,zy1 i,zy2 i,zy3 i,zy4 i,zy5 i,zy6 i,zy0 d,zy1 d,zy2 d,zy3 d,zy4 d,zy5 d,zy6 d,go_sem]) ⟨y,b,q,n,c,0,rfl,HV.o,av.o.low (by omega),P.o⟩
  ·have d0:(f != 0)=true:=by simpa using h0
   have HV:Hid (Is ac0 bi0 f):=by
    rcases a7.o with⟨_,h⟩|⟨h,_⟩
    ·exact h
    ·exact absurd h h0
   clear h0;go_wp2_with (first|refine zs ?_|refine zw ?_)
   intro aR a;obtain⟨N,a4,z⟩:=zk3 a a1 a2 J;have M:=zk a a0;have O:=zyb a;have aF:=a.size;clear a;go_wp2_with (first|refine zs ?_|refine zw ?_)
   intro aN a;obtain⟨aw,i,a5⟩:=zk3 a N O z;have P:=zk a M;have d:=zyb a;have ag:=a.size;clear a;go_wp2_with fail;exact zr (.tuple #[.agg #[zI 0,zI 0,zI 0,zI 0,zI 0,zI 0,zS],.agg #[zI 0,zI 0,zI 0,zI 0,zI 0,zI 0,zI 0],zI f]) (by simp[results,Tryz.results32,scl7 i,scl7 d,go_sem]) ⟨ac0,bi0,none,0,0,_,rfl,HV.o,deb.fresh_nil _ _,P.o⟩
end acc
end Go.Proofs.YtoepgdhiepedeaaGreatDoor
