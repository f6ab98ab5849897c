import Derived.Test.YtoepgdhiepedeaaGreatDoorVVRys16
set_option linter.unusedVariables false
set_option linter.unusedSimpArgs false
set_option maxHeartbeats 4000000
set_option maxRecDepth 100000
namespace Go.Proofs.YtoepgdhiepedeaaGreatDoor
namespace ora
open Go.RowKit
theorem copy_any(a:Option Addr)(n cap:Nat)(l:List Pr)(w:World)(hr:RowP w a n l)(hn:n≤500):
  Calls Tryz.prog 55 #[.agg #[.slice a n cap]] w λe w'=>GaveO w l e w':=by
 have F:Hid (Bo w ((w.alloc (.cells #[.slice a n cap] 28)).alloc (.cells #[zS] 28)) a n cap l):=(Bo.new hr).alloc _;have K:Hid (Blk ((w.alloc (.cells #[.slice a n cap] 28)).alloc (.cells #[zS] 28)) (w.heap.size+1) #[zS] 28):=Blk.new1 w _ _ _;have N:Hid (l.length=n):=hr.1;have I:Hid (RowP w a n l):=hr;clear hr;go_enter Tryz.func55,Tryz.ntmps55;go_wp2_with fail;generalize (w.alloc (.cells #[.slice a n cap] 28)).alloc (.cells #[zS] 28)=W0 at *;go_loopw [3,4] (λv j wr=>∃(k:Nat)(V:Value),V=v∧k≤n∧j=zI (k:Int)∧Pw wr (w.heap.size+2) V (l.take k)∧Bo w wr a n cap l∧Blk wr (w.heap.size+1) #[zS] 28) (λ_ j _=>n-(intOf j).toNat)
 case atStart=>exact⟨0,_,rfl,Nat.zero_le _,rfl,Pw.zero _ _,F.o,K.o⟩
 case round=>
  obtain⟨k,V,L,hk,rfl,h,B,R⟩:=hrel;subst L;have d:Hid (Bo w wr a n cap l∧Blk wr (w.heap.size+1) #[zS] 28):=⟨B,R⟩
  have O:Hid (Pw wr (w.heap.size+2) V (l.take k)):=h;clear B R h;have c0:=d.o.1.box.cell 0;by_cases C:k<n
  ·obtain⟨P,D,rfl,lb,Q⟩:=d.o.1.row.at (by omega);obtain⟨Y,Z,f2,f3⟩:=Q k C;have S:Hid (l.take k++[⟨(l.getD k pr0).m,(l.getD k pr0).r,(l.getD k pr0).b,(l.getD k pr0).t⟩]=l.take (k+1)):=take_nextP l k (by rw[N.o];exact C);have H:Hid ((l.take k).length≤1000000):=by show _≤_;rw[List.length_take];omega
   clear Q lb;generalize (l.getD k pr0).m=u at *;generalize (l.getD k pr0).r=c at *;generalize (l.getD k pr0).b=s at *;generalize (l.getD k pr0).t=x at *;have T:Hid (PrAt (wr.alloc (.cells #[zI u,zI c,zI s,zI x] 87)) wr.heap.size 0 ⟨u,c,s,x⟩):=pr_cell wr _ _ _ _;have f:Hid (Pw (wr.alloc (.cells #[zI u,zI c,zI s,zI x] 87)) (w.heap.size+2) V (l.take k)):=O.o.alloc _;have A:Hid (w.heap.size+2≤(wr.alloc (.cells #[zI u,zI c,zI s,zI x] 87)).heap.size):=palloc_le d.o.2.lt _;have i:Hid (Bo w (wr.alloc (.cells #[zI u,zI c,zI s,zI x] 87)) (some ⟨P,D,none⟩) n cap l∧Blk (wr.alloc (.cells #[zI u,zI c,zI s,zI x] 87)) (w.heap.size+1) #[zS] 28):=⟨d.o.1.alloc _,d.o.2.alloc _⟩
   go_wp2_with (first
    |(at_builtin;refine wp_pr rfl _ _ rfl (w.heap.size+2) wr.heap.size _ (l.take k) ⟨u,c,s,x⟩ rfl rfl f.o T.o H.o A.o ?_)
    | go_in)
   intro v' E p g;have q:zB w E:=pown_bel f.o g i.o.1.bel (by omega) (by have:=A.o;omega);have G:Hid (Pw E (w.heap.size+2) v' (l.take (k+1))):=by have:=S.o;rw[this] at p;exact p
   have y:Hid (Bo w E (some ⟨P,D,none⟩) n cap l∧Blk E (w.heap.size+1) #[zS] 28):=⟨⟨Blk.pgrown i.o.1.box g (pown_far f.o (by omega)),I.o.below q,q⟩,Blk.pgrown i.o.2 g (pown_far f.o (by omega))⟩
   clear p g q Y Z f2 f3 c0;go_wp2_with fail;go_roundw
   case rel=>exact⟨k+1,_,rfl,by omega,by go_num,G.o,y.o.1,y.o.2⟩
   case measure=>simp[intOf];omega
  ·obtain rfl:n=k:=by omega
   have z:Hid (Pw wr (w.heap.size+2) V l):=by have:=O.o;rw[List.take_of_length_le (by rw[N.o];exact zc)] at this;exact this
   have z0:=d.o.2.cell 0;have y0:=d.o.2.free 0;have J:=d.o.2.set 0 V;have U:Hid (_=_):=J.cell 0;have M:Hid (Pw (wr.setCell ⟨w.heap.size+1,0,none⟩ V) w.heap.size V l∧zB w (wr.setCell ⟨w.heap.size+1,0,none⟩ V)):=⟨(z.o.put _ _ _ (by omega)).low (by omega),bel_set d.o.1.bel _ _ _ (by omega)⟩
   obtain⟨W,X,L,_,_,_⟩:=z.o.row;subst L;go_wp2_with fail;exact bodyPost_ret (v:=.agg #[.slice W l.length X]) (by simp[results,Tryz.results55,U.o,go_sem]) rfl ⟨_,rfl,M.o.1,M.o.2⟩
end ora
namespace acc
open tar (Du du0 Came RowD Ld PairT)
open Go.RowKit
def NumPost(w:World)(g:Nat)(x:Ac)(b:Bi)(p:Option Addr)(len cap:Nat)(e:Ending)(w':World):Prop:=
 Chg w w' g∧((¬ x.nx≤1048575∧e=.returned (zI 20)∧Blk w' g (wcs x b p len cap) 132)∨(x.nx≤1048575∧e=.returned (zI 0)∧Blk w' g (wcs { x with nx:=x.nx+1 } { b with id:=x.nx } p len cap) 132))
theorem pnum(g:Nat)(x:Ac)(b:Bi)(p:Option Addr)(len cap:Nat)(w:World)(hw:Blk w g (wcs x b p len cap) 132)(hn:1≤x.nx∧x.nx≤1048576):Calls Tryz.prog 70 #[.pointer (some ⟨g,0,none⟩)] w λe w'=>NumPost w g x b p len cap e w':=by
 obtain⟨A,D,a,B,q,y,K⟩:=x;obtain⟨z,E,t,u,C,r,F⟩:=b;simp only[] at hn;have j:Hid (Blk w g #[zI A,zI D,zI a,zI B,zI q,zI y,.slice p len cap,zI z,zI E,zI t,zI u,zI C,zI r,zI F] 132):=hw;have I:=zy2 j;clear hw;by_cases m:a≤1048575
 ·have s:decide (1048575<a)=false:=decide_eq_false (by omega);have H:IntKind.i64.wrap (a+1)=a+1:=by rw[IntKind.wrap_i64];omega
  have f:Hid (a≤1048575):=m;go_enter Tryz.func70,Tryz.ntmps70;go_wp2_with (first|(refine wp_let1 rfl 3 _ _ rfl g 7 rfl .i64 a rfl (by kernel_rfl) #[zI A,zI D,zI a,zI B,zI q,zI y,.slice p len cap,zI z,zI E,zI t,zI u,zI C,zI r,zI F] 132 j.o (by simp) ?_)|fail)
  intro G c;have k:=zyb c;have h:Hid (Chg w G g):=.upd c;have n:=zy2 k;clear c I s;go_wp2_with refine zl ?_;intro J d;have l:=zyb d;have i:=zh (h.o.trans (.upd d));clear d n;go_wp2_with fail;go_ret;exact⟨i.o,.inr ⟨f.o,rfl,l.o⟩⟩
 ·have s:decide (1048575<a)=true:=decide_eq_true (by omega);have f:=zh m;clear m hn;go_enter Tryz.func70,Tryz.ntmps70;go_wp2_with fail;go_ret;exact⟨Chg.refl _ _,.inl ⟨Int.not_le.2 f.o,rfl,j.o⟩⟩
end acc
namespace tar
open Go.RowKit Go.Shelf
attribute [local go_sem] Oper.semAt_some
def three(w:World)(m:Int):World:=((w.alloc (.cells #[zI m] 3)).alloc (.cells #[zI 0] 3)).alloc (.cells #[zI 0] 3)
theorem three_size(w:World)(m:Int):(three w m).heap.size=w.heap.size+3:=by unfold three;simp
theorem three_m(w:World)(m:Int):Boxed (three w m) w.heap.size 3 (zI m):=((Boxed.new w _ _).alloc _).alloc _
theorem three_u(w:World)(m:Int):Boxed (three w m) (w.heap.size+1) 3 (zI 0):=by
 have h:=(Boxed.new (w.alloc (.cells #[zI m] 3)) 3 (zI 0)).alloc (.cells #[zI 0] 3);rw[World.size_alloc] at h;exact h
theorem three_p(w:World)(m:Int):Boxed (three w m) (w.heap.size+1+1) 3 (zI 0):=by
 have h:=Boxed.new ((w.alloc (.cells #[zI m] 3)).alloc (.cells #[zI 0] 3)) 3 (zI 0);rw[World.size_alloc,World.size_alloc] at h;exact h
theorem three_bel(w:World)(m:Int):zB w (three w m):=(((Below.refl _ w).alloc zc _).alloc (by simp) _).alloc (by simp;omega) _
def Full(P:Nat)(w:World)(m:Int)(c:Code)(pre:List Ln)(W:World):Prop:=(∃(p:List Ln)(t:Ln)(q:Int),c=Code.exit 0∧pre=p++[t]∧(0≤q∧q<t.1.a∧sumC (lns p)+q*t.1.b≤m∧m<sumC (lns p)+(q+1)*t.1.b)∧Boxed W (P+1) 3 (zI (sumA (lns p)+q))∧Boxed W (P+1+1) 3 (zI (sumC (lns p)+q*t.1.b)))∧Below P w W
theorem full_own(P B:Nat)(w:World)(m:Int)(c:Code)(h1:P≤w.heap.size)(h2:P≤B):OwnFrom B (Full P w m c):=
 OwnFrom.and (fun j X Y row i a d=>by
  obtain⟨p,t,q,h1,h2,f,g,h⟩:=i
  exact ⟨p,t,q,h1,h2,f,boxed_own (P+1) 3 (fun (_:Unit)=>Value.int .i64 (sumA (lns p)+q)) () X Y row g a (fun r e=>(d r e).2),boxed_own (P+1+1) 3 (fun (_:Unit)=>Value.int .i64 (sumC (lns p)+q*t.1.b)) () X Y row h a (fun r e=>(d r e).2)⟩) (ownFrom_below h1 h2)
theorem pmost_in(F:Fence)(k:Nat)(hk:6≤k)(hF:F.fn 69)(hFl:F.fn 103)(hF1:F.fn 147)(hFc:F.fn 101)(hFw:F.fn 102)(hro:F.round=none)(w:World)(a:Option Addr)(len cap:Nat)(ls:List Du)(x m:Int)(hc:Came w a len cap ls)
  (HCK:Hid (CallsIn F (k-1) Tryz.prog 101 #[.slice a len cap] (three w m) λe w'=>ErrPost (three w m) (FaultIs ls) e w'))
  (HIX:Hid (∀W,CallsIn F (k-1) Tryz.prog 102 #[zI 0,zI 10000000,zI x] W λe w'=>e=.returned (.bool (decide (0≤x∧x≤10000000)))∧w'=W))
  (HIM:Hid (∀W,CallsIn F (k-1) Tryz.prog 102 #[zI 0,zI 1000000000000,zI m] W λe w'=>e=.returned (.bool (decide (0≤m∧m≤1000000000000)))∧w'=W)):
  CallsIn F k Tryz.prog 69 #[.slice a len cap,zI x,zI m] w λe w'=>ThreePost w (MostIs ls x m) e w':=by
 have h1:1≤k:=by omega
 have hmo:Tryz.prog.follows .mixedOrders=true:=by kernel_rfl
 have HRW:=hc.row;have HLEN:Hid (ls.length=len):=hc.row.1;clear hc;refine callsIn_of_wp_marks Tryz.func69 rfl hF ?_ hro;simp only[Tryz.ntmps69,List.size_toArray,List.length_cons,List.length_nil,Nat.reduceAdd,Nat.reduceSub,Array.replicate_succ,Array.replicate_zero,List.push_toArray,List.append_toArray,List.nil_append,List.cons_append]
 gi_wp2_with fail
 refine HCK.o.mono ?_;rintro e w1 ⟨f,rfl,hf,hb⟩;have HB:Hid (Below w.heap.size w w1):=(three_bel w m).trans (hb.mono (by rw[three_size];omega));have HF:Hid (FaultIs ls f):=hf;have bM:Boxed w1 w.heap.size 3 (zI m):=boxed_same (three_m w m) (hb.block _ (three_m w m).lt);have bU:Boxed w1 (w.heap.size+1) 3 (zI 0):=boxed_same (three_u w m) (hb.block _ (three_u w m).lt);have bP:Boxed w1 (w.heap.size+1+1) 3 (zI 0):=boxed_same (three_p w m) (hb.block _ (three_p w m).lt);have hsz1:w.heap.size+3≤w1.heap.size:=by have:=hb.size;rw[three_size] at this;exact this
 clear hb;by_cases h0:f=0
 ·subst h0;have HR:Hid (Right ls):=hf.ok.1 rfl;have hpos:0<len:=by have:=HR.o.1.1;have:=HLEN.o;omega
  obtain⟨b,off,rfl,hbl,hcl⟩:=HRW.at hpos;have HC:Hid (∀i,i<len→w.cell? ⟨b,off+i*2,none⟩=some (zI (ls.getD i du0).a)∧w.cell? ⟨b,off+i*2+1,none⟩=some (zI (ls.getD i du0).b)):=hcl;have hl8:len≤8:=by have:=HR.o.1.2;have:=HLEN.o;omega
  clear hf hcl;have cM:=bM.cell;by_cases hx:0≤x∧x≤10000000
  ·rw[decide_eq_true hx] at HIX;by_cases hmm:0≤m∧m≤1000000000000
   ·rw[decide_eq_true hmm] at HIM;have HMM:Hid (MayMost x m):=⟨hx,hmm⟩
    have HTP:Hid (0≤Top x∧x+Top x≤10000000):=top_bd hx;obtain⟨hx0,hx1⟩:=hx;obtain⟨hm0,hm1⟩:=hmm
    gi_wp2_with fail
    refine(HIX.o _).mono ?_;rintro e w2 ⟨rfl,hw2⟩;subst w2
    gi_wp2_with fail
    refine(HIM.o _).mono ?_;rintro e w2 ⟨rfl,hw2⟩;subst w2;have hmin:=run_min 2097151 (10000000-x) (Top x) rfl;have HTX:Hid (Top x=Top x):=rfl;generalize hT:Top x=T at *
    gi_wp2_with (gi_at_call 103;refine(lines_in F (k-1) hFl hro _ _ _ _ _ _).mono ?_;rintro e w' ⟨rfl,rfl⟩)
    have hL:=lnd_of (w:=w) (w1:=w1) w.heap.size w1.heap.size b off len cap HR.o HLEN.o ⟨hx0,hx1⟩ HTP.o rfl hbl (by omega) HB.o HC.o;have bM2:=boxes_boxed bM (.slice (some ⟨b,off,none⟩) len cap) x T;have bU2:=boxes_boxed bU (.slice (some ⟨b,off,none⟩) len cap) x T;have bP2:=boxes_boxed bP (.slice (some ⟨b,off,none⟩) len cap) x T;have hB2:Below w.heap.size w (boxes w1 (.slice (some ⟨b,off,none⟩) len cap) x T):=boxes_bel HB.o (by omega) _ _ _;have hsz:=boxes_size w1 (.slice (some ⟨b,off,none⟩) len cap) x T;generalize boxes w1 (.slice (some ⟨b,off,none⟩) len cap) x T=W0 at *;generalize hB1:w1.heap.size=B at *;generalize hP0:w.heap.size=P at *;clear bM bU bP cM hmin
    refine wpIn_rangeFunc_ownH hro h1 (gf:=147) (lb:=#[.pointer (some ⟨B+1,0,none⟩),.pointer (some ⟨B,0,none⟩),.pointer (some ⟨B+1+1,0,none⟩)]) rfl hF1 (enters_of Tryz.func147 (by kernel_rfl) rfl)
     (lines_stops F (k-1) hF1 hro (by omega) P B b off len cap ls x T W0 hL) Kq.trans (kq_b hL.hn (by omega)) (Below.refl _ _) (λ_=>rfl)
     (λpre W=>(Boxed W P 3 (zI m)∧Boxed W (P+1) 3 (zI (sumA (lns pre)))∧Boxed W (P+1+1) 3 (zI (sumC (lns pre))))∧sumC (lns pre)≤m∧Below P w W∧W0.heap.size≤W.heap.size)
     (Full P w m)
     (OwnFrom.and (OwnFrom.and (Own.from (boxed_own _ _ _) _) (OwnFrom.and (Own.from (boxed_own _ _ _) _) (Own.from (boxed_own _ _ _) _))) (OwnFrom.and (ownFrom_pure _ _) (OwnFrom.and (ownFrom_below (by omega) (by omega)) (λ_ _ _ _ hs hg _=>Nat.le_trans hs hg.size))))
     (λc=>full_own P _ w m c (by omega) (by omega))
     ⟨⟨bM2,bU2,bP2⟩,hm0,hB2,Nat.le_refl _⟩
     (λt a' W=>∃Bx,B+3≤Bx∧Blk W Bx #[zI t.1.a,zI t.1.b,zI t.1.c] 166∧a'={ tmps:=#[.slice (some ⟨b,off,none⟩) len cap,zI x,zI m,undef,undef,.pointer (some ⟨P,0,none⟩),.pointer (some ⟨P+1,0,none⟩),.pointer (some ⟨P+1+1,0,none⟩),zI 0,.pointer (some ⟨Bx,0,none⟩),undef,.slice (some ⟨b,off,none⟩) len cap,zI 0,zI 0,.bool false,undef,zI x,.bool true,.bool false,.bool false,zI m,.bool true,.bool false,.bool false,.slice (some ⟨b,off,none⟩) len cap,zI x,zI x,zI (10000000-x),zI T,.func (.func 147) #[] #[.pointer (some ⟨B+1,0,none⟩),.pointer (some ⟨B,0,none⟩),.pointer (some ⟨B+1+1,0,none⟩)],.agg #[zI t.1.a,zI t.1.b,zI t.1.c],undef,undef,undef,undef,undef,undef,undef,undef,undef,undef,undef,undef,undef,undef,undef,undef,undef,undef,undef,undef,undef,undef,undef,undef],defers:=[] })
     (λt a' _ X Y row hs hg hr=>by obtain⟨Bx,h1,h2,h3⟩:=hs;exact⟨Bx,h1,blk_own Bx 166 (λ(_:Unit)=>#[zI t.1.a,zI t.1.b,zI t.1.c]) () X Y row h2 hg (λr e=>(hr r e).2),h3⟩)
     ?assign ?body ?done ?stop
    case assign=>
     rintro l pre t W K ⟨⟨b1,b2,b3⟩,hle,hBS,hSW⟩ hK;simp only[encL]
     gi_wp2
     exact hK _ _ ((KeepsOthers.alloc _ _).from _) ((Kq.refl _ _ _ W).alloc _ (by omega) (by omega)) ⟨⟨b1.alloc _,b2.alloc _,b3.alloc _⟩,hle,hBS.alloc (by omega) _,by simp;omega⟩ ⟨W.heap.size,by omega,Blk.new W _ _,rfl⟩
    case body=>
     rintro l pre t a' W hl ⟨r,hr⟩ ⟨⟨b1,b2,b3⟩,hle,hBS,hSW⟩ ⟨Bx,hBx,bX,rfl⟩ hlt;have h2:=sums_bd (lns pre) (lns_ok pre);have h3:=lns_len pre;have h4:=t.2.1;have h5:=t.2.2.1;have h6:=t.2.2.2.1;have h7:=t.2.2.2.2.1;have h8:=t.2.2.2.2.2;have h9:=prod_bd (show 0≤t.1.a by omega) h5 h6 h7;rw[← h8] at h9;have HN:=sums_one pre t;have c1:=b1.cell;have c2:=b2.cell;have c3:=b3.cell;have f2:=b2.frozen;have f3:=b3.frozen;have cX0:W.cell? ⟨Bx,0,none⟩=some (zI t.1.a):=bX.cell 0;have cX1:W.cell? ⟨Bx,1,none⟩=some (zI t.1.b):=bX.cell 1;have hs0:0≤sumC (lns pre):=h2.2;have hs2:sumA (lns pre)≤80000000:=by have:=h2.1.2;omega
     have hs1:0≤sumA (lns pre):=h2.1.1;have hq:=quo_bd (d:=m-sumC (lns pre)) (p:=t.1.b) (by omega) h6 rfl;have hp0:(t.1.b==0)=false:=by simp;omega
     have hqe:(m-sumC (lns pre)).tdiv t.1.b=(m-sumC (lns pre))/t.1.b:=Int.tdiv_eq_ediv_of_nonneg (by omega);clear h2 h3;obtain⟨hN1,hN2⟩:=HN;have HN1:Hid (sumA (lns (pre++[t]))=sumA (lns pre)+t.1.a):=hN1;have HN2:Hid (sumC (lns (pre++[t]))=sumC (lns pre)+t.1.c):=hN2;have HTC:Hid (t.1.c=t.1.a*t.1.b):=h8;have HXI:Hid (∀q W',0≤q∧q<t.1.a∧sumC (lns pre)+q*t.1.b≤m∧m<sumC (lns pre)+(q+1)*t.1.b→Boxed W' (P+1) 3 (zI (sumA (lns pre)+q))→Boxed W' (P+1+1) 3 (zI (sumC (lns pre)+q*t.1.b))→Below P w W'→Full P w m (.exit 0) (pre++[t]) W'):=λq W' h1 h2 h3 h4=>⟨⟨pre,t,q,rfl,rfl,h1,h2,h3⟩,h4⟩;clear hN1 hN2 h8;generalize t.1.a=ta at *;generalize t.1.b=tb at *;generalize t.1.c=tc at *;generalize sumC (lns pre)=s at *;generalize sumA (lns pre)=u at *;have hd0:0≤m-s:=by omega
     have hd1:m-s≤1000000000000:=by omega
     generalize (m-s)/tb=q at *;obtain⟨q0,q1,q2,q3⟩:=hq;by_cases hlt2:q<ta
     ·have hmin:=run_min ta q q (by omega);have hq4:=prod_bd (o:=q) (p:=tb) q0 (by omega) h6 h7;obtain⟨hq5,hq6⟩:=hq4;have hdd:decide (q<ta)=true:=decide_eq_true hlt2
      gi_wp2_with fail
      refine round_quiet hro hmo (by kernel_rfl) (by kernel_rfl) ?_
      repeat (gi_big_quiet_step (fail))
      refine wpQuietIn_nil ?_;intro _ hw';obtain⟨nq,hw''⟩:=hw';subst hw'';have e1:Boxed (W.drewN nq) P 3 (zI m):=b1;have e2:Boxed (W.drewN nq) (P+1) 3 (zI u):=b2;have e3:Boxed (W.drewN nq) (P+1+1) 3 (zI s):=b3;have eX:Blk (W.drewN nq) Bx #[zI ta,zI tb,zI tc] 166:=bX;have eK:KeepsOthers W (W.drewN nq):=⟨Nat.le_refl _,λ_ _ h _=>h⟩
      have eQ:Kq P B (B+3) W (W.drewN nq):=⟨bel_drewN (Below.refl _ _) nq,λ_ _ _=>rfl⟩
      have eB:Below P w (W.drewN nq):=bel_drewN hBS nq;have eS:W0.heap.size≤(W.drewN nq).heap.size:=hSW;clear c1 c2 c3 f2 f3 cX0 cX1 hmin b1 b2 b3 bX hBS hSW;generalize W.drewN nq=V at *;have c2:=e2.cell;have f2:=e2.frozen;have c3:=λv=>(e3.other (B':=P+1) (by omega) v).cell;have f3:=λv=>(e3.other (B':=P+1) (by omega) v).frozen;have cX1:∀v,(V.setCell ⟨P+1,0,none⟩ v).cell? ⟨Bx,1,none⟩=some (zI tb):=λv=>(eX.other 0 v (by omega)).cell 1;have cX0:∀v v2,((V.setCell ⟨P+1,0,none⟩ v).setCell ⟨P+1+1,0,none⟩ v2).cell? ⟨Bx,0,none⟩=some (zI ta):=λv v2=>((eX.other 0 v (by omega)).other 0 v2 (by omega)).cell 0
      gi_wp2_with fail
      exact⟨((eK.trans (KeepsOthers.setCell _ _ _)).trans (KeepsOthers.setCell _ _ _)).from _,HXI.o q _ ⟨q0,hlt2,by omega,by omega⟩ ((e2.set _).other (by omega) _) ((e3.other (by omega) _).set _) ((eB.setCell (p:=⟨P+1,0,none⟩) (by show P≤P+1;omega) _).setCell (p:=⟨P+1+1,0,none⟩) (by show P≤P+1+1;omega) _)⟩
     ·have hmin:=run_min ta q ta (by omega);have hta:ta*tb=tc:=HTC.o.symm;have htc0:0≤tc:=h9.1;have htc1:tc≤1000000000000:=h9.2;have hml:tc≤q*tb:=by rw[← hta];exact Int.mul_le_mul_of_nonneg_right (by omega) (by omega)
      have hdd:decide (ta<ta)=false:=decide_eq_false (by omega)
      gi_wp2_with fail
      refine round_quiet hro hmo (by kernel_rfl) (by kernel_rfl) ?_
      repeat (gi_big_quiet_step (fail))
      refine wpQuietIn_nil ?_;intro _ hw';obtain⟨nq,hw''⟩:=hw';subst hw'';have e1:Boxed (W.drewN nq) P 3 (zI m):=b1;have e2:Boxed (W.drewN nq) (P+1) 3 (zI u):=b2;have e3:Boxed (W.drewN nq) (P+1+1) 3 (zI s):=b3;have eX:Blk (W.drewN nq) Bx #[zI ta,zI tb,zI tc] 166:=bX;have eK:KeepsOthers W (W.drewN nq):=⟨Nat.le_refl _,λ_ _ h _=>h⟩
      have eQ:Kq P B (B+3) W (W.drewN nq):=⟨bel_drewN (Below.refl _ _) nq,λ_ _ _=>rfl⟩
      have eB:Below P w (W.drewN nq):=bel_drewN hBS nq;have eS:W0.heap.size≤(W.drewN nq).heap.size:=hSW;clear c1 c2 c3 f2 f3 cX0 cX1 hmin b1 b2 b3 bX hBS hSW;generalize W.drewN nq=V at *;have c2:=e2.cell;have f2:=e2.frozen;have c3:=λv=>(e3.other (B':=P+1) (by omega) v).cell;have f3:=λv=>(e3.other (B':=P+1) (by omega) v).frozen;have cX1:∀v,(V.setCell ⟨P+1,0,none⟩ v).cell? ⟨Bx,1,none⟩=some (zI tb):=λv=>(eX.other 0 v (by omega)).cell 1;have cX0:∀v v2,((V.setCell ⟨P+1,0,none⟩ v).setCell ⟨P+1+1,0,none⟩ v2).cell? ⟨Bx,0,none⟩=some (zI ta):=λv v2=>((eX.other 0 v (by omega)).other 0 v2 (by omega)).cell 0
      gi_wp2_with fail
      exact⟨((eK.trans (KeepsOthers.setCell _ _ _)).trans (KeepsOthers.setCell _ _ _)).from _,(eQ.set (P+1) 0 _ (by omega) (.inl (by omega))).set (P+1+1) 0 _ (by omega) (.inl (by omega)),⟨(e1.other (by omega) _).other (by omega) _,by rw[HN1.o];exact(e2.set _).other (by omega) _,by rw[HN2.o];exact(e3.other (by omega) _).set _⟩,by rw[HN2.o];omega,(eB.setCell (p:=⟨P+1,0,none⟩) (by show P≤P+1;omega) _).setCell (p:=⟨P+1+1,0,none⟩) (by show P≤P+1+1;omega) _,by simp[World.setCell];omega⟩
    case done=>
     rintro D ys W hD hys ⟨⟨b1,b2,b3⟩,hle,hBS,hSW⟩ hK
     have HM:Hid (MostOf ls x m (sumA (lns ys))∧sumC (lns ys)=cost ls x (x+sumA (lns ys))):=by
      have h:=most_all HR.o x m ⟨hx0,hx1⟩;rw[hT,HLEN.o,← hys] at h;exact h hle
     clear hys hle;generalize sumA (lns ys)=u at *;generalize sumC (lns ys)=s at *
     gi_wp2_with fail
     obtain⟨Z,hZ⟩:∃Z,((W.setCell ⟨P+1,0,none⟩ (zI u)).setCell ⟨P+1+1,0,none⟩ (zI s)).drew=Z:=⟨_,rfl⟩
     have hKD:Z.heap[D]?=some (.deferred (some [])):=by
      rw[← hZ];exact((KeepsOthers.setCell W ⟨P+1,0,none⟩ (zI u)).trans (KeepsOthers.setCell _ ⟨P+1+1,0,none⟩ (zI s))).same D _ hK rfl
     have HE2:Boxed Z (P+1) 3 (zI u):=by rw[← hZ];exact(b2.set (zI u)).other (B':=P+1+1) (by omega) (zI s)
     have HE3:Boxed Z (P+1+1) 3 (zI s):=by rw[← hZ];exact(b3.other (B':=P+1) (by omega) (zI u)).set (zI s)
     have HEB:Hid (Below w.heap.size w (Z.putObj D (.deferred none))):=by
      have h:Below P w Z:=by
       rw[← hZ];exact bel_drewN ((hBS.setCell (p:=⟨P+1,0,none⟩) (by show P≤P+1;omega) _).setCell (p:=⟨P+1+1,0,none⟩) (by show P≤P+1+1;omega) _) 1
      show Below w.heap.size w (Z.putObj D (.deferred none));rw[hP0];exact h.trans (belowK_b (w:=w) (by omega) _ D _ _ (by omega) hKD rfl rfl)
     have r2:=cell_kept HE2.cell (grownBy_putObj' _ D (.deferred none)) (λr e=>by cases e;exact⟨_,hKD,rfl⟩);have r3:=cell_kept HE3.cell (grownBy_putObj' _ D (.deferred none)) (λr e=>by cases e;exact⟨_,hKD,rfl⟩);have HZ:Hid (((W.setCell ⟨P+1,0,none⟩ (zI u)).setCell ⟨P+1+1,0,none⟩ (zI s)).drew=Z):=hZ;clear hZ;have g2:=b2.cell;have g2':=b2.frozen;have g3:=b3.cell;have g3':=λv=>(b3.other (B':=P+1) (by omega) v).cell;have g3'':=λv=>(b3.other (B':=P+1) (by omega) v).frozen
     gi_region_with_o (fail)
     all_goals gi_wp2
     all_goals rw[HZ.o]
     all_goals refine⟨by simp,.inl ⟨_,_,rfl,run_takeDeferred hKD,?_⟩⟩
     all_goals refine⟨.tuple #[zI u,zI s,zI 0],?_,u,s,0,rfl,.inr (.inr ⟨HR.o,HMM.o,rfl,HM.o.1,HM.o.2⟩),HEB.o⟩
     all_goals simp[results,Tryz.f69,go_sem,r2,r3]
    case stop=>
     rintro D c pre W hD hpre ⟨⟨p,t,q,rfl,rfl,⟨g1,g2,g3,g4⟩,b2,b3⟩,hBS⟩ hK
     have HM:Hid (MostOf ls x m (sumA (lns p)+q)∧sumC (lns p)+q*t.1.b=cost ls x (x+(sumA (lns p)+q))):=by
      have h:=most_cut HR.o x m q ⟨hx0,hx1⟩ (lns p) t.1;rw[hT,HLEN.o,← snoc_one] at h;exact h hpre g1 g2 g3 g4
     clear hpre g3 g4;generalize sumA (lns p)+q=u at *;generalize sumC (lns p)+q*t.1.b=s at *
     gi_wp2_with fail
     obtain⟨Z,hZ⟩:∃Z,((W.setCell ⟨P+1,0,none⟩ (zI u)).setCell ⟨P+1+1,0,none⟩ (zI s)).drew=Z:=⟨_,rfl⟩
     have hKD:Z.heap[D]?=some (.deferred (some [])):=by
      rw[← hZ];exact((KeepsOthers.setCell W ⟨P+1,0,none⟩ (zI u)).trans (KeepsOthers.setCell _ ⟨P+1+1,0,none⟩ (zI s))).same D _ hK rfl
     have HE2:Boxed Z (P+1) 3 (zI u):=by rw[← hZ];exact(b2.set (zI u)).other (B':=P+1+1) (by omega) (zI s)
     have HE3:Boxed Z (P+1+1) 3 (zI s):=by rw[← hZ];exact(b3.other (B':=P+1) (by omega) (zI u)).set (zI s)
     have HEB:Hid (Below w.heap.size w (Z.putObj D (.deferred none))):=by
      have h:Below P w Z:=by
       rw[← hZ];exact bel_drewN ((hBS.setCell (p:=⟨P+1,0,none⟩) (by show P≤P+1;omega) _).setCell (p:=⟨P+1+1,0,none⟩) (by show P≤P+1+1;omega) _) 1
      show Below w.heap.size w (Z.putObj D (.deferred none));rw[hP0];exact h.trans (belowK_b (w:=w) (by omega) _ D _ _ (by omega) hKD rfl rfl)
     have r2:=cell_kept HE2.cell (grownBy_putObj' _ D (.deferred none)) (λr e=>by cases e;exact⟨_,hKD,rfl⟩);have r3:=cell_kept HE3.cell (grownBy_putObj' _ D (.deferred none)) (λr e=>by cases e;exact⟨_,hKD,rfl⟩);have HZ:Hid (((W.setCell ⟨P+1,0,none⟩ (zI u)).setCell ⟨P+1+1,0,none⟩ (zI s)).drew=Z):=hZ;clear hZ;have g2:=b2.cell;have g2':=b2.frozen;have g3:=b3.cell;have g3':=λv=>(b3.other (B':=P+1) (by omega) v).cell;have g3'':=λv=>(b3.other (B':=P+1) (by omega) v).frozen
     gi_region_with_o (fail)
     all_goals gi_wp2
     all_goals rw[HZ.o]
     all_goals refine⟨by simp,.inl ⟨_,_,rfl,run_takeDeferred hKD,?_⟩⟩
     all_goals refine⟨.tuple #[zI u,zI s,zI 0],?_,u,s,0,rfl,.inr (.inr ⟨HR.o,HMM.o,rfl,HM.o.1,HM.o.2⟩),HEB.o⟩
     all_goals simp[results,Tryz.f69,go_sem,r2,r3]
   ·rw[decide_eq_false hmm] at HIM;have HN:Hid (¬ MayMost x m):=λh=>hmm h.2;clear hmm;have e2:=(bU.set (zI 0)).other (B':=w.heap.size+1+1) (by omega) (zI 0);have e3:=(bP.other (B':=w.heap.size+1) (by omega) (zI 0)).set (zI 0);have cU:=bU.cell;have fU:=bU.frozen;have cP:=λv=>(bP.other (B':=w.heap.size+1) (by omega) v).cell;have fP:=λv=>(bP.other (B':=w.heap.size+1) (by omega) v).frozen;have HEB:Hid (Below w.heap.size w ((w1.setCell ⟨w.heap.size+1,0,none⟩ (zI 0)).setCell ⟨w.heap.size+1+1,0,none⟩ (zI 0))):=(HB.o.setCell (p:=⟨w.heap.size+1,0,none⟩) (by show w.heap.size≤w.heap.size+1;omega) _).setCell (p:=⟨w.heap.size+1+1,0,none⟩) (by show w.heap.size≤w.heap.size+1+1;omega) _
    gi_wp2_with fail
    refine(HIX.o _).mono ?_;rintro e w2 ⟨rfl,hw2⟩;subst w2
    gi_wp2_with fail
    refine(HIM.o _).mono ?_;rintro e w2 ⟨rfl,hw2⟩;subst w2
    gi_wp2_with fail
    have r2:=e2.cell;have r3:=e3.cell;refine⟨.tuple #[zI 0,zI 0,zI 2],?_,0,0,2,rfl,.inr (.inl ⟨HR.o,HN.o,rfl,rfl,rfl⟩),HEB.o⟩;simp[results,Tryz.f69,go_sem,r2,r3]
  ·rw[decide_eq_false hx] at HIX;have HN:Hid (¬ MayMost x m):=λh=>hx h.1;clear hx;have e2:=(bU.set (zI 0)).other (B':=w.heap.size+1+1) (by omega) (zI 0);have e3:=(bP.other (B':=w.heap.size+1) (by omega) (zI 0)).set (zI 0);have cU:=bU.cell;have fU:=bU.frozen;have cP:=λv=>(bP.other (B':=w.heap.size+1) (by omega) v).cell;have fP:=λv=>(bP.other (B':=w.heap.size+1) (by omega) v).frozen;have HEB:Hid (Below w.heap.size w ((w1.setCell ⟨w.heap.size+1,0,none⟩ (zI 0)).setCell ⟨w.heap.size+1+1,0,none⟩ (zI 0))):=(HB.o.setCell (p:=⟨w.heap.size+1,0,none⟩) (by show w.heap.size≤w.heap.size+1;omega) _).setCell (p:=⟨w.heap.size+1+1,0,none⟩) (by show w.heap.size≤w.heap.size+1+1;omega) _
   gi_wp2_with fail
   refine(HIX.o _).mono ?_;rintro e w2 ⟨rfl,hw2⟩;subst w2
   gi_wp2_with fail
   have r2:=e2.cell;have r3:=e3.cell;refine⟨.tuple #[zI 0,zI 0,zI 2],?_,0,0,2,rfl,.inr (.inl ⟨HR.o,HN.o,rfl,rfl,rfl⟩),HEB.o⟩;simp[results,Tryz.f69,go_sem,r2,r3]
 ·have hne:(f != 0)=true:=by simpa using h0
  have HN:Hid (¬ Right ls):=λh=>h0 (hf.ok.2 h);clear hf h0;have e2:=(bU.set (zI 0)).other (B':=w.heap.size+1+1) (by omega) (zI 0);have e3:=(bP.other (B':=w.heap.size+1) (by omega) (zI 0)).set (zI 0);have cU:=bU.cell;have fU:=bU.frozen;have cP:=λv=>(bP.other (B':=w.heap.size+1) (by omega) v).cell;have fP:=λv=>(bP.other (B':=w.heap.size+1) (by omega) v).frozen;have HEB:Hid (Below w.heap.size w ((w1.setCell ⟨w.heap.size+1,0,none⟩ (zI 0)).setCell ⟨w.heap.size+1+1,0,none⟩ (zI 0))):=(HB.o.setCell (p:=⟨w.heap.size+1,0,none⟩) (by show w.heap.size≤w.heap.size+1;omega) _).setCell (p:=⟨w.heap.size+1+1,0,none⟩) (by show w.heap.size≤w.heap.size+1+1;omega) _
  gi_wp2_with fail
  have r2:=e2.cell;have r3:=e3.cell;refine⟨.tuple #[zI 0,zI 0,zI f],?_,0,0,f,rfl,.inl ⟨HN.o,HF.o,rfl,rfl⟩,HEB.o⟩;simp[results,Tryz.f69,go_sem,r2,r3]
theorem kmost:KtMost:=λw a len b d x n c _ _=>(callsIn_wide (n:=6)).1 (pmost_in Fence.wide 6 (by omega) trivial trivial trivial trivial trivial rfl w a len b d x n c (callsIn_wide.2 (kcheck (three w n) a len b d (c.below (three_bel w n)))) (λW=>callsIn_wide.2 (pwithin 0 10000000 x W)) (λW=>callsIn_wide.2 (pwithin 0 1000000000000 n W)))
end tar
namespace acc
open tar (Du du0 Came RowD Ld PairT)
open Go.RowKit
theorem open_may{m:Int}(h:0≤m∧m≤49):AMay ⟨m,0,1,0,0,-1,[]⟩:=by
 unfold AMay deb.Mays deb.DFits;simp;omega
theorem kopen:KcOpen:=by
 intro w m z;have p:Hid (∀W,zC 64 #[.agg #[zI m,zI 0,zI 1,zI 0,zI 0,zI (-1),zS]] W λe A=>MayPost W ⟨m,0,1,0,0,-1,[]⟩ e A):=λW=>pmay ⟨m,0,1,0,0,-1,[]⟩ none 0 0 W (deb.came_nil W);clear z;obtain⟨B,s,l,k,j,-⟩:=sh2 w #[zI 0,zI 0,zI 0,zI 0,zI 0,zI 0,zS] 55 #[zI m,zI 0,zI 1,zI 0,zI 0,zI (-1),zS] 55;go_enter Tryz.func181,Tryz.ntmps181;go_upto_region 2 with fail
 rw[s.o];go_wp2_with refine zw ?_;refine(p.o _).mono ?_;rintro e C ⟨r,rfl,i,c⟩;obtain⟨x,h⟩:=zn2 c l k;have g:=shB j c;have u:=c.size;clear c;cases r with
 |false=>
  have q:Hid (OpenIs m ac0 2):=.inr ⟨λy=>Bool.noConfusion (i.2 (open_may y)),rfl,rfl⟩;clear i;go_wp2_with (first|refine zs ?_|refine zw ?_)
  intro t b;have a:=zyb b;have n:=zk1 b h;have d:=zk b g;have f:=b.size;clear b;go_wp2_with fail;exact zr (.tuple #[.agg #[zI 0,zI 0,zI 0,zI 0,zI 0,zI 0,zS],zI 2]) (by simp[results,Tryz.results181,zy0 a,zy1 a,zy2 a,zy3 a,zy4 a,zy5 a,zy6 a,go_sem]) ⟨ac0,none,0,0,_,rfl,q.o,deb.fresh_nil _ _,d.o⟩
 |true=>
  have q:Hid (OpenIs m ⟨m,0,1,0,0,-1,[]⟩ 0):=.inl ⟨(i.1 rfl).2.1,rfl,rfl⟩;clear i;go_wp2_with (first|refine zs ?_|refine zw ?_)
  intro t b;have a:=zyb b;have n:=zk1 b h;have d:=zk b g;have f:=b.size;clear b;go_wp2_with fail;exact zr (.tuple #[.agg #[zI m,zI 0,zI 1,zI 0,zI 0,zI (-1),zS],zI 0]) (by simp[results,Tryz.results181,scl7 a,go_sem]) ⟨⟨m,0,1,0,0,-1,[]⟩,none,0,0,_,rfl,q.o,deb.fresh_nil _ _,d.o⟩
end acc
namespace book
open Go.RowKit cell
theorem take_next(l:List Int)(k:Nat)(h:k<l.length):l.take k++[l.getD k 0]=l.take (k+1):=by
 rw[List.take_add_one];simp[List.getD,List.getElem?_eq_getElem h]
theorem index13_0(a0 a1 a2 a3 a4 a5 a6 a7 a8 a9 a10 a11 a12:Int)(W:World):(Instr.index 251 (.agg #[zI a0,zI a1,zI a2,zI a3,zI a4,zI a5,zI a6,zI a7,zI a8,zI a9,zI a10,zI a11,zI a12]) (zI 0)).run Tryz.prog W=.ok (zI a0) W:=by kernel_rfl
theorem index13_1(a0 a1 a2 a3 a4 a5 a6 a7 a8 a9 a10 a11 a12:Int)(W:World):(Instr.index 251 (.agg #[zI a0,zI a1,zI a2,zI a3,zI a4,zI a5,zI a6,zI a7,zI a8,zI a9,zI a10,zI a11,zI a12]) (zI 1)).run Tryz.prog W=.ok (zI a1) W:=by kernel_rfl
theorem index13_2(a0 a1 a2 a3 a4 a5 a6 a7 a8 a9 a10 a11 a12:Int)(W:World):(Instr.index 251 (.agg #[zI a0,zI a1,zI a2,zI a3,zI a4,zI a5,zI a6,zI a7,zI a8,zI a9,zI a10,zI a11,zI a12]) (zI 2)).run Tryz.prog W=.ok (zI a2) W:=by kernel_rfl
theorem index13_3(a0 a1 a2 a3 a4 a5 a6 a7 a8 a9 a10 a11 a12:Int)(W:World):(Instr.index 251 (.agg #[zI a0,zI a1,zI a2,zI a3,zI a4,zI a5,zI a6,zI a7,zI a8,zI a9,zI a10,zI a11,zI a12]) (zI 3)).run Tryz.prog W=.ok (zI a3) W:=by kernel_rfl
theorem index13_4(a0 a1 a2 a3 a4 a5 a6 a7 a8 a9 a10 a11 a12:Int)(W:World):(Instr.index 251 (.agg #[zI a0,zI a1,zI a2,zI a3,zI a4,zI a5,zI a6,zI a7,zI a8,zI a9,zI a10,zI a11,zI a12]) (zI 4)).run Tryz.prog W=.ok (zI a4) W:=by kernel_rfl
theorem index13_5(a0 a1 a2 a3 a4 a5 a6 a7 a8 a9 a10 a11 a12:Int)(W:World):(Instr.index 251 (.agg #[zI a0,zI a1,zI a2,zI a3,zI a4,zI a5,zI a6,zI a7,zI a8,zI a9,zI a10,zI a11,zI a12]) (zI 5)).run Tryz.prog W=.ok (zI a5) W:=by kernel_rfl
theorem index13_6(a0 a1 a2 a3 a4 a5 a6 a7 a8 a9 a10 a11 a12:Int)(W:World):(Instr.index 251 (.agg #[zI a0,zI a1,zI a2,zI a3,zI a4,zI a5,zI a6,zI a7,zI a8,zI a9,zI a10,zI a11,zI a12]) (zI 6)).run Tryz.prog W=.ok (zI a6) W:=by kernel_rfl
theorem index13_7(a0 a1 a2 a3 a4 a5 a6 a7 a8 a9 a10 a11 a12:Int)(W:World):(Instr.index 251 (.agg #[zI a0,zI a1,zI a2,zI a3,zI a4,zI a5,zI a6,zI a7,zI a8,zI a9,zI a10,zI a11,zI a12]) (zI 7)).run Tryz.prog W=.ok (zI a7) W:=by kernel_rfl
theorem index13_8(a0 a1 a2 a3 a4 a5 a6 a7 a8 a9 a10 a11 a12:Int)(W:World):(Instr.index 251 (.agg #[zI a0,zI a1,zI a2,zI a3,zI a4,zI a5,zI a6,zI a7,zI a8,zI a9,zI a10,zI a11,zI a12]) (zI 8)).run Tryz.prog W=.ok (zI a8) W:=by kernel_rfl
theorem index13_9(a0 a1 a2 a3 a4 a5 a6 a7 a8 a9 a10 a11 a12:Int)(W:World):(Instr.index 251 (.agg #[zI a0,zI a1,zI a2,zI a3,zI a4,zI a5,zI a6,zI a7,zI a8,zI a9,zI a10,zI a11,zI a12]) (zI 9)).run Tryz.prog W=.ok (zI a9) W:=by kernel_rfl
theorem index13_10(a0 a1 a2 a3 a4 a5 a6 a7 a8 a9 a10 a11 a12:Int)(W:World):(Instr.index 251 (.agg #[zI a0,zI a1,zI a2,zI a3,zI a4,zI a5,zI a6,zI a7,zI a8,zI a9,zI a10,zI a11,zI a12]) (zI 10)).run Tryz.prog W=.ok (zI a10) W:=by kernel_rfl
theorem index13_11(a0 a1 a2 a3 a4 a5 a6 a7 a8 a9 a10 a11 a12:Int)(W:World):(Instr.index 251 (.agg #[zI a0,zI a1,zI a2,zI a3,zI a4,zI a5,zI a6,zI a7,zI a8,zI a9,zI a10,zI a11,zI a12]) (zI 11)).run Tryz.prog W=.ok (zI a11) W:=by kernel_rfl
theorem index13_12(a0 a1 a2 a3 a4 a5 a6 a7 a8 a9 a10 a11 a12:Int)(W:World):(Instr.index 251 (.agg #[zI a0,zI a1,zI a2,zI a3,zI a4,zI a5,zI a6,zI a7,zI a8,zI a9,zI a10,zI a11,zI a12]) (zI 12)).run Tryz.prog W=.ok (zI a12) W:=by kernel_rfl
theorem index13(a0 a1 a2 a3 a4 a5 a6 a7 a8 a9 a10 a11 a12:Int)(k:Nat)(hk:k<13)(W:World):(Instr.index 251 (.agg #[zI a0,zI a1,zI a2,zI a3,zI a4,zI a5,zI a6,zI a7,zI a8,zI a9,zI a10,zI a11,zI a12]) (zI (k:Int))).run Tryz.prog W=.ok (zI ([a0,a1,a2,a3,a4,a5,a6,a7,a8,a9,a10,a11,a12].getD k 0)) W:=by
 match k,hk with
 |0,_=>exact index13_0 a0 a1 a2 a3 a4 a5 a6 a7 a8 a9 a10 a11 a12 W
 |1,_=>exact index13_1 a0 a1 a2 a3 a4 a5 a6 a7 a8 a9 a10 a11 a12 W
 |2,_=>exact index13_2 a0 a1 a2 a3 a4 a5 a6 a7 a8 a9 a10 a11 a12 W
 |3,_=>exact index13_3 a0 a1 a2 a3 a4 a5 a6 a7 a8 a9 a10 a11 a12 W
 |4,_=>exact index13_4 a0 a1 a2 a3 a4 a5 a6 a7 a8 a9 a10 a11 a12 W
 |5,_=>exact index13_5 a0 a1 a2 a3 a4 a5 a6 a7 a8 a9 a10 a11 a12 W
 |6,_=>exact index13_6 a0 a1 a2 a3 a4 a5 a6 a7 a8 a9 a10 a11 a12 W
 |7,_=>exact index13_7 a0 a1 a2 a3 a4 a5 a6 a7 a8 a9 a10 a11 a12 W
 |8,_=>exact index13_8 a0 a1 a2 a3 a4 a5 a6 a7 a8 a9 a10 a11 a12 W
 |9,_=>exact index13_9 a0 a1 a2 a3 a4 a5 a6 a7 a8 a9 a10 a11 a12 W
 |10,_=>exact index13_10 a0 a1 a2 a3 a4 a5 a6 a7 a8 a9 a10 a11 a12 W
 |11,_=>exact index13_11 a0 a1 a2 a3 a4 a5 a6 a7 a8 a9 a10 a11 a12 W
 |12,_=>exact index13_12 a0 a1 a2 a3 a4 a5 a6 a7 a8 a9 a10 a11 a12 W
theorem make13(w:World):(Instr.makeSlice 25 (zI 0) (zI 13)).run Tryz.prog w=.ok (.slice (some ⟨w.heap.size,0,none⟩) 0 13) (w.alloc (.cells (madeCells (Value.int .u32 0).cells 13) 83)):=by
 obtain⟨e,d,a,b,c⟩:=info_parts info_u32;have:=run_make (P:=Tryz.prog) w 25 83 e (.int .u32 0) Tryz.underlying25 d a .i64 .i64 0 13 (by omega) (by omega) (by rw[c];decide) (by omega);rw[b] at this;exact this
theorem bwords(v:Ev)(hm:∀x∈evL v,0≤x∧x<4294967296)(w:World):Calls Tryz.prog 120 #[.agg #[zI v.kd,zI v.me,zI v.mo,zI v.id,zI v.te,zI v.de,zI v.fe,zI v.pr,zI v.ch,zI v.un,zI v.tg,zI v.ow,zI v.bp]] w λe w'=>∃V,e=.returned V∧Ws w' w.heap.size V (evL v)∧zB w w':=by
 have R:Hid (∀ k,k<13→0≤(evL v).getD k 0∧(evL v).getD k 0<4294967296):=fun k p=>hm _ (by
  have hl:k<(evL v).length:=p;rw[show (evL v).getD k 0=(evL v)[k] by simp[List.getD,List.getElem?_eq_getElem hl]]
  exact List.getElem_mem _)
 have A:Hid (∀k:Nat,k<13→∀W,(Instr.index 251 (.agg #[zI v.kd,zI v.me,zI v.mo,zI v.id,zI v.te,zI v.de,zI v.fe,zI v.pr,zI v.ch,zI v.un,zI v.tg,zI v.ow,zI v.bp]) (zI (k:Int))).run Tryz.prog W=.ok (zI ((evL v).getD k 0)) W):=λk p W=>index13 v.kd v.me v.mo v.id v.te v.de v.fe v.pr v.ch v.un v.tg v.ow v.bp k p W;have Q:Hid ((evL v).length=13):=rfl;clear hm;have g:Hid (zB w ((w.alloc (.cells #[zI v.kd,zI v.me,zI v.mo,zI v.id,zI v.te,zI v.de,zI v.fe,zI v.pr,zI v.ch,zI v.un,zI v.tg,zI v.ow,zI v.bp] 44)).alloc (.cells #[zI v.kd,zI v.me,zI v.mo,zI v.id,zI v.te,zI v.de,zI v.fe,zI v.pr,zI v.ch,zI v.un,zI v.tg,zI v.ow,zI v.bp] 251))):=(zb.alloc zc _).alloc (by simp) _;go_enter Tryz.func120,Tryz.ntmps120;go_upto_region 2 with fail
 generalize j:((w.alloc (.cells #[zI v.kd,zI v.me,zI v.mo,zI v.id,zI v.te,zI v.de,zI v.fe,zI v.pr,zI v.ch,zI v.un,zI v.tg,zI v.ow,zI v.bp] 44)).alloc (.cells #[zI v.kd,zI v.me,zI v.mo,zI v.id,zI v.te,zI v.de,zI v.fe,zI v.pr,zI v.ch,zI v.un,zI v.tg,zI v.ow,zI v.bp] 251))=f at *;have P:Hid (Blk f (w.heap.size+1) #[zI v.kd,zI v.me,zI v.mo,zI v.id,zI v.te,zI v.de,zI v.fe,zI v.pr,zI v.ch,zI v.un,zI v.tg,zI v.ow,zI v.bp] 251):=by show Blk _ _ _ _;rw[← j];exact Blk.new1 _ _ _ _
 clear j;have I:=make13 f;have n:=g.o.size;have B:Hid (Ws (f.alloc (.cells (madeCells (Value.int .u32 0).cells 13) 83)) w.heap.size (.slice (some ⟨f.heap.size,0,none⟩) 0 13) []):=World.ownsRow_made f _ 13 n (by unfold maxLen;omega) (size_madeCells _ _);have r:=zyf g (.cells (madeCells (Value.int .u32 0).cells 13) 83);have q:=zya P (.cells (madeCells (Value.int .u32 0).cells 13) 83);generalize (f.alloc (.cells (madeCells (Value.int .u32 0).cells 13) 83))=W0 at *;obtain⟨S,T,U,X,Y,Z,b6,b7,b8,b9,E,F,G⟩:=scl13 q;go_wp2_with fail;clear I n S T U X Y Z b6 b7 b8 b9 E F G;go_loopw [4,45] (λv4 d wr=>∃(k:Nat)(V:Value),k≤13∧V=v4∧d=zI (k:Int)∧Ws wr w.heap.size V ((evL v).take k)∧zB w wr) (λ_ d _=>13-(intOf d).toNat)
 case atStart=>exact⟨0,_,Nat.zero_le _,rfl,rfl,B.o,r.o⟩
 case round=>
  obtain⟨k,V,p,hV,rfl,c,a⟩:=hrel;subst hV;have J:((evL v).take k).length≤1000000:=by rw[List.length_take];omega
  have i:Hid (∀o,Ws (wr.alloc o) w.heap.size V ((evL v).take k)):=λo=>c.alloc o;have t:Hid (∀o,zB w (wr.alloc o)):=λo=>a.alloc a.size o;have h:Hid (∀o,w.heap.size≤(wr.alloc o).heap.size):=λo=>(a.alloc a.size o).size;have u:=zh a;have D:=zh c;clear c a;by_cases b:k<13
  ·have a0:=A.o k b;have C:Hid ((evL v).take k++[(evL v).getD k 0]=(evL v).take (k+1)):=take_next _ k b;have hz:=R.o k b;generalize (evL v).getD k 0=z at *;have a1:IntKind.u32.wrap z=z:=by rw[IntKind.wrap_u32];omega
   have L:z%4294967296=z:=by omega
   have H:decide ((k:Int)<13)=true:=decide_eq_true (by omega);clear hz;go_wp2_with (first|(refine wp_word rfl _ _ rfl w.heap.size wr.heap.size V ((evL v).take k) z rfl rfl (i.o _) ((Blk.new wr _ _).cell 0) J (h.o _) ?_;intro M N K m;have l:=own_bel (i.o _) m (t.o _) zc (h.o _);have O:Hid (Ws N w.heap.size M ((evL v).take k++[z])):=K;have s:Hid (zB w N):=l;clear K m l)|fail)
   go_roundw
   case rel=>exact⟨k+1,M,by omega,rfl,by go_num,by rw[← C.o];exact O.o,s.o⟩
   case measure=>simp[intOf];omega
  ·have H:decide ((k:Int)<13)=false:=decide_eq_false (by omega)
   have y:Hid (Ws wr w.heap.size V (evL v)):=by
    have:=D.o;rw[List.take_of_length_le (by rw[Q.o];omega)] at this;exact this
   go_wp2_with fail;go_ret;exact⟨V,rfl,y.o,u.o⟩
end book
end Go.Proofs.YtoepgdhiepedeaaGreatDoor
