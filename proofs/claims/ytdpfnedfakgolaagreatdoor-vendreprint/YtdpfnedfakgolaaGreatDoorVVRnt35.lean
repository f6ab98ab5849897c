import Derived.Test.YtdpfnedfakgolaaGreatDoorVVRnt9
import Derived.Test.YtdpfnedfakgolaaGreatDoorVVRnt11
set_option linter.unusedVariables false
set_option linter.unusedSimpArgs false
set_option maxHeartbeats 4000000
set_option maxRecDepth 100000
namespace Go.Proofs.YtdpfnedfakgolaaGreatDoor
namespace tar
open Go.RowKit Go.Shelf
attribute [local go_sem] Oper.semAt_some
def three (w:World) (m:Int):World:=((w.alloc (.cells #[zI m] 3)).alloc (.cells #[zI 0] 3)).alloc (.cells #[zI 0] 3)
theorem three_size (w:World) (m:Int):(three w m).heap.size=w.heap.size+3:=by unfold three;simp
theorem three_m (w:World) (m:Int):Boxed (three w m) w.heap.size 3 (zI m):=((Boxed.new w _ _).alloc _).alloc _
theorem three_u (w:World) (m:Int):Boxed (three w m) (w.heap.size+1) 3 (zI 0):=by
 have h:=(Boxed.new (w.alloc (.cells #[zI m] 3)) 3 (zI 0)).alloc (.cells #[zI 0] 3);rw [World.size_alloc] at h;exact h
theorem three_p (w:World) (m:Int):Boxed (three w m) (w.heap.size+1+1) 3 (zI 0):=by
 have h:=Boxed.new ((w.alloc (.cells #[zI m] 3)).alloc (.cells #[zI 0] 3)) 3 (zI 0);rw [World.size_alloc,World.size_alloc] at h;exact h
theorem three_bel (w:World) (m:Int):Below w.heap.size w (three w m):=(((Below.refl _ w).alloc (Nat.le_refl _) _).alloc (by simp) _).alloc (by simp;omega) _
def Full (P:Nat) (w:World) (m:Int) (c:Code) (pre:List Ln) (W:World):Prop:=(∃ (p:List Ln) (t:Ln) (q:Int),c=Code.exit 0∧pre=p++[t]∧(0≤q∧q<t.1.a∧sumC (lns p)+q*t.1.b≤m∧m<sumC (lns p)+(q+1)*t.1.b)∧Boxed W (P+1) 3 (zI (sumA (lns p)+q))∧Boxed W (P+1+1) 3 (zI (sumC (lns p)+q*t.1.b)))∧Below P w W
theorem full_own (P B:Nat) (w:World) (m:Int) (c:Code) (h1:P≤w.heap.size) (h2:P≤B):OwnFrom B (Full P w m c):=
 OwnFrom.and (fun pre X Y row hs hg hr=>by
  obtain ⟨p,t,q,h1,h2,h3,h4,h5⟩:=hs
  exact ⟨p,t,q,h1,h2,h3,boxed_own (P+1) 3 (fun (_:Unit)=>Value.int .i64 (sumA (lns p)+q)) () X Y row h4 hg (fun r e=>(hr r e).2),boxed_own (P+1+1) 3 (fun (_:Unit)=>Value.int .i64 (sumC (lns p)+q*t.1.b)) () X Y row h5 hg (fun r e=>(hr r e).2)⟩) (ownFrom_below h1 h2)
theorem pmost_in (F:Fence) (k:Nat) (hk:6≤k) (hF:F.fn 125) (hFl:F.fn 144) (hF1:F.fn 154) (hFc:F.fn 113) (hFw:F.fn 135) (hro:F.round=none) (w:World) (a:Option Addr) (len cap:Nat) (ls:List Du) (x m:Int) (hc:Came w a len cap ls)
  (HCK:Hid (CallsIn F (k - 1) Tryz.prog 113 #[.slice a len cap] (three w m) fun e w'=>ErrPost (three w m) (FaultIs ls) e w'))
  (HIX:Hid (∀ W,CallsIn F (k - 1) Tryz.prog 135 #[zI 0,zI 10000000,zI x] W fun e w'=>e = .returned (.bool (decide (0≤x∧x≤10000000)))∧w'=W))
  (HIM:Hid (∀ W,CallsIn F (k - 1) Tryz.prog 135 #[zI 0,zI 1000000000000,zI m] W fun e w'=>e = .returned (.bool (decide (0≤m∧m≤1000000000000)))∧w'=W)) :
  CallsIn F k Tryz.prog 125 #[.slice a len cap,zI x,zI m] w fun e w'=>ThreePost w (MostIs ls x m) e w':=by
 have h1:1≤k:=by omega
 have hmo:Tryz.prog.follows .mixedOrders=true:=by kernel_rfl
 have HRW:=hc.row;have HLEN:Hid (ls.length=len):=hc.row.1;clear hc;refine callsIn_of_wp_marks Tryz.func125 rfl hF ?_ hro;simp only [Tryz.ntmps125,List.size_toArray,List.length_cons,List.length_nil,Nat.reduceAdd,Nat.reduceSub,Array.replicate_succ,Array.replicate_zero,List.push_toArray,List.append_toArray,List.nil_append,List.cons_append]
 gi_wp2_with fail
 refine HCK.o.mono ?_;rintro e w1 ⟨f,rfl,hf,hb⟩;have HB:Hid (Below w.heap.size w w1):=(three_bel w m).trans (hb.mono (by rw [three_size];omega));have HF:Hid (FaultIs ls f):=hf;have bM:Boxed w1 w.heap.size 3 (zI m):=boxed_same (three_m w m) (hb.block _ (three_m w m).lt);have bU:Boxed w1 (w.heap.size+1) 3 (zI 0):=boxed_same (three_u w m) (hb.block _ (three_u w m).lt);have bP:Boxed w1 (w.heap.size+1+1) 3 (zI 0):=boxed_same (three_p w m) (hb.block _ (three_p w m).lt);have hsz1:w.heap.size+3≤w1.heap.size:=by have:=hb.size;rw [three_size] at this;exact this
 clear HCK hb;by_cases h0:f=0
 ·subst h0;have HR:Hid (Right ls):=hf.ok.1 rfl;have hpos:0<len:=by have:=HR.o.1.1;have:=HLEN.o;omega
  obtain ⟨b,off,rfl,hbl,hcl⟩:=HRW.at hpos;have HC:Hid (∀ i,i<len→w.cell? ⟨b,off+i*2,none⟩=some (zI (ls.getD i du0).a)∧w.cell? ⟨b,off+i*2+1,none⟩=some (zI (ls.getD i du0).b)):=hcl;have hl8:len≤8:=by have:=HR.o.1.2;have:=HLEN.o;omega
  clear hf hcl HRW;have cM:=bM.cell;by_cases hx:0≤x∧x≤10000000
  ·rw [decide_eq_true hx] at HIX;by_cases hmm:0≤m∧m≤1000000000000
   ·rw [decide_eq_true hmm] at HIM;have HMM:Hid (MayMost x m):=⟨hx,hmm⟩
    have HTP:Hid (0≤Top x∧x+Top x≤10000000):=top_bd hx;obtain ⟨hx0,hx1⟩:=hx;obtain ⟨hm0,hm1⟩:=hmm
    gi_wp2_with fail
    refine (HIX.o _).mono ?_;rintro e w2 ⟨rfl,hw2⟩;subst w2
    gi_wp2_with fail
    refine (HIM.o _).mono ?_;rintro e w2 ⟨rfl,hw2⟩;subst w2;clear HIX HIM;have hmin:=run_min 2097151 (10000000 - x) (Top x) rfl;have HTX:Hid (Top x=Top x):=rfl;generalize hT:Top x=T at *
    gi_wp2_with (gi_at_call 144;refine (lines_in F (k - 1) hFl hro _ _ _ _ _ _).mono ?_;rintro e w' ⟨rfl,rfl⟩)
    have hL:=lnd_of (w:=w) (w1:=w1) w.heap.size w1.heap.size b off len cap HR.o HLEN.o ⟨hx0,hx1⟩ HTP.o rfl hbl (by omega) HB.o HC.o;have bM2:=boxes_boxed bM (.slice (some ⟨b,off,none⟩) len cap) x T;have bU2:=boxes_boxed bU (.slice (some ⟨b,off,none⟩) len cap) x T;have bP2:=boxes_boxed bP (.slice (some ⟨b,off,none⟩) len cap) x T;have hB2:Below w.heap.size w (boxes w1 (.slice (some ⟨b,off,none⟩) len cap) x T):=boxes_bel HB.o (by omega) _ _ _;have hsz:=boxes_size w1 (.slice (some ⟨b,off,none⟩) len cap) x T;generalize boxes w1 (.slice (some ⟨b,off,none⟩) len cap) x T=W0 at *;generalize hB1:w1.heap.size=B at *;generalize hP0:w.heap.size=P at *;clear bM bU bP cM hmin
    refine wpIn_rangeFunc_ownH hro h1 (gf:=154) (lb:=#[.pointer (some ⟨B+1,0,none⟩),.pointer (some ⟨B,0,none⟩),.pointer (some ⟨B+1+1,0,none⟩)]) rfl hF1 (enters_of Tryz.func154 (by kernel_rfl) rfl)
     (lines_stops F (k - 1) hF1 hro (by omega) P B b off len cap ls x T W0 hL) Kq.trans (kq_b hL.hn (by omega)) (Below.refl _ _) (fun _=>rfl)
     (fun pre W=>(Boxed W P 3 (zI m)∧Boxed W (P+1) 3 (zI (sumA (lns pre)))∧Boxed W (P+1+1) 3 (zI (sumC (lns pre))))∧sumC (lns pre)≤m∧Below P w W∧W0.heap.size≤W.heap.size)
     (Full P w m)
     (OwnFrom.and (OwnFrom.and (Own.from (boxed_own _ _ _) _) (OwnFrom.and (Own.from (boxed_own _ _ _) _) (Own.from (boxed_own _ _ _) _))) (OwnFrom.and (ownFrom_pure _ _) (OwnFrom.and (ownFrom_below (by omega) (by omega)) (fun _ _ _ _ hs hg _=>Nat.le_trans hs hg.size))))
     (fun c=>full_own P _ w m c (by omega) (by omega))
     ⟨⟨bM2,bU2,bP2⟩,hm0,hB2,Nat.le_refl _⟩
     (fun t a' W=>∃ Bx,B+3≤Bx∧Blk W Bx #[zI t.1.a,zI t.1.b,zI t.1.c] 263∧a'={ tmps:=#[.slice (some ⟨b,off,none⟩) len cap,zI x,zI m,undef,undef,.pointer (some ⟨P,0,none⟩),.pointer (some ⟨P+1,0,none⟩),.pointer (some ⟨P+1+1,0,none⟩),zI 0,.pointer (some ⟨Bx,0,none⟩),undef,.slice (some ⟨b,off,none⟩) len cap,zI 0,zI 0,.bool false,undef,zI x,.bool true,.bool false,.bool false,zI m,.bool true,.bool false,.bool false,.slice (some ⟨b,off,none⟩) len cap,zI x,zI x,zI (10000000 - x),zI T,.func (.func 154) #[] #[.pointer (some ⟨B+1,0,none⟩),.pointer (some ⟨B,0,none⟩),.pointer (some ⟨B+1+1,0,none⟩)],.agg #[zI t.1.a,zI t.1.b,zI t.1.c],undef,undef,undef,undef,undef,undef,undef,undef,undef,undef,undef,undef,undef,undef,undef,undef,undef,undef,undef,undef,undef,undef,undef,undef],defers:=[] })
     (fun t a' _ X Y row hs hg hr=>by obtain ⟨Bx,h1,h2,h3⟩:=hs;exact ⟨Bx,h1,blk_own Bx 263 (fun (_:Unit)=>#[zI t.1.a,zI t.1.b,zI t.1.c]) () X Y row h2 hg (fun r e=>(hr r e).2),h3⟩)
     ?assign ?body ?done ?stop
    case assign=>
     rintro l pre t W K ⟨⟨b1,b2,b3⟩,hle,hBS,hSW⟩ hK;simp only [encL]
     gi_wp2
     exact hK _ _ ((KeepsOthers.alloc _ _).from _) ((Kq.refl _ _ _ W).alloc _ (by omega) (by omega)) ⟨⟨b1.alloc _,b2.alloc _,b3.alloc _⟩,hle,hBS.alloc (by omega) _,by simp;omega⟩ ⟨W.heap.size,by omega,Blk.new W _ _,rfl⟩
    case body=>
     rintro l pre t a' W hl ⟨r,hr⟩ ⟨⟨b1,b2,b3⟩,hle,hBS,hSW⟩ ⟨Bx,hBx,bX,rfl⟩ hlt;have h2:=sums_bd (lns pre) (lns_ok pre);have h3:=lns_len pre;have h4:=t.2.1;have h5:=t.2.2.1;have h6:=t.2.2.2.1;have h7:=t.2.2.2.2.1;have h8:=t.2.2.2.2.2;have h9:=prod_bd (show 0≤t.1.a by omega) h5 h6 h7;rw [← h8] at h9;have HN:=sums_one pre t;have c1:=b1.cell;have c2:=b2.cell;have c3:=b3.cell;have f2:=b2.frozen;have f3:=b3.frozen;have cX0:W.cell? ⟨Bx,0,none⟩=some (zI t.1.a):=bX.cell 0;have cX1:W.cell? ⟨Bx,1,none⟩=some (zI t.1.b):=bX.cell 1;have hs0:0≤sumC (lns pre):=h2.2;have hs2:sumA (lns pre)≤80000000:=by have:=h2.1.2;omega
     have hs1:0≤sumA (lns pre):=h2.1.1;have hq:=quo_bd (d:=m - sumC (lns pre)) (p:=t.1.b) (by omega) h6 rfl;have hp0:(t.1.b == 0)=false:=by simp;omega
     have hqe:(m - sumC (lns pre)).tdiv t.1.b=(m - sumC (lns pre)) / t.1.b:=Int.tdiv_eq_ediv_of_nonneg (by omega);clear h2 h3;obtain ⟨hN1,hN2⟩:=HN;have HN1:Hid (sumA (lns (pre++[t]))=sumA (lns pre)+t.1.a):=hN1;have HN2:Hid (sumC (lns (pre++[t]))=sumC (lns pre)+t.1.c):=hN2;have HTC:Hid (t.1.c=t.1.a*t.1.b):=h8;have HXI:Hid (∀ q W',0≤q∧q<t.1.a∧sumC (lns pre)+q*t.1.b≤m∧m<sumC (lns pre)+(q+1)*t.1.b→Boxed W' (P+1) 3 (zI (sumA (lns pre)+q))→Boxed W' (P+1+1) 3 (zI (sumC (lns pre)+q*t.1.b))→Below P w W'→Full P w m (.exit 0) (pre++[t]) W'):=fun q W' h1 h2 h3 h4=>⟨⟨pre,t,q,rfl,rfl,h1,h2,h3⟩,h4⟩;clear hN1 hN2 h8;generalize t.1.a=ta at *;generalize t.1.b=tb at *;generalize t.1.c=tc at *;generalize sumC (lns pre)=s at *;generalize sumA (lns pre)=u at *;have hd0:0≤m - s:=by omega
     have hd1:m - s≤1000000000000:=by omega
     generalize (m - s) / tb=q at *;obtain ⟨q0,q1,q2,q3⟩:=hq;by_cases hlt2:q<ta
     ·have hmin:=run_min ta q q (by omega);have hq4:=prod_bd (o:=q) (p:=tb) q0 (by omega) h6 h7;obtain ⟨hq5,hq6⟩:=hq4;have hdd:decide (q<ta)=true:=decide_eq_true hlt2
      gi_wp2_with fail
      refine round_quiet hro hmo (by kernel_rfl) (by kernel_rfl) ?_
      repeat (gi_big_quiet_step (fail))
      refine wpQuietIn_nil ?_;intro _ hw';obtain ⟨nq,hw''⟩:=hw';subst hw'';have e1:Boxed (W.drewN nq) P 3 (zI m):=b1;have e2:Boxed (W.drewN nq) (P+1) 3 (zI u):=b2;have e3:Boxed (W.drewN nq) (P+1+1) 3 (zI s):=b3;have eX:Blk (W.drewN nq) Bx #[zI ta,zI tb,zI tc] 263:=bX;have eK:KeepsOthers W (W.drewN nq):=⟨Nat.le_refl _,fun _ _ h _=>h⟩
      have eQ:Kq P B (B+3) W (W.drewN nq):=⟨bel_drewN (Below.refl _ _) nq,fun _ _ _=>rfl⟩
      have eB:Below P w (W.drewN nq):=bel_drewN hBS nq;have eS:W0.heap.size≤(W.drewN nq).heap.size:=hSW;clear c1 c2 c3 f2 f3 cX0 cX1 hmin b1 b2 b3 bX hBS hSW;generalize W.drewN nq=V at *;have c2:=e2.cell;have f2:=e2.frozen;have c3:=fun v=>(e3.other (B':=P+1) (by omega) v).cell;have f3:=fun v=>(e3.other (B':=P+1) (by omega) v).frozen;have cX1:∀ v,(V.setCell ⟨P+1,0,none⟩ v).cell? ⟨Bx,1,none⟩=some (zI tb):=fun v=>(eX.other 0 v (by omega)).cell 1;have cX0:∀ v v2,((V.setCell ⟨P+1,0,none⟩ v).setCell ⟨P+1+1,0,none⟩ v2).cell? ⟨Bx,0,none⟩=some (zI ta):=fun v v2=>((eX.other 0 v (by omega)).other 0 v2 (by omega)).cell 0
      gi_wp2_with fail
      exact ⟨((eK.trans (KeepsOthers.setCell _ _ _)).trans (KeepsOthers.setCell _ _ _)).from _,HXI.o q _ ⟨q0,hlt2,by omega,by omega⟩ ((e2.set _).other (by omega) _) ((e3.other (by omega) _).set _) ((eB.setCell (p:=⟨P+1,0,none⟩) (by show P≤P+1;omega) _).setCell (p:=⟨P+1+1,0,none⟩) (by show P≤P+1+1;omega) _)⟩
     ·have hmin:=run_min ta q ta (by omega);have hta:ta*tb=tc:=HTC.o.symm;have htc0:0≤tc:=h9.1;have htc1:tc≤1000000000000:=h9.2;have hml:tc≤q*tb:=by rw [← hta];exact Int.mul_le_mul_of_nonneg_right (by omega) (by omega)
      have hdd:decide (ta<ta)=false:=decide_eq_false (by omega)
      gi_wp2_with fail
      refine round_quiet hro hmo (by kernel_rfl) (by kernel_rfl) ?_
      repeat (gi_big_quiet_step (fail))
      refine wpQuietIn_nil ?_;intro _ hw';obtain ⟨nq,hw''⟩:=hw';subst hw'';have e1:Boxed (W.drewN nq) P 3 (zI m):=b1;have e2:Boxed (W.drewN nq) (P+1) 3 (zI u):=b2;have e3:Boxed (W.drewN nq) (P+1+1) 3 (zI s):=b3;have eX:Blk (W.drewN nq) Bx #[zI ta,zI tb,zI tc] 263:=bX;have eK:KeepsOthers W (W.drewN nq):=⟨Nat.le_refl _,fun _ _ h _=>h⟩
      have eQ:Kq P B (B+3) W (W.drewN nq):=⟨bel_drewN (Below.refl _ _) nq,fun _ _ _=>rfl⟩
      have eB:Below P w (W.drewN nq):=bel_drewN hBS nq;have eS:W0.heap.size≤(W.drewN nq).heap.size:=hSW;clear c1 c2 c3 f2 f3 cX0 cX1 hmin b1 b2 b3 bX hBS hSW;generalize W.drewN nq=V at *;have c2:=e2.cell;have f2:=e2.frozen;have c3:=fun v=>(e3.other (B':=P+1) (by omega) v).cell;have f3:=fun v=>(e3.other (B':=P+1) (by omega) v).frozen;have cX1:∀ v,(V.setCell ⟨P+1,0,none⟩ v).cell? ⟨Bx,1,none⟩=some (zI tb):=fun v=>(eX.other 0 v (by omega)).cell 1;have cX0:∀ v v2,((V.setCell ⟨P+1,0,none⟩ v).setCell ⟨P+1+1,0,none⟩ v2).cell? ⟨Bx,0,none⟩=some (zI ta):=fun v v2=>((eX.other 0 v (by omega)).other 0 v2 (by omega)).cell 0
      gi_wp2_with fail
      exact ⟨((eK.trans (KeepsOthers.setCell _ _ _)).trans (KeepsOthers.setCell _ _ _)).from _,(eQ.set (P+1) 0 _ (by omega) (.inl (by omega))).set (P+1+1) 0 _ (by omega) (.inl (by omega)),⟨(e1.other (by omega) _).other (by omega) _,by rw [HN1.o];exact (e2.set _).other (by omega) _,by rw [HN2.o];exact (e3.other (by omega) _).set _⟩,by rw [HN2.o];omega,(eB.setCell (p:=⟨P+1,0,none⟩) (by show P≤P+1;omega) _).setCell (p:=⟨P+1+1,0,none⟩) (by show P≤P+1+1;omega) _,by simp [World.setCell];omega⟩
    case done=>
     rintro D ys W hD hys ⟨⟨b1,b2,b3⟩,hle,hBS,hSW⟩ hK
     have HM:Hid (MostOf ls x m (sumA (lns ys))∧sumC (lns ys)=cost ls x (x+sumA (lns ys))):=by
      have h:=most_all HR.o x m ⟨hx0,hx1⟩;rw [hT,HLEN.o,← hys] at h;exact h hle
     clear hys hle;generalize sumA (lns ys)=u at *;generalize sumC (lns ys)=s at *
     gi_wp2_with fail
     obtain ⟨Z,hZ⟩:∃ Z,((W.setCell ⟨P+1,0,none⟩ (zI u)).setCell ⟨P+1+1,0,none⟩ (zI s)).drew=Z:=⟨_,rfl⟩
     have hKD:Z.heap[D]?=some (.deferred (some [])):=by
      rw [← hZ];exact ((KeepsOthers.setCell W ⟨P+1,0,none⟩ (zI u)).trans (KeepsOthers.setCell _ ⟨P+1+1,0,none⟩ (zI s))).same D _ hK rfl
     have HE2:Boxed Z (P+1) 3 (zI u):=by rw [← hZ];exact (b2.set (zI u)).other (B':=P+1+1) (by omega) (zI s)
     have HE3:Boxed Z (P+1+1) 3 (zI s):=by rw [← hZ];exact (b3.other (B':=P+1) (by omega) (zI u)).set (zI s)
     have HEB:Hid (Below w.heap.size w (Z.putObj D (.deferred none))):=by
      have h:Below P w Z:=by
       rw [← hZ];exact bel_drewN ((hBS.setCell (p:=⟨P+1,0,none⟩) (by show P≤P+1;omega) _).setCell (p:=⟨P+1+1,0,none⟩) (by show P≤P+1+1;omega) _) 1
      show Below w.heap.size w (Z.putObj D (.deferred none));rw [hP0];exact h.trans (belowK_b (w:=w) (by omega) _ D _ _ (by omega) hKD rfl rfl)
     have r2:=cell_kept HE2.cell (grownBy_putObj' _ D (.deferred none)) (fun r e=>by cases e;exact ⟨_,hKD,rfl⟩);have r3:=cell_kept HE3.cell (grownBy_putObj' _ D (.deferred none)) (fun r e=>by cases e;exact ⟨_,hKD,rfl⟩);have HZ:Hid (((W.setCell ⟨P+1,0,none⟩ (zI u)).setCell ⟨P+1+1,0,none⟩ (zI s)).drew=Z):=hZ;clear hZ;have g2:=b2.cell;have g2':=b2.frozen;have g3:=b3.cell;have g3':=fun v=>(b3.other (B':=P+1) (by omega) v).cell;have g3'':=fun v=>(b3.other (B':=P+1) (by omega) v).frozen
     gi_region_with_o (fail)
     all_goals gi_wp2
     all_goals rw [HZ.o]
     all_goals refine ⟨by simp,.inl ⟨_,_,rfl,run_takeDeferred hKD,?_⟩⟩
     all_goals refine ⟨.tuple #[zI u,zI s,zI 0],?_,u,s,0,rfl,.inr (.inr ⟨HR.o,HMM.o,rfl,HM.o.1,HM.o.2⟩),HEB.o⟩
     all_goals simp [results,Tryz.f125,go_sem,r2,r3]
    case stop=>
     rintro D c pre W hD hpre ⟨⟨p,t,q,rfl,rfl,⟨g1,g2,g3,g4⟩,b2,b3⟩,hBS⟩ hK
     have HM:Hid (MostOf ls x m (sumA (lns p)+q)∧sumC (lns p)+q*t.1.b=cost ls x (x+(sumA (lns p)+q))):=by
      have h:=most_cut HR.o x m q ⟨hx0,hx1⟩ (lns p) t.1;rw [hT,HLEN.o,← snoc_one] at h;exact h hpre g1 g2 g3 g4
     clear hpre g3 g4;generalize sumA (lns p)+q=u at *;generalize sumC (lns p)+q*t.1.b=s at *
     gi_wp2_with fail
     obtain ⟨Z,hZ⟩:∃ Z,((W.setCell ⟨P+1,0,none⟩ (zI u)).setCell ⟨P+1+1,0,none⟩ (zI s)).drew=Z:=⟨_,rfl⟩
     have hKD:Z.heap[D]?=some (.deferred (some [])):=by
      rw [← hZ];exact ((KeepsOthers.setCell W ⟨P+1,0,none⟩ (zI u)).trans (KeepsOthers.setCell _ ⟨P+1+1,0,none⟩ (zI s))).same D _ hK rfl
     have HE2:Boxed Z (P+1) 3 (zI u):=by rw [← hZ];exact (b2.set (zI u)).other (B':=P+1+1) (by omega) (zI s)
     have HE3:Boxed Z (P+1+1) 3 (zI s):=by rw [← hZ];exact (b3.other (B':=P+1) (by omega) (zI u)).set (zI s)
     have HEB:Hid (Below w.heap.size w (Z.putObj D (.deferred none))):=by
      have h:Below P w Z:=by
       rw [← hZ];exact bel_drewN ((hBS.setCell (p:=⟨P+1,0,none⟩) (by show P≤P+1;omega) _).setCell (p:=⟨P+1+1,0,none⟩) (by show P≤P+1+1;omega) _) 1
      show Below w.heap.size w (Z.putObj D (.deferred none));rw [hP0];exact h.trans (belowK_b (w:=w) (by omega) _ D _ _ (by omega) hKD rfl rfl)
     have r2:=cell_kept HE2.cell (grownBy_putObj' _ D (.deferred none)) (fun r e=>by cases e;exact ⟨_,hKD,rfl⟩);have r3:=cell_kept HE3.cell (grownBy_putObj' _ D (.deferred none)) (fun r e=>by cases e;exact ⟨_,hKD,rfl⟩);have HZ:Hid (((W.setCell ⟨P+1,0,none⟩ (zI u)).setCell ⟨P+1+1,0,none⟩ (zI s)).drew=Z):=hZ;clear hZ;have g2:=b2.cell;have g2':=b2.frozen;have g3:=b3.cell;have g3':=fun v=>(b3.other (B':=P+1) (by omega) v).cell;have g3'':=fun v=>(b3.other (B':=P+1) (by omega) v).frozen
     gi_region_with_o (fail)
     all_goals gi_wp2
     all_goals rw [HZ.o]
     all_goals refine ⟨by simp,.inl ⟨_,_,rfl,run_takeDeferred hKD,?_⟩⟩
     all_goals refine ⟨.tuple #[zI u,zI s,zI 0],?_,u,s,0,rfl,.inr (.inr ⟨HR.o,HMM.o,rfl,HM.o.1,HM.o.2⟩),HEB.o⟩
     all_goals simp [results,Tryz.f125,go_sem,r2,r3]
   ·rw [decide_eq_false hmm] at HIM;have HN:Hid (¬ MayMost x m):=fun h=>hmm h.2;clear hmm;have e2:=(bU.set (zI 0)).other (B':=w.heap.size+1+1) (by omega) (zI 0);have e3:=(bP.other (B':=w.heap.size+1) (by omega) (zI 0)).set (zI 0);have cU:=bU.cell;have fU:=bU.frozen;have cP:=fun v=>(bP.other (B':=w.heap.size+1) (by omega) v).cell;have fP:=fun v=>(bP.other (B':=w.heap.size+1) (by omega) v).frozen;have HEB:Hid (Below w.heap.size w ((w1.setCell ⟨w.heap.size+1,0,none⟩ (zI 0)).setCell ⟨w.heap.size+1+1,0,none⟩ (zI 0))):=(HB.o.setCell (p:=⟨w.heap.size+1,0,none⟩) (by show w.heap.size≤w.heap.size+1;omega) _).setCell (p:=⟨w.heap.size+1+1,0,none⟩) (by show w.heap.size≤w.heap.size+1+1;omega) _
    gi_wp2_with fail
    refine (HIX.o _).mono ?_;rintro e w2 ⟨rfl,hw2⟩;subst w2
    gi_wp2_with fail
    refine (HIM.o _).mono ?_;rintro e w2 ⟨rfl,hw2⟩;subst w2
    gi_wp2_with fail
    have r2:=e2.cell;have r3:=e3.cell;refine ⟨.tuple #[zI 0,zI 0,zI 2],?_,0,0,2,rfl,.inr (.inl ⟨HR.o,HN.o,rfl,rfl,rfl⟩),HEB.o⟩;simp [results,Tryz.f125,go_sem,r2,r3]
  ·rw [decide_eq_false hx] at HIX;have HN:Hid (¬ MayMost x m):=fun h=>hx h.1;clear hx;have e2:=(bU.set (zI 0)).other (B':=w.heap.size+1+1) (by omega) (zI 0);have e3:=(bP.other (B':=w.heap.size+1) (by omega) (zI 0)).set (zI 0);have cU:=bU.cell;have fU:=bU.frozen;have cP:=fun v=>(bP.other (B':=w.heap.size+1) (by omega) v).cell;have fP:=fun v=>(bP.other (B':=w.heap.size+1) (by omega) v).frozen;have HEB:Hid (Below w.heap.size w ((w1.setCell ⟨w.heap.size+1,0,none⟩ (zI 0)).setCell ⟨w.heap.size+1+1,0,none⟩ (zI 0))):=(HB.o.setCell (p:=⟨w.heap.size+1,0,none⟩) (by show w.heap.size≤w.heap.size+1;omega) _).setCell (p:=⟨w.heap.size+1+1,0,none⟩) (by show w.heap.size≤w.heap.size+1+1;omega) _
   gi_wp2_with fail
   refine (HIX.o _).mono ?_;rintro e w2 ⟨rfl,hw2⟩;subst w2
   gi_wp2_with fail
   have r2:=e2.cell;have r3:=e3.cell;refine ⟨.tuple #[zI 0,zI 0,zI 2],?_,0,0,2,rfl,.inr (.inl ⟨HR.o,HN.o,rfl,rfl,rfl⟩),HEB.o⟩;simp [results,Tryz.f125,go_sem,r2,r3]
 ·have hne:(f != 0)=true:=by simpa using h0
  have HN:Hid (¬ Right ls):=fun h=>h0 (hf.ok.2 h);clear hf h0 HRW;have e2:=(bU.set (zI 0)).other (B':=w.heap.size+1+1) (by omega) (zI 0);have e3:=(bP.other (B':=w.heap.size+1) (by omega) (zI 0)).set (zI 0);have cU:=bU.cell;have fU:=bU.frozen;have cP:=fun v=>(bP.other (B':=w.heap.size+1) (by omega) v).cell;have fP:=fun v=>(bP.other (B':=w.heap.size+1) (by omega) v).frozen;have HEB:Hid (Below w.heap.size w ((w1.setCell ⟨w.heap.size+1,0,none⟩ (zI 0)).setCell ⟨w.heap.size+1+1,0,none⟩ (zI 0))):=(HB.o.setCell (p:=⟨w.heap.size+1,0,none⟩) (by show w.heap.size≤w.heap.size+1;omega) _).setCell (p:=⟨w.heap.size+1+1,0,none⟩) (by show w.heap.size≤w.heap.size+1+1;omega) _
  gi_wp2_with fail
  have r2:=e2.cell;have r3:=e3.cell;refine ⟨.tuple #[zI 0,zI 0,zI f],?_,0,0,f,rfl,.inl ⟨HN.o,HF.o,rfl,rfl⟩,HEB.o⟩;simp [results,Tryz.f125,go_sem,r2,r3]
theorem kmost:KtMost:=fun w a len cap ls x n hc _ _=>(callsIn_wide (n:=6)).1 (pmost_in Fence.wide 6 (by omega) trivial trivial trivial trivial trivial rfl w a len cap ls x n hc (callsIn_wide.2 (kcheck (three w n) a len cap ls (hc.below (three_bel w n)))) (fun W=>callsIn_wide.2 (pwithin 0 10000000 x W)) (fun W=>callsIn_wide.2 (pwithin 0 1000000000000 n W)))
end tar
end Go.Proofs.YtdpfnedfakgolaaGreatDoor
