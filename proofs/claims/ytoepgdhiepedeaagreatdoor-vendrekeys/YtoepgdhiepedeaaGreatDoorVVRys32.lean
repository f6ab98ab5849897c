import Derived.Test.YtoepgdhiepedeaaGreatDoorVVRys26
import Derived.Test.YtoepgdhiepedeaaGreatDoorVVRys27
set_option linter.unusedVariables false
set_option linter.unusedSimpArgs false
set_option maxHeartbeats 4000000
set_option maxRecDepth 100000
namespace Go.Proofs.YtoepgdhiepedeaaGreatDoor
namespace disk
open Go.RowKit cell
theorem replayed(a:Option Addr)(n cap:Nat)(c:List Int)(w:World)(h:RowU w a n c)(hw:∀x∈c,0≤x∧x<4294967296):
  Calls Tryz.prog 81 #[.slice a n cap] w λe w'=>RepPost w c e w':=by
 have hcl:=h.1;by_cases hmay:1≤n∧n≤2048
 ·have HM:Hid (∀W,Calls Tryz.prog 47 #[zI (n:Int),zI 1,zI 2048] W λe w'=>e=.returned (.bool true)∧w'=W):=λW=>in_yes _ _ _ W (by omega) (by omega);have HLN:Hid (∀W p,Below w.heap.size w W→p≤n→Calls Tryz.prog 132 #[.slice a n cap,zI (p:Int)] W λe w'=>e=.returned (zI (lenAt c p))∧w'=W):=λW p hB hp=>length_any a n cap p c W (h.below hB) hmay.2 hp hw;have HL0:Hid (Calls Tryz.prog 132 #[.slice a n cap,zI 0] w λe w'=>e=.returned (zI (lenAt c 0))∧w'=w):=HLN.o w 0 (Below.refl _ _) (Nat.zero_le _);obtain⟨b,o,rfl,lb,hc⟩:=h.at (by omega);have HCL:Hid (∀W,Below w.heap.size w W→∀j,j<n→W.cell? ⟨b,o+j,none⟩=some (.int .u32 (c.getD j 0))):=λW hB j hj=>(hB.cell (p:=⟨b,o+j,none⟩) lb).trans (hc j hj);have HMY:Hid (May c):=⟨by omega,by omega⟩
  have HN:Hid (c.length=n):=hcl;obtain⟨hn1,hn2⟩:=hmay;clear h hw hc lb hcl;go_enter Tryz.func81,Tryz.ntmps81;go_wp2_with fail;refine(HM.o _).mono ?_;rintro e w1 ⟨rfl,hq⟩;subst w1;go_wp2_with fail;refine HL0.o.mono ?_;rintro e w1 ⟨rfl,hq⟩;subst w1;go_wp2_with fail;go_loopw [5,6,7] (λv5 v6 v7 wr=>∃(k p:Nat)(V:Value)(sl:List Sli),p≤n∧V=v5∧v6=zI (p:Int)∧v7=zI (lenAt c p)∧(itD c k).2=p∧Lr 25 wr w.heap.size V sl∧Recs wr V.ownBlock sl (itD c k).1∧sl.length≤p∧Below w.heap.size w wr) (λ_ v6 _ _=>n+1-(intOf v6).toNat)
  case atStart=>exact⟨0,0,_,[],Nat.zero_le _,rfl,rfl,rfl,rfl,Lr.zero _ _ _,Recs.nil _ _,Nat.le_refl _,Below.refl _ _⟩
  case round=>
   obtain⟨k,p,V,sl,hp,hV,rfl,rfl,hk,hlr,hrc,hsl,hbl⟩:=hrel;subst hV;have HLR:Hid (Lr 25 wr w.heap.size V sl):=hlr;have HRC:Hid (Recs wr V.ownBlock sl (itD c k).1):=hrc;have HBL:Hid (Below w.heap.size w wr):=hbl;have HK:Hid ((itD c k).2=p):=hk;clear hlr hrc hbl hk;obtain⟨wo,hwo⟩:∃wo,wo=wr:=⟨_,rfl⟩
   subst hwo;by_cases hpos:0<lenAt c p
   ·obtain⟨q0,q1,q2,q3⟩:=len_pos hpos;obtain⟨m,hm⟩:∃m:Nat,lenAt c p=(m:Int):=⟨(lenAt c p).toNat,by omega⟩
    have hgm:(c.getD p 0).toNat=m:=by rw[← q0,hm];simp
    have hpm:p+m<n:=by have:=HN.o;omega
    have hm1:1≤m:=by omega
    have hm2:m≤64:=by omega
    have HIT:Hid (itD c (k+1)=((itD c k).1++[recAt c p],p+m+1)):=by
     have h:=it_live (c:=c) (k:=k) (by rw[HK.o];exact hpos);rw[HK.o,hm,Int.toNat_natCast] at h;exact h
    have HRL:Hid ((recAt c p).length=m):=rec_len hgm (by have:=HN.o;omega);have HRA:Hid (∀x,x<m→(recAt c p).getD x 0=c.getD (p+1+x) 0):=λx hx=>rec_at hgm hx;rw[hm];have e1:decide ((0:Int)<(m:Int))=true:=by simp;omega
    have hmk:∀W:World,(Instr.makeSlice 25 (zI (m:Int)) (zI (m:Int))).run Tryz.prog W=.ok (.slice (some ⟨W.heap.size,0,none⟩) m m) (W.alloc (.cells (arr (List.replicate m 0)) 83)):=make_u32 m (by omega);have HG0:Hid (Blk (wo.alloc (.cells (arr (List.replicate m 0)) 83)) wo.heap.size (arr (List.replicate m 0)) 83):=Blk.new _ _ _;have HB0:Hid (Below wo.heap.size wo (wo.alloc (.cells (arr (List.replicate m 0)) 83))):=(Below.refl _ _).alloc (Nat.le_refl _) _;have HZL:Hid ((List.replicate m (0:Int)).length=m):=List.length_replicate;have HSZ:Hid (w.heap.size≤wo.heap.size):=HBL.o.size
    have HL2:Hid (∀W,Below w.heap.size w W→Calls Tryz.prog 132 #[.slice (some ⟨b,o,none⟩) n cap,zI ((p:Int)+(m:Int)+1)] W λe w'=>e=.returned (zI (lenAt c (p+m+1)))∧w'=W):=λW hB=>by
     have h:=HLN.o W (p+m+1) hB (by omega)
     rwa [show ((p+m+1:Nat):Int)=(p:Int)+(m:Int)+1 by omega] at h
    clear hpos q0 q1 q2 q3 hm hgm;generalize List.replicate m (0:Int)=zz at *;generalize recAt c p=R at *;go_wp2_with fail;generalize wo.alloc (.cells (arr zz) 83)=W0 at *;generalize hgg:wo.heap.size=g at *;have HGG:Hid (wo.heap.size=g):=hgg;clear hgg hmk;go_loopw [9] (λi wq=>∃(x:Nat)(zs:List Int),x≤m∧i=zI (x:Int)∧zs.length=m∧(∀i,i<x→zs.getD i 0=R.getD i 0)∧Blk wq g (arr zs) 83∧Below g wo wq) (λi _=>m-(intOf i).toNat)
    case atStart=>exact⟨0,zz,Nat.zero_le _,rfl,HZL.o,λi hi=>absurd hi (Nat.not_lt_zero _),HG0.o,HB0.o⟩
    case round=>
     obtain⟨x,zs,hx,rfl,hzl,hze,hg,hb⟩:=hrel;have HKB:Hid (Blk wr g (arr zs) 83):=hg;have HB:Hid (Below g wo wr):=hb;have HBW:Hid (Below w.heap.size w wr):=HBL.o.trans (hb.mono HSZ.o);have HZ:Hid (zs.length=m∧∀i,i<x→zs.getD i 0=R.getD i 0):=⟨hzl,hze⟩
     clear hzl hze hg hb;by_cases hxm:x<m
     ·have k2:=HCL.o wr HBW.o (p+1+x) (by omega);rw[← HRA.o x hxm] at k2;have k0:=Blk.word HKB.o x (by rw[HZ.o.1];exact hxm);have k1:=HKB.o.free x
      have HNX:Hid (Blk (wr.setCell ⟨g,x,none⟩ (.int .u32 (R.getD x 0))) g (arr (zs.set x (R.getD x 0))) 83):=by
       have h:=HKB.o.set x (.int .u32 (R.getD x 0));rw[arr_set] at h;exact h
      have HBX:Hid (Below g wo (wr.setCell ⟨g,x,none⟩ (.int .u32 (R.getD x 0)))):=bel_set HB.o g x _ (Nat.le_refl _)
      have HZX:Hid ((zs.set x (R.getD x 0)).length=m∧∀i,i<x+1→(zs.set x (R.getD x 0)).getD i 0=R.getD i 0):=by
       refine⟨by rw[List.length_set];exact HZ.o.1,λi hi=>?_⟩;rw[set_at];by_cases e:i=x
       ·rw[if_pos ⟨e,by rw[HZ.o.1];exact hxm⟩,e]
       ·rw[if_neg (by omega)];exact HZ.o.2 i (by omega)
      generalize zs.set x (R.getD x 0)=zs2 at *;generalize R.getD x 0=u at *;generalize zs.getD x 0=u0 at *;go_wp2_with fail;go_roundw
      case rel=>exact⟨x+1,zs2,by omega,by go_num,HZX.o.1,HZX.o.2,HNX.o,HBX.o⟩
      case measure=>simp[intOf];omega
     ·obtain rfl:x=m:=by omega
      have HX:Hid (RowU wr (some ⟨g,0,none⟩) x R):=by
       have e:zs=R:=list_ext (by rw[HZ.o.1,HRL.o]) (λi hi=>HZ.o.2 i (by rw[HZ.o.1] at hi;exact hi));rw[← e];exact Blk.rowU HKB.o HZ.o.1
      have HGL:Hid (g<wr.heap.size):=HKB.o.lt;have HBO:Hid (Below wo.heap.size wo wr):=by show Below _ _ _;rw[HGG.o];exact HB.o
      have HNE:Hid (some g≠V.ownBlock):=λe=>by have:=(World.ownsRow.lt HLR.o g e.symm).2;have:=HGG.o;omega
      have HUA:Hid (∀o,Lr 25 (wr.alloc o) w.heap.size V sl):=λo=>(HLR.o.next HBO.o).alloc o;have HBA:Hid (∀o,Below w.heap.size w (wr.alloc o)):=λo=>HBW.o.alloc HBW.o.size o;have HRA2:Hid (∀o,Recs (wr.alloc o) V.ownBlock (sl++[⟨some ⟨g,0,none⟩,x,x⟩]) ((itD c k).1++[R])):=λo=>((HRC.o.below HBO.o).snoc ⟨⟨g,0,rfl,HGL.o,HNE.o⟩,HX.o⟩).below ((Below.refl _ _).alloc (Nat.le_refl _) _);have hs6:sl.length≤1000000:=by omega
      go_wp2_with (first|(refine wp_sli sliT rfl _ _ rfl w.heap.size wr.heap.size V sl ⟨some ⟨g,0,none⟩,x,x⟩ rfl rfl (HUA.o _) ((Blk.new wr _ _).cell 0) hs6 (by have:=HBW.o.size;simp;omega) ?_;intro v3 w3 h3 hg3 ho3;have HB3:Hid (Below w.heap.size w w3):=own_bel (HUA.o _) hg3 (HBA.o _) (Nat.le_refl _) (by have:=HBW.o.size;simp;omega);have H3:Hid (Lr 25 w3 w.heap.size v3 (sl++[⟨some ⟨g,0,none⟩,x,x⟩])):=h3;have HR3:Hid (Recs w3 v3.ownBlock (sl++[⟨some ⟨g,0,none⟩,x,x⟩]) ((itD c k).1++[R])):=(HRA2.o _).grown hg3 ho3;clear h3 hg3 ho3)|fail)
      refine(HL2.o _ HB3.o).mono ?_;rintro e w4 ⟨rfl,hq⟩;subst w4;go_wp2_with fail;go_roundw
      case rel=>exact⟨k+1,p+x+1,v3,sl++[⟨some ⟨g,0,none⟩,x,x⟩],by omega,rfl,by go_num,rfl,by rw[HIT.o],H3.o,by rw[HIT.o];exact HR3.o,by rw[List.length_append];simp;omega,HB3.o⟩
      case measure=>simp[intOf];omega
   ·have HRD:Hid (repD c=itD c k):=rep_of (by rw[HK.o];exact hpos);have e1:decide ((0:Int)<lenAt c p)=false:=by simpa using hpos
    by_cases hneg:lenAt c p<0
    ·have HRI:Hid (RepIs c [] 0 3):=.inr (.inl ⟨HMY.o,by rw[HRD.o,HK.o];exact hneg,rfl,rfl,rfl⟩);have e2:decide (lenAt c p<0)=true:=by simpa using hneg
     clear hpos hneg;generalize lenAt c p=z at *;go_wp2_with fail;go_ret3;exact⟨zS,[],[],0,3,rfl,Lr.zero _ _ _,Recs.nil _ _,HRI.o,HBL.o⟩
    ·have HRI:Hid (RepIs c (itD c k).1 (p:Int) 0):=.inr (.inr ⟨HMY.o,by rw[HRD.o,HK.o];omega,by rw[HRD.o],by rw[HRD.o,HK.o],rfl⟩);have e2:decide (lenAt c p<0)=false:=by simpa using hneg
     clear hpos hneg;generalize lenAt c p=z at *;go_wp2_with fail;go_ret3;exact⟨V,sl,_,_,0,rfl,HLR.o,HRC.o,HRI.o,HBL.o⟩
 ·have HM:Hid (∀W,Calls Tryz.prog 47 #[zI (n:Int),zI 1,zI 2048] W λe w'=>e=.returned (.bool false)∧w'=W):=λW=>in_no _ _ _ W (by omega);have HRI:Hid (RepIs c [] 0 1):=.inl ⟨λh=>hmay ⟨by rw[← hcl];exact h.1,by rw[← hcl];exact h.2⟩,rfl,rfl,rfl⟩;clear h hw hcl hmay;go_enter Tryz.func81,Tryz.ntmps81;go_wp2_with fail;refine(HM.o _).mono ?_;rintro e w1 ⟨rfl,hq⟩;subst w1;go_wp2_with fail;go_ret3;exact⟨zS,[],[],0,1,rfl,Lr.zero _ _ _,Recs.nil _ _,HRI.o,Below.refl _ _⟩
end disk
namespace ora
open Go.RowKit
set_option maxRecDepth 100000
def IssuePostN(w : World)(l : List Pr)(m r b d : Int)(e : Ending)(w' : World): Prop :=
 ∃a' n' cap' ls x c, e=.returned (.tuple #[.agg #[.slice a' n' cap'], .int .i64 x, .int .i64 c]) ∧ RowP w' a' n' ls ∧ (a' = none → cap' = 0) ∧ n' ≤ cap' ∧ (∀y, a' = some y → w.heap.size ≤ y.block) ∧ IssueIs l m r b d ls x c ∧ zB w w'
set_option maxHeartbeats 4000000 in
theorem issued_new(a : Option Addr)(n cap : Nat)(l : List Pr)(m r b d : Int)(w : World)(hr : RowP w a n l):
  Calls Tryz.prog 26 #[.agg #[.slice a n cap], .int .i64 m, .int .i64 r, .int .i64 b, .int .i64 d] w λe w' => IssuePostN w l m r b d e w' := by
 have HB0 : Hid (Bi w ((w.alloc (.cells #[.slice a n cap] 28)).alloc (.cells #[.slice none 0 0] 28)) a n cap l) := ⟨(Bo.new hr).alloc _, Blk.new1 w _ _ _⟩
 have HL : Hid (l.length = n) := hr.1
 clear hr
 have c0 := HB0.out.bo.box.cell 0
 have HMY : Hid (∀W, RowP W a n l → zC 53 #[.agg #[.slice a n cap]] W λe w' => Told W (May l) e w') := λW h => omay_any a n cap l W h
 have HPM : Hid (∀W, zC 54 #[.agg #[.int .i64 m, .int .i64 r, .int .i64 b, .int .i64 d]] W λe w' => Told W (Pr.mk m r b d).may e w') := λW => pairMay_any m r b d W
 have HTG : Hid (∀W a, n ≤ 500 → RowP W a n l → zC 56 #[.agg #[.slice a n cap], .int .i64 m, .int .i64 r, .int .i64 b] W λe w' => TagPost W l m r b e w') := λW a hn h => tagged_any a n cap l m r b W h (by omega)
 have HCP : Hid (∀W a, n ≤ 500 → RowP W a n l → zC 55 #[.agg #[.slice a n cap]] W λe w' => GaveO W l e w') := λW a hn h => copy_any a n cap l W h hn
 go_enter Tryz.func26, Tryz.ntmps26
 go_wp2_with fail
 refine(HMY.out _ HB0.out.bo.row).mono ?_
 rintro e w1 ⟨rr, rfl, hrr, hb1⟩
 have HI : Hid (Bi w w1 a n cap l) := HB0.out.next hb1
 clear hb1 c0
 cases rr with
 |false =>
  have HF : Hid (IssueIs l m r b d [] 0 5) :=.inl ⟨(λh => by have := hrr.2 h; cases this), rfl, rfl, rfl⟩
  clear hrr
  have z0 := HI.out.out.cell 0
  have y0 := HI.out.out.free 0
  have HXX := HI.out.out.set 0 (.slice none 0 0)
  have R0 : Hid (_ = _) := HXX.cell 0
  have HB : Hid (zB w (w1.setCell ⟨w.heap.size + 1, 0, none⟩ (.slice none 0 0))) := bel_set HI.out.bo.bel _ _ _ (by omega)
  go_wp2_with fail
  exact bodyPost_ret (v :=.tuple #[.agg #[.slice none 0 0], .int .i64 0, .int .i64 5]) (by simp[results, Tryz.results26, R0.out, go_sem]) rfl ⟨none, 0, 0, [], 0, 5, rfl, RowP.nil _ _, λ_ => rfl, zc, (λy h => by cases h), HF.out, HB.out⟩
 |true =>
  have HM : Hid (May l) := hrr.1 rfl
  have hn : n ≤ 500 := by rw[← HL.out]; exact HM.out.few
  clear hrr
  have hN := Blk.new w1 #[.int .i64 m, .int .i64 r, .int .i64 b, .int .i64 d] 87
  have p0 := hN.cell 0
  have p1 := hN.cell 1
  have p2 := hN.cell 2
  have p3 := hN.cell 3
  have HP : Hid (Blk (w1.alloc (.cells #[.int .i64 m, .int .i64 r, .int .i64 b, .int .i64 d] 87)) w1.heap.size #[.int .i64 m, .int .i64 r, .int .i64 b, .int .i64 d] 87) := hN
  have HI1 : Hid (Bi w (w1.alloc (.cells #[.int .i64 m, .int .i64 r, .int .i64 b, .int .i64 d] 87)) a n cap l) := HI.out.alloc _
  clear hN
  go_wp2_with fail
  refine(HPM.out _).mono ?_
  rintro e w2 ⟨rr, rfl, hrr, hb2⟩
  have HI2 : Hid (Bi w w2 a n cap l) := HI1.out.next hb2
  have HP2 := shN HP hb2
  clear hb2 p0 p1 p2 p3
  generalize w1.heap.size = gp at *
  cases rr with
  |false =>
   have HF : Hid (IssueIs l m r b d [] 0 2) :=.inr (.inl ⟨HM.out, (λh => by have := hrr.2 h; cases this), rfl, rfl, rfl⟩)
   clear hrr
   have z0 := HI2.out.out.cell 0
   have y0 := HI2.out.out.free 0
   have HXX := HI2.out.out.set 0 (.slice none 0 0)
   have R0 : Hid (_ = _) := HXX.cell 0
   have HB : Hid (zB w (w2.setCell ⟨w.heap.size + 1, 0, none⟩ (.slice none 0 0))) := bel_set HI2.out.bo.bel _ _ _ (by omega)
   go_wp2_with fail
   exact bodyPost_ret (v :=.tuple #[.agg #[.slice none 0 0], .int .i64 0, .int .i64 2]) (by simp[results, Tryz.results26, R0.out, go_sem]) rfl ⟨none, 0, 0, [], 0, 2, rfl, RowP.nil _ _, λ_ => rfl, zc, (λy h => by cases h), HF.out, HB.out⟩
  |true =>
   have HPY : Hid ((Pr.mk m r b d).may) := hrr.1 rfl
   clear hrr
   have c0 := HI2.out.bo.box.cell 0
   go_wp2_with fail
   refine(HCP.out _ _ hn HI2.out.bo.row).mono ?_
   rintro e w3 ⟨v, rfl, hv, hb3⟩
   obtain⟨av, cv, rfl, hrv, hnv, hcv⟩ := hv.row
   have hln := HL.out
   rw[hln] at hrv hcv hv
   rw[hln]
   have HV3 : Hid (Pw (w3.alloc (.cells #[.slice av n cv] 28)) w2.heap.size (.slice av n cv) l) := hv.alloc _
   have HI3 : Hid (Bi w (w3.alloc (.cells #[.slice av n cv] 28)) a n cap l) := (HI2.out.next hb3).alloc _
   have HP3 : Hid (Blk (w3.alloc (.cells #[.slice av n cv] 28)) gp #[.int .i64 m, .int .i64 r, .int .i64 b, .int .i64 d] 87) := (HP2.out.next hb3).alloc _
   have HO3 : Hid (Blk (w3.alloc (.cells #[.slice av n cv] 28)) w3.heap.size #[.slice av n cv] 28) := Blk.new _ _ _
   have HNV : Hid ((av = none → cv = 0) ∧ n ≤ cv) := ⟨hnv, hcv⟩
   have HLT : Hid (gp<w2.heap.size ∧ w.heap.size + 2 ≤ w2.heap.size ∧ w2.heap.size ≤ w3.heap.size) := ⟨HP2.out.lt, HI2.out.out.lt, hb3.size⟩
   have HFAR : Hid (some w3.heap.size≠(Value.slice av n cv).ownBlock) := λe => by
    have := (World.ownsRow.lt hv _ e.symm).2
    omega
   clear hv hrv hnv hcv hb3 hln c0
   have c0 := HI3.out.bo.box.cell 0
   go_wp2_with fail
   refine(HTG.out _ _ hn HI3.out.bo.row).mono ?_
   rintro e w4 ⟨hb4, hor⟩
   have HI4 : Hid (Bi w w4 a n cap l) := HI3.out.next hb4
   have HV4 : Hid (Pw w4 w2.heap.size (.slice av n cv) l) := HV3.out.next hb4
   obtain⟨HP4, HO4⟩ := zn2 hb4 HP3 HO3
   clear hb4 c0
   have HNW : Hid (∀y, av = some y → w.heap.size ≤ y.block) := λy hy => by
    subst hy
    have := (World.ownsRow.lt HV4.out y.block rfl).1
    have := HLT.out
    omega
   generalize w3.heap.size = go at *
   generalize w2.heap.size = g2 at *
   have c0 := HI4.out.bo.box.cell 0
   have o0 := HO4.out.cell 0
   have z0 := HI4.out.out.cell 0
   have y0 := HI4.out.out.free 0
   rcases hor with⟨i, hi, rfl⟩|⟨hno, rfl⟩
   ·have hil : i<n := by rw[← HL.out]; exact hi.lt
    obtain⟨bl, off, rfl, lbl, hc⟩ := HI4.out.bo.row.at (by omega)
    obtain⟨f0, f1, f2, f3⟩ := hc i hil
    have HF : Hid (IssueIs l m r b d l (l.getD i pr0).t 0) :=.inr (.inr (.inl ⟨HM.out, HPY.out, ⟨i, hi, rfl⟩, rfl, rfl⟩))
    have hge : (0 : Int) ≤ (i : Int) := by omega
    have HXX := HI4.out.out.set 0 (.slice av n cv)
    have R0 : Hid ((w4.setCell ⟨w.heap.size + 1, 0, none⟩ (.slice av n cv)).drew.cell? ⟨w.heap.size + 1, 0, none⟩ = some (.slice av n cv)) := HXX.cell 0
    have HRV : Hid (RowP (w4.setCell ⟨w.heap.size + 1, 0, none⟩ (.slice av n cv)).drew av n l ∧ zB w (w4.setCell ⟨w.heap.size + 1, 0, none⟩ (.slice av n cv)).drew) := by
     obtain⟨av', cv', e1, e2, _, _⟩ := (HV4.out.put (w.heap.size + 1) 0 (.slice av n cv) (by have := HLT.out; omega)).row
     rw[HL.out] at e1 e2
     simp only[Value.slice.injEq] at e1
     obtain⟨rfl, _, rfl⟩ := e1
     exact⟨e2, (bel_set HI4.out.bo.bel _ _ _ (by omega)).drew⟩
    clear hc hi f0 f1 f2
    generalize (l.getD i pr0).t = pt at *
    go_wp2_with fail
    go_region
    all_goals go_wp2_with fail
    exact bodyPost_ret (v :=.tuple #[.agg #[.slice av n cv], .int .i64 pt, .int .i64 0]) (by simp[results, Tryz.results26, R0.out, go_sem]) rfl ⟨av, n, cv, l, pt, 0, rfl, HRV.out.1, HNV.out.1, HNV.out.2, HNW.out, HF.out, HRV.out.2⟩
   ·obtain⟨z, hz⟩ : ∃z : Int, z = -1 := ⟨_, rfl⟩
    have hz' : z<0 := by omega
    rw[← hz]
    clear hz
    by_cases h5 : n = 500
    ·have hq : ((n : Int)==500) = true := by simp; omega
     have HF : Hid (IssueIs l m r b d [] 0 16) :=.inr (.inr (.inr (.inl ⟨HM.out, HPY.out, hno, by rw[HL.out]; exact h5, rfl, rfl, rfl⟩)))
     have HXX := HI4.out.out.set 0 (.slice none 0 0)
     have R0 : Hid (_ = _) := HXX.cell 0
     have HB : Hid (zB w (w4.setCell ⟨w.heap.size + 1, 0, none⟩ (.slice none 0 0))) := bel_set HI4.out.bo.bel _ _ _ (by omega)
     clear hno h5
     go_wp2_with fail
     exact bodyPost_ret (v :=.tuple #[.agg #[.slice none 0 0], .int .i64 0, .int .i64 16]) (by simp[results, Tryz.results26, R0.out, go_sem]) rfl ⟨none, 0, 0, [], 0, 16, rfl, RowP.nil _ _, λ_ => rfl, zc, (λy h => by cases h), HF.out, HB.out⟩
    ·have hq : ((n : Int)==500) = false := by simp; omega
     have HF : Hid (IssueIs l m r b d (l ++ [⟨m, r, b, d⟩]) d 0) :=.inr (.inr (.inr (.inr ⟨HM.out, HPY.out, hno, by rw[HL.out]; omega, rfl, rfl, rfl⟩)))
     have p0 := HP4.out.cell 0
     have p1 := HP4.out.cell 1
     have p2 := HP4.out.cell 2
     have p3 := HP4.out.cell 3
     have HG : Hid (PrAt (w4.alloc (.cells #[.int .i64 m, .int .i64 r, .int .i64 b, .int .i64 d] 87)) w4.heap.size 0 ⟨m, r, b, d⟩) := pr_cell w4 _ _ _ _
     have HOA : Hid (Pw (w4.alloc (.cells #[.int .i64 m, .int .i64 r, .int .i64 b, .int .i64 d] 87)) g2 (.slice av n cv) l) := HV4.out.alloc _
     have HG4 : Hid (g2 ≤ w4.heap.size) := Nat.le_trans HLT.out.2.2 (Nat.le_of_lt HO4.out.lt)
     have HSZ : Hid (g2 ≤ (w4.alloc (.cells #[.int .i64 m, .int .i64 r, .int .i64 b, .int .i64 d] 87)).heap.size) := palloc_le HG4.out _
     have HLN : Hid (l.length ≤ 1000000) := by show _ ≤ _; rw[HL.out]; omega
     have HI5 : Hid (Bi w (w4.alloc (.cells #[.int .i64 m, .int .i64 r, .int .i64 b, .int .i64 d] 87)) a n cap l ∧ Blk (w4.alloc (.cells #[.int .i64 m, .int .i64 r, .int .i64 b, .int .i64 d] 87)) go #[.slice av n cv] 28) := ⟨HI4.out.alloc _, HO4.out.alloc _⟩
     clear hno h5
     go_wp2_with (first
      |(at_builtin; refine wp_pr rfl _ _ rfl g2 w4.heap.size _ l ⟨m, r, b, d⟩ rfl rfl HOA.out HG.out HLN.out HSZ.out ?_)
      | go_in)
     intro v' w5 hL5 hg5
     have hb5 : zB w w5 := pown_bel HOA.out hg5 HI5.out.1.bo.bel (by have := HLT.out; omega) (by have := HSZ.out; have := HLT.out; omega)
     have hout := Blk.pgrown HI5.out.1.out hg5 (pown_far HOA.out (by have := HLT.out; omega))
     have hgo := Blk.pgrown HI5.out.2 hg5 HFAR.out
     obtain⟨av', cv', rfl, _, hnv', hcv'⟩ := hL5.row
     obtain⟨n', hn'⟩ : ∃n', (l ++ [(⟨m, r, b, d⟩ : Pr)]).length = n' := ⟨_, rfl⟩
     rw[hn'] at hcv' hL5 ⊢
     have g0 := hgo.cell 0
     have g1 := hgo.free 0
     have hgo2 := hgo.set 0 (.slice av' n' cv')
     have k0 := hgo2.cell 0
     have hne : w.heap.size + 1≠go := by have := HLT.out; omega
     have hout2 := Blk.other hout (G' := go) 0 (.slice av' n' cv') (by omega)
     have u0 := hout2.cell 0
     have u1 := hout2.free 0
     have hout3 := hout2.set 0 (.slice av' n' cv')
     have R0 : Hid (_ = _) := hout3.cell 0
     have hP6 := Pw.put2 (Pw.put2 hL5 hgo (by decide) 0 (.slice av' n' cv')) hout2 (by decide) 0 (.slice av' n' cv')
     have HRV : Hid (RowP ((w5.setCell ⟨go, 0, none⟩ (.slice av' n' cv')).setCell ⟨w.heap.size + 1, 0, none⟩ (.slice av' n' cv')) av' n' (l ++ [⟨m, r, b, d⟩]) ∧ zB w ((w5.setCell ⟨go, 0, none⟩ (.slice av' n' cv')).setCell ⟨w.heap.size + 1, 0, none⟩ (.slice av' n' cv'))) := by
      obtain⟨a6, c6, e1, e2, _, _⟩ := hP6.row
      rw[hn'] at e1 e2
      simp only[Value.slice.injEq] at e1
      obtain⟨rfl, _, rfl⟩ := e1
      exact⟨e2, bel_set (bel_set hb5 _ _ _ (by have := HLT.out; omega)) _ _ _ (by omega)⟩
     have HNW : Hid (∀y, av' = some y → w.heap.size ≤ y.block) := λy hy => by
      subst hy
      have := (World.ownsRow.lt hL5 y.block rfl).1
      have := HLT.out
      omega
     have HNN : Hid ((av' = none → cv' = 0) ∧ n' ≤ cv') := ⟨hnv', hcv'⟩
     clear hL5 hg5 hb5 hout hgo hgo2 hout2 hout3 hP6 hnv' hcv' hn' hne c0 o0 z0 y0 p0 p1 p2 p3
     go_wp2_with fail
     exact bodyPost_ret (v :=.tuple #[.agg #[.slice av' n' cv'], .int .i64 d, .int .i64 0]) (by simp[results, Tryz.results26, R0.out, go_sem]) rfl ⟨av', n', cv', _, d, 0, rfl, HRV.out.1, HNN.out.1, HNN.out.2, HNW.out, HF.out, HRV.out.2⟩
end ora
end Go.Proofs.YtoepgdhiepedeaaGreatDoor
