import Derived.Test.YtnpblpbohcegoaaGreatDoorVVRts7
import Derived.Test.YtnpblpbohcegoaaGreatDoorVVRts8
import Derived.Test.YtnpblpbohcegoaaGreatDoorVVRts10
set_option linter.unusedVariables false
set_option linter.unusedSimpArgs false
set_option maxHeartbeats 4000000
set_option maxRecDepth 100000
namespace Go.Proofs.YtnpblpbohcegoaaGreatDoor
namespace disk
open Go.RowKit cell
theorem replayed (a:Option Addr) (n cap:Nat) (c:List Int) (w:World) (h:RowU w a n c) (hw:∀ x∈c,0≤x∧x<4294967296) :
  Calls Tryz.prog 95 #[.slice a n cap] w fun e w'=>RepPost w c e w':=by
 have hcl:=h.1;by_cases hmay:1≤n∧n≤2048
 ·have HM:Hid (∀ W,Calls Tryz.prog 101 #[zI (n:Int),zI 1,zI 2048] W fun e w'=>e = .returned (.bool true)∧w'=W):=fun W=>in_yes _ _ _ W (by omega) (by omega);have HLN:Hid (∀ W p,Below w.heap.size w W→p≤n→Calls Tryz.prog 140 #[.slice a n cap,zI (p:Int)] W fun e w'=>e = .returned (zI (lenAt c p))∧w'=W):=fun W p hB hp=>length_any a n cap p c W (h.below hB) hmay.2 hp hw;have HL0:Hid (Calls Tryz.prog 140 #[.slice a n cap,zI 0] w fun e w'=>e = .returned (zI (lenAt c 0))∧w'=w):=HLN.o w 0 (Below.refl _ _) (Nat.zero_le _);obtain ⟨b,o,rfl,lb,hc⟩:=h.at (by omega);have HCL:Hid (∀ W,Below w.heap.size w W→∀ j,j<n→W.cell? ⟨b,o+j,none⟩=some (.int .u32 (c.getD j 0))):=fun W hB j hj=>(hB.cell (p:=⟨b,o+j,none⟩) lb).trans (hc j hj);have HMY:Hid (May c):=⟨by omega,by omega⟩
  have HN:Hid (c.length=n):=hcl;obtain ⟨hn1,hn2⟩:=hmay;clear h hw hc lb hcl;go_enter Tryz.func95,Tryz.ntmps95;go_wp2_with fail;refine (HM.o _).mono ?_;rintro e w1 ⟨rfl,hq⟩;subst w1;clear HM;go_wp2_with fail;refine HL0.o.mono ?_;rintro e w1 ⟨rfl,hq⟩;subst w1;clear HL0;go_wp2_with fail;go_loopw [5,6,7] (fun v5 v6 v7 wr=>∃ (k p:Nat) (V:Value) (sl:List Sli),p≤n∧V=v5∧v6=zI (p:Int)∧v7=zI (lenAt c p)∧(itD c k).2=p∧Lr 25 wr w.heap.size V sl∧Recs wr V.ownBlock sl (itD c k).1∧sl.length≤p∧Below w.heap.size w wr) (fun _ v6 _ _=>n+1 - (intOf v6).toNat)
  case atStart=>exact ⟨0,0,_,[],Nat.zero_le _,rfl,rfl,rfl,rfl,Lr.zero _ _ _,Recs.nil _ _,Nat.le_refl _,Below.refl _ _⟩
  case round=>
   obtain ⟨k,p,V,sl,hp,hV,rfl,rfl,hk,hlr,hrc,hsl,hbl⟩:=hrel;subst hV;have HLR:Hid (Lr 25 wr w.heap.size V sl):=hlr;have HRC:Hid (Recs wr V.ownBlock sl (itD c k).1):=hrc;have HBL:Hid (Below w.heap.size w wr):=hbl;have HK:Hid ((itD c k).2=p):=hk;clear hlr hrc hbl hk;obtain ⟨wo,hwo⟩:∃ wo,wo=wr:=⟨_,rfl⟩
   subst hwo;by_cases hpos:0<lenAt c p
   ·obtain ⟨q0,q1,q2,q3⟩:=len_pos hpos;obtain ⟨m,hm⟩:∃ m:Nat,lenAt c p=(m:Int):=⟨(lenAt c p).toNat,by omega⟩
    have hgm:(c.getD p 0).toNat=m:=by rw [← q0,hm];simp
    have hpm:p+m<n:=by have:=HN.o;omega
    have hm1:1≤m:=by omega
    have hm2:m≤64:=by omega
    have HIT:Hid (itD c (k+1)=((itD c k).1++[recAt c p],p+m+1)):=by
     have h:=it_live (c:=c) (k:=k) (by rw [HK.o];exact hpos);rw [HK.o,hm,Int.toNat_natCast] at h;exact h
    have HRL:Hid ((recAt c p).length=m):=rec_len hgm (by have:=HN.o;omega);have HRA:Hid (∀ x,x<m→(recAt c p).getD x 0=c.getD (p+1+x) 0):=fun x hx=>rec_at hgm hx;rw [hm];have e1:decide ((0:Int)<(m:Int))=true:=by simp;omega
    have hmk:∀ W:World,(Instr.makeSlice 25 (zI (m:Int)) (zI (m:Int))).run Tryz.prog W = .ok (.slice (some ⟨W.heap.size,0,none⟩) m m) (W.alloc (.cells (arr (List.replicate m 0)) 99)):=make_u32 m (by omega);have HG0:Hid (Blk (wo.alloc (.cells (arr (List.replicate m 0)) 99)) wo.heap.size (arr (List.replicate m 0)) 99):=Blk.new _ _ _;have HB0:Hid (Below wo.heap.size wo (wo.alloc (.cells (arr (List.replicate m 0)) 99))):=(Below.refl _ _).alloc (Nat.le_refl _) _;have HZL:Hid ((List.replicate m (0:Int)).length=m):=List.length_replicate;have HSZ:Hid (w.heap.size≤wo.heap.size):=HBL.o.size
    have HL2:Hid (∀ W,Below w.heap.size w W→Calls Tryz.prog 140 #[.slice (some ⟨b,o,none⟩) n cap,zI ((p:Int)+(m:Int)+1)] W fun e w'=>e = .returned (zI (lenAt c (p+m+1)))∧w'=W):=fun W hB=>by
     have h:=HLN.o W (p+m+1) hB (by omega)
     rwa [show ((p+m+1:Nat):Int)=(p:Int)+(m:Int)+1 by omega] at h
    clear hpos q0 q1 q2 q3 hm hgm HLN;generalize List.replicate m (0:Int)=zz at *;generalize recAt c p=R at *;go_wp2_with fail;generalize wo.alloc (.cells (arr zz) 99)=W0 at *;generalize hgg:wo.heap.size=g at *;have HGG:Hid (wo.heap.size=g):=hgg;clear hgg hmk;go_loopw [9] (fun i wq=>∃ (x:Nat) (zs:List Int),x≤m∧i=zI (x:Int)∧zs.length=m∧(∀ i,i<x→zs.getD i 0=R.getD i 0)∧Blk wq g (arr zs) 99∧Below g wo wq) (fun i _=>m - (intOf i).toNat)
    case atStart=>exact ⟨0,zz,Nat.zero_le _,rfl,HZL.o,fun i hi=>absurd hi (Nat.not_lt_zero _),HG0.o,HB0.o⟩
    case round=>
     obtain ⟨x,zs,hx,rfl,hzl,hze,hg,hb⟩:=hrel;have HKB:Hid (Blk wr g (arr zs) 99):=hg;have HB:Hid (Below g wo wr):=hb;have HBW:Hid (Below w.heap.size w wr):=HBL.o.trans (hb.mono HSZ.o);have HZ:Hid (zs.length=m∧∀ i,i<x→zs.getD i 0=R.getD i 0):=⟨hzl,hze⟩
     clear hzl hze hg hb HG0 HB0 HZL;by_cases hxm:x<m
     ·have k2:=HCL.o wr HBW.o (p+1+x) (by omega);rw [← HRA.o x hxm] at k2;have k0:=Blk.word HKB.o x (by rw [HZ.o.1];exact hxm);have k1:=HKB.o.free x
      have HNX:Hid (Blk (wr.setCell ⟨g,x,none⟩ (.int .u32 (R.getD x 0))) g (arr (zs.set x (R.getD x 0))) 99):=by
       have h:=HKB.o.set x (.int .u32 (R.getD x 0));rw [arr_set] at h;exact h
      have HBX:Hid (Below g wo (wr.setCell ⟨g,x,none⟩ (.int .u32 (R.getD x 0)))):=bel_set HB.o g x _ (Nat.le_refl _)
      have HZX:Hid ((zs.set x (R.getD x 0)).length=m∧∀ i,i<x+1→(zs.set x (R.getD x 0)).getD i 0=R.getD i 0):=by
       refine ⟨by rw [List.length_set];exact HZ.o.1,fun i hi=>?_⟩;rw [set_at];by_cases e:i=x
       ·rw [if_pos ⟨e,by rw [HZ.o.1];exact hxm⟩,e]
       ·rw [if_neg (by omega)];exact HZ.o.2 i (by omega)
      generalize zs.set x (R.getD x 0)=zs2 at *;generalize R.getD x 0=u at *;generalize zs.getD x 0=u0 at *;clear HKB HB HZ HBW;go_wp2_with fail;go_roundw
      case rel=>exact ⟨x+1,zs2,by omega,by go_num,HZX.o.1,HZX.o.2,HNX.o,HBX.o⟩
      case measure=>simp [intOf];omega
     ·obtain rfl:x=m:=by omega
      have HX:Hid (RowU wr (some ⟨g,0,none⟩) x R):=by
       have e:zs=R:=list_ext (by rw [HZ.o.1,HRL.o]) (fun i hi=>HZ.o.2 i (by rw [HZ.o.1] at hi;exact hi));rw [← e];exact Blk.rowU HKB.o HZ.o.1
      have HGL:Hid (g<wr.heap.size):=HKB.o.lt;have HBO:Hid (Below wo.heap.size wo wr):=by show Below _ _ _;rw [HGG.o];exact HB.o
      have HNE:Hid (some g≠V.ownBlock):=fun e=>by have:=(World.ownsRow.lt HLR.o g e.symm).2;have:=HGG.o;omega
      have HUA:Hid (∀ o,Lr 25 (wr.alloc o) w.heap.size V sl):=fun o=>(HLR.o.next HBO.o).alloc o;have HBA:Hid (∀ o,Below w.heap.size w (wr.alloc o)):=fun o=>HBW.o.alloc HBW.o.size o;have HRA2:Hid (∀ o,Recs (wr.alloc o) V.ownBlock (sl++[⟨some ⟨g,0,none⟩,x,x⟩]) ((itD c k).1++[R])):=fun o=>((HRC.o.below HBO.o).snoc ⟨⟨g,0,rfl,HGL.o,HNE.o⟩,HX.o⟩).below ((Below.refl _ _).alloc (Nat.le_refl _) _);have hs6:sl.length≤1000000:=by omega
      clear HKB HB HZ HX HNE HGL HRA HRL;go_wp2_with (first | (refine wp_sli sliT rfl _ _ rfl w.heap.size wr.heap.size V sl ⟨some ⟨g,0,none⟩,x,x⟩ rfl rfl (HUA.o _) ((Blk.new wr _ _).cell 0) hs6 (by have:=HBW.o.size;simp;omega) ?_;intro v3 w3 h3 hg3 ho3;have HB3:Hid (Below w.heap.size w w3):=own_bel (HUA.o _) hg3 (HBA.o _) (Nat.le_refl _) (by have:=HBW.o.size;simp;omega);have H3:Hid (Lr 25 w3 w.heap.size v3 (sl++[⟨some ⟨g,0,none⟩,x,x⟩])):=h3;have HR3:Hid (Recs w3 v3.ownBlock (sl++[⟨some ⟨g,0,none⟩,x,x⟩]) ((itD c k).1++[R])):=(HRA2.o _).grown hg3 ho3;clear h3 hg3 ho3) | fail)
      refine (HL2.o _ HB3.o).mono ?_;rintro e w4 ⟨rfl,hq⟩;subst w4;go_wp2_with fail;go_roundw
      case rel=>exact ⟨k+1,p+x+1,v3,sl++[⟨some ⟨g,0,none⟩,x,x⟩],by omega,rfl,by go_num,rfl,by rw [HIT.o],H3.o,by rw [HIT.o];exact HR3.o,by rw [List.length_append];simp;omega,HB3.o⟩
      case measure=>simp [intOf];omega
   ·have HRD:Hid (repD c=itD c k):=rep_of (by rw [HK.o];exact hpos);have e1:decide ((0:Int)<lenAt c p)=false:=by simpa using hpos
    by_cases hneg:lenAt c p<0
    ·have HRI:Hid (RepIs c [] 0 3):= .inr (.inl ⟨HMY.o,by rw [HRD.o,HK.o];exact hneg,rfl,rfl,rfl⟩);have e2:decide (lenAt c p<0)=true:=by simpa using hneg
     clear HRD hpos hneg HLN;generalize lenAt c p=z at *;go_wp2_with fail;go_ret3;exact ⟨zS,[],[],0,3,rfl,Lr.zero _ _ _,Recs.nil _ _,HRI.o,HBL.o⟩
    ·have HRI:Hid (RepIs c (itD c k).1 (p:Int) 0):= .inr (.inr ⟨HMY.o,by rw [HRD.o,HK.o];omega,by rw [HRD.o],by rw [HRD.o,HK.o],rfl⟩);have e2:decide (lenAt c p<0)=false:=by simpa using hneg
     clear HRD hpos hneg HLN;generalize lenAt c p=z at *;go_wp2_with fail;go_ret3;exact ⟨V,sl,_,_,0,rfl,HLR.o,HRC.o,HRI.o,HBL.o⟩
 ·have HM:Hid (∀ W,Calls Tryz.prog 101 #[zI (n:Int),zI 1,zI 2048] W fun e w'=>e = .returned (.bool false)∧w'=W):=fun W=>in_no _ _ _ W (by omega);have HRI:Hid (RepIs c [] 0 1):= .inl ⟨fun h=>hmay ⟨by rw [← hcl];exact h.1,by rw [← hcl];exact h.2⟩,rfl,rfl,rfl⟩;clear h hw hcl hmay;go_enter Tryz.func95,Tryz.ntmps95;go_wp2_with fail;refine (HM.o _).mono ?_;rintro e w1 ⟨rfl,hq⟩;subst w1;go_wp2_with fail;go_ret3;exact ⟨zS,[],[],0,1,rfl,Lr.zero _ _ _,Recs.nil _ _,HRI.o,Below.refl _ _⟩
end disk
namespace deb
open tar (Du du0 Came RowD Ld ErrPost TwoPost PairT GaveD)
open Go.RowKit
theorem krec:KdRec:=by
 intro w a len cap ls t bp hcame ht0 hb0;have hr:=hcame.row;have HSH:Hid (Calls Tryz.prog 191 #[.slice a len cap,zI t,zI bp] w fun e w'=>SharePost ls t bp w e w'):=pshare a len cap ls t bp w hr hcame.most;have HROW0:Hid (RowD w a len ls):=hr;clear hcame hr ht0 hb0;go_enter Tryz.func164,Tryz.ntmps164;go_wp2_with fail;refine HSH.o.mono ?_;rintro e w1 ⟨s,f,rfl,hf,hb1⟩;have HB1:Hid (Below w.heap.size w w1):=hb1;clear hb1 HSH;rcases hf with ⟨hm,hf,rfl⟩ | ⟨hm,⟨ht,hse,hg⟩ | ⟨ht,rfl,rfl⟩⟩
 ·have hne:(f != 0)=true:=by simpa using fun h=>hm (hf.ok.1 h)
  have HN:Hid (¬ Mays ls):=hm;have HF:Hid (FaultIs ls f):=hf;clear hf hm;go_wp2_with fail;go_ret3;exact ⟨none,0,0,[],0,f,rfl,.inl ⟨HN.o,HF.o,rfl,rfl⟩,fresh_nil _ _,HB1.o⟩
 ·subst hg;have HT:Hid (TMay t bp):=ht;have hsb:=share_bd ht;rw [← hse] at hsb;have HSE:Hid (s=t*bp / 10000):=hse;have HM:Hid (Mays ls):=hm;have HROW:Hid (RowD w1 a len ls):=HROW0.o.below HB1.o;have HLEN:Hid (ls.length=len):=HROW.o.1;have hl8:len≤8:=by have:=hm.1;have:=HLEN.o;omega
  clear ht hse hm HROW0;go_wp2_with fail;go_loopw [11,12,29] (fun u v x wr=>∃ (k:Nat) (V:Value),k≤len∧x=zI (k:Int)∧v=zI (max 0 (s - sumK ls k))∧V=u∧Ld 70 wr w1.heap.size V (recK ls s k)∧Below w1.heap.size w1 wr) (fun _ _ x _=>len - (intOf x).toNat)
  case atStart=>exact ⟨0,_,Nat.zero_le _,rfl,by show _=Value.int .i64 (max 0 (s - 0));rw [show max 0 (s - 0)=s by omega],rfl,tar.Ld.zero _ _ _,Below.refl _ _⟩
  case round=>
   obtain ⟨k,V,hk,rfl,rfl,hV,hu,hb⟩:=hrel;subst hV;have HBW:Hid (Below w1.heap.size w1 wr):=hb;have HU:Hid (Ld 70 wr w1.heap.size V (recK ls s k)):=hu;have hsk:=sumK_bd HM.o k (by rw [HLEN.o];exact hk);by_cases hlt:k<len
   ·have hdl:decide ((k:Int)<(len:Int))=true:=by simp;omega
    obtain ⟨b,off,rfl,hbl,hc⟩:=HROW.o.at (by omega);have c0:wr.cell? ⟨b,off+k*2,none⟩=some (zI (ls.getD k du0).a):=(hb.cell (p:=⟨b,off+k*2,none⟩) hbl).trans (hc k hlt).1;have c1:wr.cell? ⟨b,off+k*2+1,none⟩=some (zI (ls.getD k du0).b):=(hb.cell (p:=⟨b,off+k*2+1,none⟩) hbl).trans (hc k hlt).2;have ho:=HM.o.2 k (by rw [HLEN.o];exact hlt);have ho1:=ho.1.1;have ho2:=ho.1.2;have HN:Hid (sumK ls k+(ls.getD k du0).a=sumK ls (k+1)):=(sumK_next ls k).symm;have HY:Hid (0<left (ls.getD k du0).a (sumK ls k+(ls.getD k du0).a) s→recK ls s (k+1)=recK ls s k++[⟨left (ls.getD k du0).a (sumK ls k+(ls.getD k du0).a) s,(ls.getD k du0).b⟩]):=recK_yes ls s k;have HZ:Hid (¬ 0<left (ls.getD k du0).a (sumK ls k+(ls.getD k du0).a) s→recK ls s (k+1)=recK ls s k):=recK_no ls s k;have hzl:(recK ls s k).length≤1000000:=by have:=recK_len ls s k;omega
    clear hc hb hu ho;generalize recK ls s k=Z at *;generalize hq1:sumK ls k=q at *;generalize (ls.getD k du0).a=x at *;generalize (ls.getD k du0).b=y at *;have HBX:Hid (Blk (wr.alloc (.cells #[zI x,zI y] 70)) wr.heap.size #[zI x,zI y] 70):=Blk.new wr _ _;generalize hR:max 0 (s - q)=R at *;have hR0:0≤R:=by omega
    have hR1:R≤100000000:=by omega
    have hmin:=tar.run_min R x _ rfl;generalize hp:min R x=p at *;have hp0:0≤p:=by omega
    have hp1:p≤x:=by omega
    have hp2:p≤R:=by omega
    by_cases hpos:0<x - p
    ·
     have HRN:Hid (R - p=max 0 (s - sumK ls (k+1))):=by show _=_;rw [← HN.o];omega
     have hd2:decide (0<x - p)=true:=decide_eq_true hpos;have hle:left x (q+x) s=x - p:=by unfold left;omega
     rw [hle] at HY;have HZ2:Hid (recK ls s (k+1)=Z++[⟨x - p,y⟩]):=HY.o hpos;clear HY HZ hle;clear hq1 hR hp hsk HN
     go_wp2_with (first
      | (refine wp_let1 rfl 3 _ _ rfl (wr.heap.size) 0 rfl .i64 (x - p) rfl (by kernel_rfl) #[zI x,zI y] 70 HBX.o (by simp) ?_)
      | fail)
     intro W1 hU1;have HX1:Hid (Blk W1 wr.heap.size #[zI (x - p),zI y] 70):=hU1.blk;have hbw:Below wr.heap.size wr W1:=hU1.bel _ _ (Nat.le_refl _) ((Below.refl _ _).alloc (Nat.le_refl _) _);have HBW1:=shB HBW hbw;have HU1:Hid (Ld 70 W1 w1.heap.size V Z):=HU.o.next hbw;have d0:W1.cell? ⟨wr.heap.size,0,none⟩=some (zI (x - p)):=HX1.o.cell 0;have d1:W1.cell? ⟨wr.heap.size,1,none⟩=some (zI y):=HX1.o.cell 1;clear hU1 hbw HBX HBW HU c0 c1;have HBA:Hid (Below w1.heap.size w1 (W1.alloc (.cells #[zI (x - p),zI y] 70))):=HBW1.o.alloc HBW1.o.size _;have HZA:Hid (Ld 70 (W1.alloc (.cells #[zI (x - p),zI y] 70)) w1.heap.size V Z):=HU1.o.alloc _;have HCA:Hid ((W1.alloc (.cells #[zI (x - p),zI y] 70)).cell? ⟨W1.heap.size,0,none⟩=some (zI (x - p))∧(W1.alloc (.cells #[zI (x - p),zI y] 70)).cell? ⟨W1.heap.size,1,none⟩=some (zI y)):=⟨(Blk.new W1 _ _).cell 0,(Blk.new W1 _ _).cell 1⟩
     go_wp2_with (first
      | (at_builtin;refine tar.wp_pair debtT rfl _ _ rfl w1.heap.size (W1.heap.size) V Z ⟨x - p,y⟩ rfl rfl HZA.o HCA.o hzl HBA.o.size ?_)
      | fail)
     intro v3 w3 h3 hg3;have HB3:Hid (Below w1.heap.size w1 w3):=tar.own_bel HZA.o hg3 HBA.o (Nat.le_refl _) HBA.o.size;have H3:Hid (Ld 70 w3 w1.heap.size v3 (Z++[⟨x - p,y⟩])):=h3;clear h3 hg3 HZA HCA HBA HU1 d0 d1;go_wp2_with fail;go_roundw
     case rel=>exact ⟨k+1,v3,by omega,by go_num,by rw [← HRN.o],by first | rfl | trivial,by rw [HZ2.o];exact H3.o,HB3.o⟩
     case measure=>simp [intOf];omega
    ·
     have HRN:Hid (R - p=max 0 (s - sumK ls (k+1))):=by show _=_;rw [← HN.o];omega
     have hd2:decide (0<x - p)=false:=decide_eq_false hpos;have hle:¬ 0<left x (q+x) s:=by unfold left;omega
     have HZ2:Hid (recK ls s (k+1)=Z):=HZ.o hle;clear HY HZ hle;clear hq1 hR hp hsk HN
     go_wp2_with (first
      | (refine wp_let1 rfl 3 _ _ rfl (wr.heap.size) 0 rfl .i64 (x - p) rfl (by kernel_rfl) #[zI x,zI y] 70 HBX.o (by simp) ?_)
      | fail)
     intro W1 hU1;have HX1:Hid (Blk W1 wr.heap.size #[zI (x - p),zI y] 70):=hU1.blk;have hbw:Below wr.heap.size wr W1:=hU1.bel _ _ (Nat.le_refl _) ((Below.refl _ _).alloc (Nat.le_refl _) _);have HBW1:=shB HBW hbw;have HU1:Hid (Ld 70 W1 w1.heap.size V Z):=HU.o.next hbw;have d0:W1.cell? ⟨wr.heap.size,0,none⟩=some (zI (x - p)):=HX1.o.cell 0;have d1:W1.cell? ⟨wr.heap.size,1,none⟩=some (zI y):=HX1.o.cell 1;clear hU1 hbw HBX HBW HU c0 c1;go_wp2_with fail;go_roundw
     case rel=>exact ⟨k+1,V,by omega,by go_num,by rw [← HRN.o],by first | rfl | trivial,by rw [HZ2.o];exact HU1.o,HBW1.o⟩
     case measure=>simp [intOf];omega
   ·obtain rfl:k=len:=by omega
    have hdl:decide ((k:Int)<(k:Int))=false:=by simp
    have HV:Hid (sumK ls k=sumD ls):=by have:=sumK_all ls;rw [HLEN.o] at this;exact this
    have HRE:Hid (recK ls s k=recK ls (t*bp / 10000) ls.length):=by show _=_;rw [HLEN.o,HSE.o]
    have hmz:Mays (recK ls s k):=⟨Nat.le_trans (recK_len ls s k) hl8,fits_mem fun d hd=>(recK_ok HM.o s k (by rw [HLEN.o];exact Nat.le_refl _) d hd).1⟩
    obtain ⟨a3,cap3,hv3,hcm⟩:=ld_fresh hu hmz;subst hv3;have HCM:Hid (Fresh wr w.heap.size a3 (recK ls s k).length cap3 (recK ls s k)):=hcm.low HB1.o.size;have HB9:Hid (Below w.heap.size w wr):=HB1.o.trans (HBW.o.mono HB1.o.size);have HP:Hid (s - max 0 (s - sumK ls k)=min (t*bp / 10000) (sumD ls)):=by show _=_;rw [← HSE.o,← HV.o];omega
    clear hb hu hmz hcm HU;generalize (recK ls s k).length=len3 at *;generalize recK ls s k=Z at *;generalize hq:max 0 (s - sumK ls k)=q at *;have hq0:0≤q:=by omega
    have hq1:q≤s:=by omega
    clear hq hsk;go_wp2_with fail;go_ret3;exact ⟨a3,len3,cap3,Z,s - q,0,rfl,.inr (.inr ⟨HM.o,HT.o,rfl,HRE.o,HP.o⟩),HCM.o,HB9.o⟩
 ·have HM:Hid (Mays ls):=hm;have HT:Hid (¬ TMay t bp):=ht;clear ht hm;go_wp2_with fail;go_ret3;exact ⟨none,0,0,[],0,2,rfl,.inr (.inl ⟨HM.o,HT.o,rfl,rfl,rfl⟩),fresh_nil _ _,HB1.o⟩
end deb
namespace acc
open tar (Du du0 Came RowD Ld PairT)
open Go.RowKit
theorem wp_copyD {P:Program} {T S:TypeId} (hP:PairT P T S) {w:World} {ops:Array Oper} {rest:List Oper} {o:Oper} {a:Act} {Q:Exit→Act→World→Prop} (hgd:o.guard=none) (s x:Operand)
  (ho:o.op = .call { callee:= .builtin .append,args:=#[s,x],argTypes:=#[S,S] })
  (base:Nat) (p:Option Addr) (len cap:Nat) (zs:List Du) (hs:a.eval s=zS) (hx:a.eval x = .slice p len cap) (hc:Came w p len cap zs) (hbase:base≤w.heap.size)
  (h:∀ v' w',Ld T w' base v' zs→w.grownBy w' none→wpList P ops Q rest (a.put o.dst v') w'):wpList P ops Q (o :: rest) a w:=by
 cases p with
 | some A=>exact tar.wp_pairs hP hgd s x ho base A len cap zs hs hx hc.row hc.bytes hbase h
 | none=>
  have h0:=hc.nil rfl;have h1:len=0:=by have:=hc.room;omega
  have h2:zs=[]:=List.eq_nil_of_length_eq_zero (by have:=hc.row.1;omega);subst h0 h1 h2;have hu:=hP.under;have hi0:=hP.info;cases hq:P.info? T with
  | none=>rw [hq] at hi0;cases hi0
  | some i=>
   refine wpList_append_own_none hgd s x S ho base T i 2 hu hq (zS) 0 [] hs (World.ownsRow_nil _ _ _ _) hx ?_;exact h _ _ (tar.Ld.zero _ _ _) ⟨rfl,rfl,rfl,Nat.le_refl _,fun _ _ _=>rfl⟩
theorem pwork (F:Nat) (caps:Array Value) (Is:Ac→Bi→Int→Prop) (x:Ac) (p:Option Addr) (len cap:Nat) (w:World) (hc:Came w p len cap x.ds) (h5:¬ AMay x→Is ac0 bi0 5) (hK:∀ args w,(callFunc F args).run Tryz.prog w = .ok (.enter F args) w)
  (hf:AMay x→∀ (W:World) (g:Nat) (p':Option Addr) (cap':Nat),Below w.heap.size w W→w.heap.size≤g→Blk W g (wcs x bi0 p' len cap') 252→Ld 70 W (g+1) (.slice p' len cap') x.ds→Calls Tryz.prog F (#[.pointer (some ⟨g,0,none⟩)]++caps) W fun e w'=>WPost W g (Or0 Is) e w') :
  Calls Tryz.prog 117 #[.agg #[zI x.me,zI x.rv,zI x.nx,zI x.mo,zI x.bo,zI x.fr,.slice p len cap],.func (.func F) #[] caps] w fun e w'=>BPost w Is e w':=by
 have HFU:Hid (AMay x→∀ (W:World) (g:Nat) (p':Option Addr) (cap':Nat),Below w.heap.size w W→w.heap.size≤g→Blk W g (wcs x bi0 p' len cap') 252→Ld 70 W (g+1) (.slice p' len cap') x.ds→Calls Tryz.prog F (#[.pointer (some ⟨g,0,none⟩)]++caps) W fun e w'=>WPost W g (Or0 Is) e w'):=hf;have HLEN:Hid (x.ds.length=len):=hc.row.1;have H5:Hid (¬ AMay x→Is ac0 bi0 5):=h5;clear hf h5;obtain ⟨W0,HWW,H0d,H0r,H0l,H0B,hs0⟩:=sh3 w #[zI x.me,zI x.rv,zI x.nx,zI x.mo,zI x.bo,zI x.fr,.slice p len cap] 51 #[zI 0,zI 0,zI 0,zI 0,zI 0,zI 0,zS] 51 #[zI 0,zI 0,zI 0,zI 0,zI 0,zI 0,zI 0] 68;have H0R:Hid (Came W0 p len cap x.ds):=hc.below H0B.o;go_enter Tryz.func117,Tryz.ntmps117;go_upto_region 1 with fail
 rw [HWW.o];clear HWW;clear hc;have HPM:Hid (Calls Tryz.prog 159 #[.agg #[zI x.me,zI x.rv,zI x.nx,zI x.mo,zI x.bo,zI x.fr,.slice p len cap]] W0 fun e w'=>MayPost W0 x e w'):=pmay x p len cap W0 H0R.o
 go_wp2_with (first
  | (refine zqw rfl rfl rfl H0d zqu51 ?_)
  | (refine zqw rfl rfl rfl H0r zqu51 ?_)
  | (refine zqw rfl rfl rfl H0l zqu68 ?_)
  | fail)
 refine HPM.o.mono ?_;rintro e w1 ⟨r,rfl,hr,hb1⟩;have H1d:=shN H0d hb1;have H1r:=shN H0r hb1;have H1l:=shN H0l hb1;have H1R:Hid (Came w1 p len cap x.ds):=H0R.o.below hb1;have H1B:=shB H0B hb1;have hsw1:W0.heap.size≤w1.heap.size:=hb1.size;clear hb1 H0d H0r H0l H0R H0B;clear HPM;cases r with
 | false=>
  have HV:Hid (Is ac0 bi0 5):=H5.o fun h=>Bool.noConfusion (hr.2 h);clear hr H5 HFU hK
  go_wp2_with (first
   | (refine zql rfl rfl rfl rfl zqu51 (by simp [Value.oneCell']) H1r rfl ?_)
   | (refine zqw rfl rfl rfl H1d zqu51 ?_)
   | (refine zqw rfl rfl rfl H1r zqu51 ?_)
   | (refine zqw rfl rfl rfl H1l zqu68 ?_)
   | fail)
  intro w1a hU;have H2d:=shK hU H1d (by omega);have H2r:Hid (Blk w1a (w.heap.size+1) #[zI 0,zI 0,zI 0,zI 0,zI 0,zI 0,zS] 51):=hU.blk;have H2l:=shK hU H1l (by omega);have H2B:=shV hU H1B (by omega);have hsw1a:w1a.heap.size=w1.heap.size:=hU.size;clear hU H1d H1r H1l H1R H1B
  go_wp2_with (first
   | (refine zql rfl rfl rfl rfl zqu68 (by simp [Value.oneCell']) H2l rfl ?_)
   | (refine zqw rfl rfl rfl H2d zqu51 ?_)
   | (refine zqw rfl rfl rfl H2r zqu51 ?_)
   | (refine zqw rfl rfl rfl H2l zqu68 ?_)
   | fail)
  intro w1ab hU;have H3d:=shK hU H2d (by omega);have H3r:=shK hU H2r (by omega);have H3l:Hid (Blk w1ab (w.heap.size+1+1) #[zI 0,zI 0,zI 0,zI 0,zI 0,zI 0,zI 0] 68):=hU.blk;have H3B:=shV hU H2B (by omega);have hsw1ab:w1ab.heap.size=w1a.heap.size:=hU.size;clear hU H2d H2r H2l H2B;obtain ⟨Rr0,Rr1,Rr2,Rr3,Rr4,Rr5,Rr6⟩:=shc7 H3r;obtain ⟨Rl0,Rl1,Rl2,Rl3,Rl4,Rl5,Rl6⟩:=shc7 H3l;go_wp2_with fail;exact bodyPost_ret (v:= .tuple #[.agg #[zI 0,zI 0,zI 0,zI 0,zI 0,zI 0,zS],.agg #[zI 0,zI 0,zI 0,zI 0,zI 0,zI 0,zI 0],zI 5]) (by simp [results,Tryz.results117,Rr0.o,Rr1.o,Rr2.o,Rr3.o,Rr4.o,Rr5.o,Rr6.o,Rl0.o,Rl1.o,Rl2.o,Rl3.o,Rl4.o,Rl5.o,Rl6.o,go_sem]) rfl ⟨ac0,bi0,none,0,0,_,rfl,HV.o,deb.fresh_nil _ _,H3B.o⟩
 | true=>
  have HM:Hid (AMay x):=hr.1 rfl;clear hr H5;have HSV:Hid (Blk w1 (w.heap.size) #[zI x.me,zI x.rv,zI x.nx,zI x.mo,zI x.bo,zI x.fr,.slice p len cap] 51):=H1d.o;have H2d:Hid (Blk (w1.alloc (.cells #[zI x.me,zI x.rv,zI x.nx,zI x.mo,zI x.bo,zI x.fr,.slice p len cap,zI 0,zI 0,zI 0,zI 0,zI 0,zI 0,zI 0] 252)) (w.heap.size) #[zI x.me,zI x.rv,zI x.nx,zI x.mo,zI x.bo,zI x.fr,.slice p len cap] 51):=H1d.o.alloc _;have H2r:Hid (Blk (w1.alloc (.cells #[zI x.me,zI x.rv,zI x.nx,zI x.mo,zI x.bo,zI x.fr,.slice p len cap,zI 0,zI 0,zI 0,zI 0,zI 0,zI 0,zI 0] 252)) (w.heap.size+1) #[zI 0,zI 0,zI 0,zI 0,zI 0,zI 0,zS] 51):=H1r.o.alloc _;have H2l:Hid (Blk (w1.alloc (.cells #[zI x.me,zI x.rv,zI x.nx,zI x.mo,zI x.bo,zI x.fr,.slice p len cap,zI 0,zI 0,zI 0,zI 0,zI 0,zI 0,zI 0] 252)) (w.heap.size+1+1) #[zI 0,zI 0,zI 0,zI 0,zI 0,zI 0,zI 0] 68):=H1l.o.alloc _;have H2R:Hid (Came (w1.alloc (.cells #[zI x.me,zI x.rv,zI x.nx,zI x.mo,zI x.bo,zI x.fr,.slice p len cap,zI 0,zI 0,zI 0,zI 0,zI 0,zI 0,zI 0] 252)) p len cap x.ds):=H1R.o.below ((Below.refl _ _).alloc (Nat.le_refl _) _);have H2n:Hid (Blk (w1.alloc (.cells #[zI x.me,zI x.rv,zI x.nx,zI x.mo,zI x.bo,zI x.fr,.slice p len cap,zI 0,zI 0,zI 0,zI 0,zI 0,zI 0,zI 0] 252)) (w1.heap.size) #[zI x.me,zI x.rv,zI x.nx,zI x.mo,zI x.bo,zI x.fr,.slice p len cap,zI 0,zI 0,zI 0,zI 0,zI 0,zI 0,zI 0] 252):=Blk.new w1 _ _;have H2B:Hid (Below w.heap.size w (w1.alloc (.cells #[zI x.me,zI x.rv,zI x.nx,zI x.mo,zI x.bo,zI x.fr,.slice p len cap,zI 0,zI 0,zI 0,zI 0,zI 0,zI 0,zI 0] 252))):=H1B.o.alloc H1B.o.size _;have hsW2:(w1.alloc (.cells #[zI x.me,zI x.rv,zI x.nx,zI x.mo,zI x.bo,zI x.fr,.slice p len cap,zI 0,zI 0,zI 0,zI 0,zI 0,zI 0,zI 0] 252)).heap.size=w1.heap.size+1:=by simp
  clear H1d H1r H1l H1R H1B;go_upto_region 4 with (first | (refine zqw rfl rfl rfl HSV zqu51 ?_) | fail)
  generalize (w1.alloc (.cells #[zI x.me,zI x.rv,zI x.nx,zI x.mo,zI x.bo,zI x.fr,.slice p len cap,zI 0,zI 0,zI 0,zI 0,zI 0,zI 0,zI 0] 252))=W2 at *;clear HSV;have qd6:W2.cell? ⟨w.heap.size,6,none⟩=some (.slice p len cap):=H2d.o.cell 6
  go_wp2_with (first
   | (at_builtin;refine wp_copyD deb.debtT rfl _ _ rfl (w1.heap.size+1) p len cap x.ds rfl rfl H2R.o (by omega) ?_)
   | (refine zqw rfl rfl rfl H2d zqu51 ?_)
   | (refine zqw rfl rfl rfl H2r zqu51 ?_)
   | (refine zqw rfl rfl rfl H2l zqu68 ?_)
   | (refine zqw rfl rfl rfl H2n zqu252 ?_)
   | fail)
  intro v3 w3 hl3 hg3;have hb3:Below W2.heap.size W2 w3:=(Below.refl _ _).grown hg3 (Nat.le_refl _) (fun k hk=>by cases hk);obtain ⟨p3,cap3,hv3,hf3⟩:=deb.ld_fresh hl3 HM.o.1;rw [HLEN.o] at hv3 hf3;subst hv3;have H3d:=shN H2d hb3;have H3r:=shN H2r hb3;have H3l:=shN H2l hb3;have H3n:=shN H2n hb3;have H3B:=shB H2B hb3;have HL3:Hid (Ld 70 w3 (w1.heap.size+1) (.slice p3 len cap3) x.ds):=hl3;have hsw3:W2.heap.size≤w3.heap.size:=hb3.size;clear hl3 hg3 hb3 hf3 qd6 H2d H2r H2l H2n H2B
  go_wp2_with (first
   | (refine wp_letS rfl 49 _ _ rfl (w1.heap.size) 6 rfl p3 len cap3 rfl (by kernel_rfl) #[zI x.me,zI x.rv,zI x.nx,zI x.mo,zI x.bo,zI x.fr,.slice p len cap,zI 0,zI 0,zI 0,zI 0,zI 0,zI 0,zI 0] 252 H3n.o (by simp) ?_)
   | (refine zqw rfl rfl rfl H3d zqu51 ?_)
   | (refine zqw rfl rfl rfl H3r zqu51 ?_)
   | (refine zqw rfl rfl rfl H3l zqu68 ?_)
   | (refine zqw rfl rfl rfl H3n zqu252 ?_)
   | fail)
  intro W4 hU;have H4d:=shK hU H3d (by omega);have H4r:=shK hU H3r (by omega);have H4l:=shK hU H3l (by omega);have H4n:Hid (Blk W4 (w1.heap.size) #[zI x.me,zI x.rv,zI x.nx,zI x.mo,zI x.bo,zI x.fr,.slice p3 len cap3,zI 0,zI 0,zI 0,zI 0,zI 0,zI 0,zI 0] 252):=hU.blk;have H4B:=shV hU H3B (by omega);have HL4:Hid (Ld 70 W4 (w1.heap.size+1) (.slice p3 len cap3) x.ds):=ld_upd HL3.o hU (by omega);have HCA:Hid (Calls Tryz.prog F (#[.pointer (some ⟨w1.heap.size,0,none⟩)]++caps) W4 fun e w'=>WPost W4 w1.heap.size (Or0 Is) e w'):=HFU.o HM.o W4 w1.heap.size p3 cap3 H4B.o (by omega) H4n.o HL4.o;have hsW4:W4.heap.size=w3.heap.size:=hU.size;clear hU HL3 HL4 HFU H3d H3r H3l H3n H3B;go_wp2_with fail;refine HCA.o.mono ?_;rintro e w5 ⟨y,b,q,n,c,f,rfl,hor,hi5,hf5,hb5⟩;have H5d:Hid (Blk w5 (w.heap.size) #[zI x.me,zI x.rv,zI x.nx,zI x.mo,zI x.bo,zI x.fr,.slice p len cap] 51):=H4d.o.below hb5 (by omega);have H5r:Hid (Blk w5 (w.heap.size+1) #[zI 0,zI 0,zI 0,zI 0,zI 0,zI 0,zS] 51):=H4r.o.below hb5 (by omega);have H5l:Hid (Blk w5 (w.heap.size+1+1) #[zI 0,zI 0,zI 0,zI 0,zI 0,zI 0,zI 0] 68):=H4l.o.below hb5 (by omega);have H5n:Hid (Blk w5 (w1.heap.size) #[zI y.me,zI y.rv,zI y.nx,zI y.mo,zI y.bo,zI y.fr,.slice q n c,zI b.id,zI b.te,zI b.de,zI b.fe,zI b.pr,zI b.ch,zI b.un] 252):=hi5;have H5B:Hid (Below w.heap.size w w5):=H4B.o.trans (hb5.mono (by omega));have hsw5:W4.heap.size≤w5.heap.size:=hb5.size;have H6F:Hid (deb.Fresh w5 (w1.heap.size+1) q n c y.ds):=hf5;have HUPF:Hid (0<n→∀ y,q=some y→y.block<w5.heap.size):=came_lt H6F.o.came;have HOR:Hid (Or0 Is y b f):=hor;clear hor hi5 hf5 hb5 HCA hK H4d H4r H4l H4n H4B;by_cases h0:f=0
  ·subst h0
   have HV:Hid (Is y b 0):=by
    rcases HOR.o with ⟨h,_⟩ | ⟨_,h⟩
    ·exact absurd rfl h
    ·exact h
   clear HOR;go_wp2_with fail;refine wp_region_held_drew (S:=fun v=>Blk v (w1.heap.size) #[zI y.me,zI y.rv,zI y.nx,zI y.mo,zI y.bo,zI y.fr,.slice q n c,zI b.id,zI b.te,zI b.de,zI b.fe,zI b.pr,zI b.ch,zI b.un] 252) (by kernel_rfl) (Blk.drew H5n.o 1) (fun hHeld=>?_);refine zqs 0 28 (.pointer (some ⟨w1.heap.size,0,none⟩)) rfl rfl (by kernel_rfl) zid rfl (fun v hv=>by clear hv;go_simp) hHeld ?_;simp only [zq];refine zqt 1 29 (.agg #[zI y.me,zI y.rv,zI y.nx,zI y.mo,zI y.bo,zI y.fr,.slice q n c]) rfl rfl (by kernel_rfl) zid (Or.inl ⟨by rfl,fun v hv=>by have g0:=hv.cell 0;have g1:=hv.cell 1;have g2:=hv.cell 2;have g3:=hv.cell 3;have g4:=hv.cell 4;have g5:=hv.cell 5;have g6:=hv.cell 6;clear hv;go_simp⟩) hHeld ?_;simp only [zq];refine zqs 2 30 (.pointer (some ⟨w1.heap.size,7,none⟩)) rfl rfl (by kernel_rfl) zid rfl (fun v hv=>by clear hv;go_simp) hHeld ?_;simp only [zq];refine zqt 3 31 (.agg #[zI b.id,zI b.te,zI b.de,zI b.fe,zI b.pr,zI b.ch,zI b.un]) rfl rfl (by kernel_rfl) zid (Or.inl ⟨by rfl,fun v hv=>by have g0:=hv.cell 7;have g1:=hv.cell 8;have g2:=hv.cell 9;have g3:=hv.cell 10;have g4:=hv.cell 11;have g5:=hv.cell 12;have g6:=hv.cell 13;clear hv;go_simp⟩) hHeld ?_;simp only [zq];refine zqo 4 (by kernel_rfl) rfl (fun K hK=>?_);rw [if_pos (by rfl)];refine wp_letOp 51 _ _ rfl (w.heap.size+1) rfl #[zI y.me,zI y.rv,zI y.nx,zI y.mo,zI y.bo,zI y.fr,.slice q n c] rfl (by kernel_rfl) (by simp [Value.oneCell']) #[zI 0,zI 0,zI 0,zI 0,zI 0,zI 0,zS] 51 (Blk.drew H5r.o 1) rfl rfl ?_;intro V1 hU;have H7d:Hid (Blk V1 (w.heap.size) #[zI x.me,zI x.rv,zI x.nx,zI x.mo,zI x.bo,zI x.fr,.slice p len cap] 51):=hU.keep (Blk.drew H5d.o 1) (by omega);have H7r:Hid (Blk V1 (w.heap.size+1) #[zI y.me,zI y.rv,zI y.nx,zI y.mo,zI y.bo,zI y.fr,.slice q n c] 51):=hU.blk;have H7l:Hid (Blk V1 (w.heap.size+1+1) #[zI 0,zI 0,zI 0,zI 0,zI 0,zI 0,zI 0] 68):=hU.keep (Blk.drew H5l.o 1) (by omega)
   have H7n:Hid (Blk V1 (w1.heap.size) #[zI y.me,zI y.rv,zI y.nx,zI y.mo,zI y.bo,zI y.fr,.slice q n c,zI b.id,zI b.te,zI b.de,zI b.fe,zI b.pr,zI b.ch,zI b.un] 252):=hU.keep (Blk.drew H5n.o 1) (by omega);have H7F:Hid (deb.Fresh V1 (w1.heap.size+1) q n c y.ds):=fresh_updN (fresh_drew H6F.o) hU (fun hn y hy=>by have f1:=H6F.o.new hn y hy;have f2:=HUPF.o hn y hy;omega);have H7B:Hid (Below w.heap.size w V1):=hU.bel _ _ (by omega) H5B.o.drew;clear hU H5d H5r H5l H5n H6F H5B;refine hK.o _ _ H7n.o (fun hHeld=>?_);clear hK K;refine zqo 5 (by kernel_rfl) rfl (fun K hK=>?_);rw [if_pos (by rfl)];refine wp_letOp 68 _ _ rfl (w.heap.size+1+1) rfl #[zI b.id,zI b.te,zI b.de,zI b.fe,zI b.pr,zI b.ch,zI b.un] rfl (by kernel_rfl) (by simp [Value.oneCell']) #[zI 0,zI 0,zI 0,zI 0,zI 0,zI 0,zI 0] 68 H7l.o rfl rfl ?_;intro V2 hU;have H8d:=shK hU H7d (by omega);have H8r:=shK hU H7r (by omega);have H8l:Hid (Blk V2 (w.heap.size+1+1) #[zI b.id,zI b.te,zI b.de,zI b.fe,zI b.pr,zI b.ch,zI b.un] 68):=hU.blk;have H8n:=shK hU H7n (by omega);have H8F:Hid (deb.Fresh V2 (w1.heap.size+1) q n c y.ds):=fresh_updN H7F.o hU (fun hn y hy=>by have f1:=H7F.o.new hn y hy;have f2:=HUPF.o hn y hy;omega);have H8B:=shV hU H7B (by omega);clear hU H7d H7r H7l H7n H7F H7B;refine hK.o _ _ H8n.o (fun hHeld=>?_);clear hK K;refine zqs 6 6 (zI 0) rfl rfl (by kernel_rfl) zid rfl (fun v hv=>by clear hv;go_simp) hHeld ?_;simp only [zq];refine wpAnyH_done (by kernel_rfl) ?_ _;clear hHeld;have Rr0:Hid (V2.cell? ⟨w.heap.size+1,0,none⟩=some (zI y.me)):=H8r.o.cell 0;have Rr1:Hid (V2.cell? ⟨w.heap.size+1,1,none⟩=some (zI y.rv)):=H8r.o.cell 1;have Rr2:Hid (V2.cell? ⟨w.heap.size+1,2,none⟩=some (zI y.nx)):=H8r.o.cell 2;have Rr3:Hid (V2.cell? ⟨w.heap.size+1,3,none⟩=some (zI y.mo)):=H8r.o.cell 3;have Rr4:Hid (V2.cell? ⟨w.heap.size+1,4,none⟩=some (zI y.bo)):=H8r.o.cell 4;have Rr5:Hid (V2.cell? ⟨w.heap.size+1,5,none⟩=some (zI y.fr)):=H8r.o.cell 5
   have Rr6:Hid (V2.cell? ⟨w.heap.size+1,6,none⟩=some (.slice q n c)):=H8r.o.cell 6;have Rl0:Hid (V2.cell? ⟨w.heap.size+1+1,0,none⟩=some (zI b.id)):=H8l.o.cell 0;have Rl1:Hid (V2.cell? ⟨w.heap.size+1+1,1,none⟩=some (zI b.te)):=H8l.o.cell 1;have Rl2:Hid (V2.cell? ⟨w.heap.size+1+1,2,none⟩=some (zI b.de)):=H8l.o.cell 2;have Rl3:Hid (V2.cell? ⟨w.heap.size+1+1,3,none⟩=some (zI b.fe)):=H8l.o.cell 3;have Rl4:Hid (V2.cell? ⟨w.heap.size+1+1,4,none⟩=some (zI b.pr)):=H8l.o.cell 4;have Rl5:Hid (V2.cell? ⟨w.heap.size+1+1,5,none⟩=some (zI b.ch)):=H8l.o.cell 5;have Rl6:Hid (V2.cell? ⟨w.heap.size+1+1,6,none⟩=some (zI b.un)):=H8l.o.cell 6;go_wp2_with fail;exact bodyPost_ret (v:= .tuple #[.agg #[zI y.me,zI y.rv,zI y.nx,zI y.mo,zI y.bo,zI y.fr,.slice q n c],.agg #[zI b.id,zI b.te,zI b.de,zI b.fe,zI b.pr,zI b.ch,zI b.un],zI 0]) (by simp [results,Tryz.results117,Rr0.o,Rr1.o,Rr2.o,Rr3.o,Rr4.o,Rr5.o,Rr6.o,Rl0.o,Rl1.o,Rl2.o,Rl3.o,Rl4.o,Rl5.o,Rl6.o,go_sem]) rfl ⟨y,b,q,n,c,0,rfl,HV.o,H8F.o.low (by omega),H8B.o⟩
  ·have d0:(f != 0)=true:=by simpa using h0
   have HV:Hid (Is ac0 bi0 f):=by
    rcases HOR.o with ⟨_,h⟩ | ⟨h,_⟩
    ·exact h
    ·exact absurd h h0
   clear HOR h0
   go_wp2_with (first
    | (refine zql rfl rfl rfl rfl zqu51 (by simp [Value.oneCell']) H5r rfl ?_)
    | (refine zqw rfl rfl rfl H5d zqu51 ?_)
    | (refine zqw rfl rfl rfl H5r zqu51 ?_)
    | (refine zqw rfl rfl rfl H5l zqu68 ?_)
    | (refine zqw rfl rfl rfl H5n zqu252 ?_)
    | fail)
   intro w5a hU;have H7d:=shK hU H5d (by omega);have H7r:Hid (Blk w5a (w.heap.size+1) #[zI 0,zI 0,zI 0,zI 0,zI 0,zI 0,zS] 51):=hU.blk;have H7l:=shK hU H5l (by omega);have H7n:=shK hU H5n (by omega);have H7B:=shV hU H5B (by omega);have hsw5a:w5a.heap.size=w5.heap.size:=hU.size;clear hU H5d H5r H5l H5n H5B
   go_wp2_with (first
    | (refine zql rfl rfl rfl rfl zqu68 (by simp [Value.oneCell']) H7l rfl ?_)
    | (refine zqw rfl rfl rfl H7d zqu51 ?_)
    | (refine zqw rfl rfl rfl H7r zqu51 ?_)
    | (refine zqw rfl rfl rfl H7l zqu68 ?_)
    | (refine zqw rfl rfl rfl H7n zqu252 ?_)
    | fail)
   intro w5ab hU;have H8d:=shK hU H7d (by omega);have H8r:=shK hU H7r (by omega);have H8l:Hid (Blk w5ab (w.heap.size+1+1) #[zI 0,zI 0,zI 0,zI 0,zI 0,zI 0,zI 0] 68):=hU.blk;have H8n:=shK hU H7n (by omega);have H8B:=shV hU H7B (by omega);have hsw5ab:w5ab.heap.size=w5a.heap.size:=hU.size;clear hU H7d H7r H7l H7n H7B;obtain ⟨Rr0,Rr1,Rr2,Rr3,Rr4,Rr5,Rr6⟩:=shc7 H8r;obtain ⟨Rl0,Rl1,Rl2,Rl3,Rl4,Rl5,Rl6⟩:=shc7 H8l;go_wp2_with fail;exact bodyPost_ret (v:= .tuple #[.agg #[zI 0,zI 0,zI 0,zI 0,zI 0,zI 0,zS],.agg #[zI 0,zI 0,zI 0,zI 0,zI 0,zI 0,zI 0],zI f]) (by simp [results,Tryz.results117,Rr0.o,Rr1.o,Rr2.o,Rr3.o,Rr4.o,Rr5.o,Rr6.o,Rl0.o,Rl1.o,Rl2.o,Rl3.o,Rl4.o,Rl5.o,Rl6.o,go_sem]) rfl ⟨ac0,bi0,none,0,0,_,rfl,HV.o,deb.fresh_nil _ _,H8B.o⟩
end acc
end Go.Proofs.YtnpblpbohcegoaaGreatDoor
