import Derived.Test.YtnpblpbohcegoaaGreatDoorVBGws38
set_option linter.unusedVariables false
set_option linter.unusedSimpArgs false
set_option maxHeartbeats 4000000
set_option maxRecDepth 100000
namespace Go.Proofs.YtnpblpbohcegoaaGreatDoor
namespace book
open Go.RowKit
open acc (Ac Tm Bi APost BPost TFault TRight OpenIs OweIs SellIs GrantIs RekeyIs wf6 ACame TCame fresh_updN fresh_drew came_lt)
def BookPost2 (w:World) (t:Tm) (l:List Ev) (e:Ending) (w':World):Prop:=∃ p m cap xs bk at_ f,e = .returned (.tuple #[.agg #[.slice p m cap],zI at_,zI f])∧BookIs t l bk at_ f∧Sees w' p m xs bk∧m≤120∧(∀ i,i<xs.length→(xs.getD i cu0).sn≤(xs.getD i cu0).sc)∧Below w.heap.size w w'
def KOf2:Prop:=∀ (W:World) (t:acc.Tm) (pt:Option Addr) (lt ct:Nat) (pl:Option Addr) (n cap:Nat) (l:List Ev),acc.TCame W t pt lt ct→ECame W pl n cap l→Calls Tryz.prog 17 #[t.v pt lt ct,.slice pl n cap] W fun e w'=>BookPost2 W t l e w'
theorem Holds.caps {w:World} {base:Nat} {V:Value} {xs:List Cu} {bk:List Cm} (h:Holds w base V xs bk):∀ i,i<xs.length→(xs.getD i cu0).sn≤(xs.getD i cu0).sc:=fun i hi=>by
 obtain ⟨a,c,e,r,_,hc⟩:=(h.has i hi).so.row;unfold Cu.sold at e;injection e with e1 e2 e3
 omega
theorem kof2:KOf2:=by
 intro w t pt lt ct pl n cap l ht hl;unfold acc.Tm.v;have HT:Hid (TCame w t pt lt ct):=ht;have HL:Hid (RowE w pl n l):=hl.row;have HLN:Hid (l.length=n):=hl.row.1;have hnm:n≤9223372036854775807:=by have:=hl.bytes;omega
 have hmf:∀ (fn:Fn) (first cap:Array Value) (w:World),(Instr.makeFunc fn first cap).run Tryz.prog w = .ok (.func fn first cap) w:=fun _ _ _ _=>rfl;have hmm:∀ w:World,(Instr.makeMap 111 none).run Tryz.prog w = .ok (.map (some w.heap.size)) (w.alloc (.map #[] 0)):=mkMapI;have HCK:Hid (∀ W,Below w.heap.size w W→Calls Tryz.prog 37 #[.agg #[.slice pt lt ct,zI t.ff,zI t.fb,zI t.db,zI t.al]] W fun e w'=>tar.ErrPost W (TFault t) e w'):=fun W hB=>acc.kcheck W t pt lt ct (ht.below hB);clear ht hl;obtain ⟨W0,HWW,H0t,H0b,H0at,H0er,H0B,-⟩:=sh4 w #[.slice pt lt ct,zI t.ff,zI t.fb,zI t.db,zI t.al] 24 #[zS] 46 #[zI 0] 3 #[zI 0] 27;go_enter_defers Tryz.func17,Tryz.ntmps17;go_upto_region 1 with fail
 rw [HWW.o];clear HWW;have HC1:Hid (Calls Tryz.prog 37 #[.agg #[.slice pt lt ct,zI t.ff,zI t.fb,zI t.db,zI t.al]] W0 fun e w'=>tar.ErrPost W0 (TFault t) e w'):=HCK.o W0 H0B.o;clear HCK
 go_wp2_with (first
  | (refine zqw rfl rfl rfl H0t zqu24 ?_)
  | (refine zqw rfl rfl rfl H0b zqu46 ?_)
  | (refine wp_whole rfl 3 _ rfl _ rfl 3 _ _ H0at.o Tryz.underlying3 rfl (by kernel_rfl) ?_)
  | (refine wp_whole rfl 27 _ rfl _ rfl 27 _ _ H0er.o Tryz.underlying27 rfl (by kernel_rfl) ?_)
  | fail)
 refine HC1.o.mono ?_;rintro e w1 ⟨f,rfl,hf,hb1⟩;have H1t:=shN H0t hb1;have H1b:=shN H0b hb1;have H1at:=shN H0at hb1;have H1er:=shN H0er hb1;have H1B:=shB H0B hb1;clear H0t H0b H0at H0er H0B;clear hb1 HC1;by_cases h0:f=0
 case neg=>
  have nf:(f != 0)=true:=by simpa using h0
  have HF:Hid (TFault t f):=hf;have HNE:Hid (f≠0):=h0;clear hf h0
  go_wp2_with (first
   | (refine zql rfl rfl rfl rfl zqu46 (by simp [Value.oneCell']) H1b rfl ?_)
   | (refine zqw rfl rfl rfl H1t zqu24 ?_)
   | (refine zqw rfl rfl rfl H1b zqu46 ?_)
   | (refine wp_whole rfl 3 _ rfl _ rfl 3 _ _ H1at.o Tryz.underlying3 rfl (by kernel_rfl) ?_)
   | (refine wp_whole rfl 27 _ rfl _ rfl 27 _ _ H1er.o Tryz.underlying27 rfl (by kernel_rfl) ?_)
   | fail)
  intro w1a hU;have H2t:=shK hU H1t (by omega);have H2b:Hid (Blk w1a (w.heap.size+1) #[zS] 46):=hU.blk;have H2at:=shK hU H1at (by omega);have H2er:=shK hU H1er (by omega);have H2B:=shV hU H1B (by omega);clear H1t H1b H1at H1er H1B;clear hU
  go_wp2_with (first
   | (refine wp_let1 rfl 3 _ _ rfl (w.heap.size+1+1) 0 rfl .i64 0 rfl (by kernel_rfl) #[zI 0] 3 H2at.o (by simp) ?_)
   | (refine zqw rfl rfl rfl H2t zqu24 ?_)
   | (refine zqw rfl rfl rfl H2b zqu46 ?_)
   | (refine wp_whole rfl 3 _ rfl _ rfl 3 _ _ H2at.o Tryz.underlying3 rfl (by kernel_rfl) ?_)
   | (refine wp_whole rfl 27 _ rfl _ rfl 27 _ _ H2er.o Tryz.underlying27 rfl (by kernel_rfl) ?_)
   | fail)
  intro w1aa hU;have H3t:=shK hU H2t (by omega);have H3b:=shK hU H2b (by omega);have H3at:Hid (Blk w1aa (w.heap.size+1+1) #[zI 0] 3):=hU.blk;have H3er:=shK hU H2er (by omega);have H3B:=shV hU H2B (by omega);clear H2t H2b H2at H2er H2B;clear hU
  go_wp2_with (first
   | (refine wp_let1 rfl 27 _ _ rfl (w.heap.size+1+1+1) 0 rfl .i64 f rfl (by kernel_rfl) #[zI 0] 27 H3er.o (by simp) ?_)
   | (refine zqw rfl rfl rfl H3t zqu24 ?_)
   | (refine zqw rfl rfl rfl H3b zqu46 ?_)
   | (refine wp_whole rfl 3 _ rfl _ rfl 3 _ _ H3at.o Tryz.underlying3 rfl (by kernel_rfl) ?_)
   | (refine wp_whole rfl 27 _ rfl _ rfl 27 _ _ H3er.o Tryz.underlying27 rfl (by kernel_rfl) ?_)
   | fail)
  intro w1aaa hU;have H4t:=shK hU H3t (by omega);have H4b:=shK hU H3b (by omega);have H4at:=shK hU H3at (by omega);have H4er:Hid (Blk w1aaa (w.heap.size+1+1+1) #[zI f] 27):=hU.blk;have H4B:=shV hU H3B (by omega);clear H3t H3b H3at H3er H3B;clear hU;go_wp2_with fail;have rb:w1aaa.cell? ⟨w.heap.size+1,0,none⟩=some (zS):=H4b.o.cell 0;have rat:w1aaa.cell? ⟨w.heap.size+1+1,0,none⟩=some (zI 0):=H4at.o.cell 0;have rer:w1aaa.cell? ⟨w.heap.size+1+1+1,0,none⟩=some (zI f):=H4er.o.cell 0;show Leaves _ _ _ _ [] .returning w1aaa;refine ⟨.tuple #[.agg #[zS],zI 0,zI f],by simp [results,Tryz.results17,rb,rat,rer,go_sem],?_⟩;exact ⟨none,0,0,[],[],0,f,rfl,.inl ⟨HF.o,HNE.o,rfl,rfl⟩,sees_nil _,Nat.zero_le _,(fun i hi=>absurd hi (Nat.not_lt_zero _)),H4B.o⟩
 subst h0;have HTR:Hid (TRight t):=hf.ok.1 rfl;clear hf;by_cases hbig:120<n
 case pos=>
  have hd1:decide ((120:Int)<(n:Int))=true:=decide_eq_true (by omega);have HBG:Hid (120<l.length):=by show _<_;rw [HLN.o];exact hbig
  clear hbig
  go_wp2_with (first
   | (refine zql rfl rfl rfl rfl zqu46 (by simp [Value.oneCell']) H1b rfl ?_)
   | (refine zqw rfl rfl rfl H1t zqu24 ?_)
   | (refine zqw rfl rfl rfl H1b zqu46 ?_)
   | (refine wp_whole rfl 3 _ rfl _ rfl 3 _ _ H1at.o Tryz.underlying3 rfl (by kernel_rfl) ?_)
   | (refine wp_whole rfl 27 _ rfl _ rfl 27 _ _ H1er.o Tryz.underlying27 rfl (by kernel_rfl) ?_)
   | fail)
  intro w1a hU;have H2t:=shK hU H1t (by omega);have H2b:Hid (Blk w1a (w.heap.size+1) #[zS] 46):=hU.blk;have H2at:=shK hU H1at (by omega);have H2er:=shK hU H1er (by omega);have H2B:=shV hU H1B (by omega);clear H1t H1b H1at H1er H1B;clear hU
  go_wp2_with (first
   | (refine wp_let1 rfl 3 _ _ rfl (w.heap.size+1+1) 0 rfl .i64 0 rfl (by kernel_rfl) #[zI 0] 3 H2at.o (by simp) ?_)
   | (refine zqw rfl rfl rfl H2t zqu24 ?_)
   | (refine zqw rfl rfl rfl H2b zqu46 ?_)
   | (refine wp_whole rfl 3 _ rfl _ rfl 3 _ _ H2at.o Tryz.underlying3 rfl (by kernel_rfl) ?_)
   | (refine wp_whole rfl 27 _ rfl _ rfl 27 _ _ H2er.o Tryz.underlying27 rfl (by kernel_rfl) ?_)
   | fail)
  intro w1aa hU;have H3t:=shK hU H2t (by omega);have H3b:=shK hU H2b (by omega);have H3at:Hid (Blk w1aa (w.heap.size+1+1) #[zI 0] 3):=hU.blk;have H3er:=shK hU H2er (by omega);have H3B:=shV hU H2B (by omega);clear H2t H2b H2at H2er H2B;clear hU
  go_wp2_with (first
   | (refine wp_let1 rfl 27 _ _ rfl (w.heap.size+1+1+1) 0 rfl .i64 1 rfl (by kernel_rfl) #[zI 0] 27 H3er.o (by simp) ?_)
   | (refine zqw rfl rfl rfl H3t zqu24 ?_)
   | (refine zqw rfl rfl rfl H3b zqu46 ?_)
   | (refine wp_whole rfl 3 _ rfl _ rfl 3 _ _ H3at.o Tryz.underlying3 rfl (by kernel_rfl) ?_)
   | (refine wp_whole rfl 27 _ rfl _ rfl 27 _ _ H3er.o Tryz.underlying27 rfl (by kernel_rfl) ?_)
   | fail)
  intro w1aaa hU;have H4t:=shK hU H3t (by omega);have H4b:=shK hU H3b (by omega);have H4at:=shK hU H3at (by omega);have H4er:Hid (Blk w1aaa (w.heap.size+1+1+1) #[zI 1] 27):=hU.blk;have H4B:=shV hU H3B (by omega);clear H3t H3b H3at H3er H3B;clear hU;go_wp2_with fail;have rb:w1aaa.cell? ⟨w.heap.size+1,0,none⟩=some (zS):=H4b.o.cell 0;have rat:w1aaa.cell? ⟨w.heap.size+1+1,0,none⟩=some (zI 0):=H4at.o.cell 0;have rer:w1aaa.cell? ⟨w.heap.size+1+1+1,0,none⟩=some (zI 1):=H4er.o.cell 0;show Leaves _ _ _ _ [] .returning w1aaa;refine ⟨.tuple #[.agg #[zS],zI 0,zI 1],by simp [results,Tryz.results17,rb,rat,rer,go_sem],?_⟩;exact ⟨none,0,0,[],[],0,1,rfl,.inr (.inl ⟨HTR.o,HBG.o,rfl,rfl,rfl⟩),sees_nil _,Nat.zero_le _,(fun i hi=>absurd hi (Nat.not_lt_zero _)),H4B.o⟩
 have hd1:decide ((120:Int)<(n:Int))=false:=decide_eq_false (by omega);have hn120:n≤120:=by omega
 have HFEW:Hid (l.length≤120):=by show _≤_;rw [HLN.o];exact hn120
 clear hbig;have HN2:Hid (Blk (((w1.alloc (.cells #[zI 0] 3)).alloc (.map #[] 0)).alloc (.cells #[zS,.slice pt lt ct,zI t.ff,zI t.fb,zI t.db,zI t.al,.map (some (w1.heap.size+1))] 113)) w1.heap.size #[zI 0] 3):=((Blk.new _ _ _).alloc _).alloc _
 have HM2:Hid (MpI (((w1.alloc (.cells #[zI 0] 3)).alloc (.map #[] 0)).alloc (.cells #[zS,.slice pt lt ct,zI t.ff,zI t.fb,zI t.db,zI t.al,.map (some (w1.heap.size+1))] 113)) (w1.heap.size+1) []):=by
  have h1:=MpI.new (w1.alloc (.cells #[zI 0] 3));rw [show (w1.alloc (.cells #[zI 0] 3)).heap.size=w1.heap.size+1 by simp] at h1;exact h1.below ((Below.refl _ _).alloc (Nat.le_refl _) _)
 have HW2:Hid (Blk (((w1.alloc (.cells #[zI 0] 3)).alloc (.map #[] 0)).alloc (.cells #[zS,.slice pt lt ct,zI t.ff,zI t.fb,zI t.db,zI t.al,.map (some (w1.heap.size+1))] 113)) (w1.heap.size+1+1) #[zS,.slice pt lt ct,zI t.ff,zI t.fb,zI t.db,zI t.al,.map (some (w1.heap.size+1))] 113):=by
  have h1:=Blk.new ((w1.alloc (.cells #[zI 0] 3)).alloc (.map #[] 0)) #[zS,.slice pt lt ct,zI t.ff,zI t.fb,zI t.db,zI t.al,.map (some (w1.heap.size+1))] 113
  rwa [show ((w1.alloc (.cells #[zI 0] 3)).alloc (.map #[] 0)).heap.size=w1.heap.size+1+1 by simp] at h1
 have HZt:Hid (Blk (((w1.alloc (.cells #[zI 0] 3)).alloc (.map #[] 0)).alloc (.cells #[zS,.slice pt lt ct,zI t.ff,zI t.fb,zI t.db,zI t.al,.map (some (w1.heap.size+1))] 113)) (w.heap.size) #[.slice pt lt ct,zI t.ff,zI t.fb,zI t.db,zI t.al] 24):=((H1t.o.alloc _).alloc _).alloc _;have HZb:Hid (Blk (((w1.alloc (.cells #[zI 0] 3)).alloc (.map #[] 0)).alloc (.cells #[zS,.slice pt lt ct,zI t.ff,zI t.fb,zI t.db,zI t.al,.map (some (w1.heap.size+1))] 113)) (w.heap.size+1) #[zS] 46):=((H1b.o.alloc _).alloc _).alloc _;have HZat:Hid (Blk (((w1.alloc (.cells #[zI 0] 3)).alloc (.map #[] 0)).alloc (.cells #[zS,.slice pt lt ct,zI t.ff,zI t.fb,zI t.db,zI t.al,.map (some (w1.heap.size+1))] 113)) (w.heap.size+1+1) #[zI 0] 3):=((H1at.o.alloc _).alloc _).alloc _;have HZer:Hid (Blk (((w1.alloc (.cells #[zI 0] 3)).alloc (.map #[] 0)).alloc (.cells #[zS,.slice pt lt ct,zI t.ff,zI t.fb,zI t.db,zI t.al,.map (some (w1.heap.size+1))] 113)) (w.heap.size+1+1+1) #[zI 0] 27):=((H1er.o.alloc _).alloc _).alloc _;have HZB:Hid (Below w.heap.size w (((w1.alloc (.cells #[zI 0] 3)).alloc (.map #[] 0)).alloc (.cells #[zS,.slice pt lt ct,zI t.ff,zI t.fb,zI t.db,zI t.al,.map (some (w1.heap.size+1))] 113))):=((H1B.o.alloc H1B.o.size _).alloc (Nat.le_trans H1B.o.size (by simp)) _).alloc (Nat.le_trans H1B.o.size (by simp;omega)) _;have HPL0:Hid (w.heap.size+1+1+1<w1.heap.size):=H1er.o.lt;have HSB:Hid ((((w1.alloc (.cells #[zI 0] 3)).alloc (.map #[] 0)).alloc (.cells #[zS,.slice pt lt ct,zI t.ff,zI t.fb,zI t.db,zI t.al,.map (some (w1.heap.size+1))] 113)).heap.size=w1.heap.size+1+1+1):=by show _=_;simp
 go_upto_region 9 with (first
  | (refine wp_whole rfl 24 _ rfl w.heap.size rfl 24 #[.slice pt lt ct,zI t.ff,zI t.fb,zI t.db,zI t.al] _ (H1t.o.alloc _) Tryz.underlying24 rfl (by kernel_rfl) ?_)
  | fail)
 generalize (((w1.alloc (.cells #[zI 0] 3)).alloc (.map #[] 0)).alloc (.cells #[zS,.slice pt lt ct,zI t.ff,zI t.fb,zI t.db,zI t.al,.map (some (w1.heap.size+1))] 113))=W2 at *;generalize w1.heap.size=gn at *;have HPL:Hid (Pl w gn (gn+1+1+1) (gn+1+1) (gn+1)):=⟨HPL0.o,Nat.lt_succ_self _,Nat.lt_succ_self _,Nat.lt_succ_self _⟩
 have HMID:Hid (Mid2 w t pt lt ct l gn (gn+1+1+1) (gn+1+1) (gn+1) 0 (fun _=>[]) W2):=⟨rfl,(fun i hi=>absurd hi (Nat.not_lt_zero _)),Small.zero,HZb.o,HZat.o,HZer.o,HN2.o,zS,[],HW2.o,HM2.o,Holds.zero _ _,by omega,by omega,by omega,by have:=HPL0.o;omega,by have:=HPL0.o;omega,by rw [HSB.o];exact Nat.le_refl _,HZB.o,Small.more Small.zero (by omega),fun c hc=>by cases hc⟩
 clear HZt HZb HZat HZer HN2 HM2 HW2 HZB HPL0 HSB H1t H1b H1at H1er H1B;generalize gn+1+1+1=base at *;generalize hgW:gn+1+1=gW at *;generalize gn+1=B at *;clear hgW;clear hmf hmm hd1;go_wp2_with fail;go_loopg [] n (fun gk wr=>∃ (k:Nat) (st:Nat→List Cm),k+gk=n∧Mid2 w t pt lt ct l gn base gW B k st wr)
 case atStart=>exact ⟨0,_,by omega,HMID.o⟩
 case round=>
  obtain ⟨k,st,hk,hmid⟩:=hrel;clear HMID;have HM:Hid (Mid2 w t pt lt ct l gn base gW B k st wr):=hmid;have q8:wr.cell? ⟨gn,0,none⟩=some (zI (k:Int)):=hmid.bn.cell 0;obtain ⟨V,xs,hwr⟩:=hmid.wr;obtain ⟨a,ca,hV,_⟩:=hwr.hold.row.row;subst hV;have HWR:Hid (Wr w base gW B t pt lt ct (.slice a xs.length ca) xs (st k) wr):=hwr;clear hmid hwr;by_cases hlt:k<n
  case neg=>
   have hkn:k=n:=by omega
   have HKN:Hid (k=n):=hkn;have hdl:decide ((k:Int)<(n:Int))=false:=decide_eq_false (by omega);clear hkn;have q0:wr.cell? ⟨gW,0,none⟩=some (.slice a xs.length ca):=HWR.o.blk.cell 0;have hp1:=HPL.o.h1;have hp2:=HPL.o.h2;have hp3:=HPL.o.h3;have hp4:=HPL.o.h4;have HXL:Hid (xs.length≤120):=by show _≤_;rw [HWR.o.hold.len];exact HWR.o.few.1
   have HW0:Hid (Wr w base gW B t pt lt ct (.slice a xs.length ca) xs (st k) wr∧Blk wr (w.heap.size+1) #[zS] 46∧Blk wr (w.heap.size+1+1) #[zI 0] 3∧Blk wr (w.heap.size+1+1+1) #[zI 0] 27):=⟨HWR.o,HM.o.bb,HM.o.ba,HM.o.be⟩
   clear HWR;generalize hxl:xs.length=m at *;have HXN:Hid (xs.length=m):=hxl;clear hxl;go_wp2_with (first | (refine wp_letAll rfl 46 _ _ rfl (w.heap.size+1) rfl #[.slice a m ca] rfl (by kernel_rfl) (by simp [Value.oneCell']) #[zS] 46 HW0.o.2.1 rfl ?_) | fail)
   intro V1 hU;clear q0;have HW1:Hid (Wr w base gW B t pt lt ct (.slice a m ca) xs (st k) V1∧Blk V1 (w.heap.size+1) #[.slice a m ca] 46∧Blk V1 (w.heap.size+1+1) #[zI 0] 3∧Blk V1 (w.heap.size+1+1+1) #[zI 0] 27):=⟨HW0.o.1.upd hU (by omega) (by omega) (by omega) (by omega),hU.blk,hU.keep HW0.o.2.2.1 (by omega),hU.keep HW0.o.2.2.2 (by omega)⟩
   clear hU HW0;go_wp2_with (first | (refine wp_let1 rfl 3 _ _ rfl (w.heap.size+1+1) 0 rfl .i64 0 rfl (by kernel_rfl) #[zI 0] 3 HW1.o.2.2.1 (by simp) ?_) | fail)
   intro V2 hU;have HW2:Hid (Wr w base gW B t pt lt ct (.slice a m ca) xs (st k) V2∧Blk V2 (w.heap.size+1) #[.slice a m ca] 46∧Blk V2 (w.heap.size+1+1) #[zI 0] 3∧Blk V2 (w.heap.size+1+1+1) #[zI 0] 27):=⟨HW1.o.1.upd hU (by omega) (by omega) (by omega) (by omega),hU.keep HW1.o.2.1 (by omega),hU.blk,hU.keep HW1.o.2.2.2 (by omega)⟩
   clear hU HW1;go_wp2_with (first | (refine wp_let1 rfl 27 _ _ rfl (w.heap.size+1+1+1) 0 rfl .i64 0 rfl (by kernel_rfl) #[zI 0] 27 HW2.o.2.2.2 (by simp) ?_) | fail)
   intro V3 hU;have HW3:Hid (Wr w base gW B t pt lt ct (.slice a m ca) xs (st k) V3∧Blk V3 (w.heap.size+1) #[.slice a m ca] 46∧Blk V3 (w.heap.size+1+1) #[zI 0] 3∧Blk V3 (w.heap.size+1+1+1) #[zI 0] 27):=⟨HW2.o.1.upd hU (by omega) (by omega) (by omega) (by omega),hU.keep HW2.o.2.1 (by omega),hU.keep HW2.o.2.2.1 (by omega),hU.blk⟩
   clear hU HW2;go_wp2_with fail;refine leaves_cons (f:=38) (args:=#[.pointer (some ⟨w.heap.size+1+1+1,0,none⟩),.pointer (some ⟨gn,0,none⟩),.pointer (some ⟨w.heap.size+1+1,0,none⟩)]) (by simp) (by simp [go_sem]) ?_;refine (of_idle (w.heap.size+1+1+1) gn (w.heap.size+1+1) 0 _ HW3.o.2.2.2).mono ?_;rintro e u' w5 ⟨rfl,hs,W,hb,hU⟩;have hwr5:Wr w base gW B t pt lt ct (.slice a m ca) xs (st k) w5:=(HW3.o.1.next hb).upd hU (by omega) (by omega) (by omega) (by omega);have r0:w5.cell? ⟨w.heap.size+1,0,none⟩=some (.slice a m ca):=(hU.keep (HW3.o.2.1.next hb) (by omega)).cell 0;have r1:w5.cell? ⟨w.heap.size+1+1,0,none⟩=some (zI 0):=(hU.keep (HW3.o.2.2.1.next hb) (by omega)).cell 0;have r2:w5.cell? ⟨w.heap.size+1+1+1,0,none⟩=some (zI 0):=hU.blk.cell 0;show Leaves _ _ _ _ [] (settle u') w5;rw [hs];refine ⟨.tuple #[.agg #[.slice a m ca],zI 0,zI 0],by simp [results,Tryz.results17,r0,r1,r2,go_sem],?_⟩;obtain ⟨p9,c9,hv9,hsee⟩:=hwr5.hold.sees;injection hv9 with e1 e2 e3
   subst e1;rw [← e2] at hsee;exact ⟨a,m,ca,xs,st k,0,0,rfl,.inr (.inr ⟨HTR.o,HFEW.o,k,st,HM.o.s0,HM.o.steps,.inl ⟨by rw [HLN.o];exact HKN.o,rfl,rfl,rfl⟩⟩),hsee,HXL.o,hwr5.hold.caps,hwr5.bel⟩
  have hdl:decide ((k:Int)<(n:Int))=true:=decide_eq_true (by omega);obtain ⟨bl,off,rfl,lb,hc⟩:=HL.o.2.resolve_left (by omega);have hce:∀ j,j<13→wr.cell? ⟨bl,off+k*13+j,none⟩=(l.getD k ev0).cl[j]?:=fun j hj=>(HWR.o.bel.cell (p:=⟨bl,off+k*13+j,none⟩) lb).trans (hc k j hlt hj);obtain ⟨v,hv⟩:∃ v,v=l.getD k ev0:=⟨_,rfl⟩
  have HV:Hid (v=l.getD k ev0):=hv;rw [← hv] at hce;clear hv hc;have c0:wr.cell? ⟨bl,off+k*13,none⟩=some (zI v.kd):=hce 0 (by decide);have c1:wr.cell? ⟨bl,off+k*13+1,none⟩=some (zI v.me):=hce 1 (by decide);have c2:wr.cell? ⟨bl,off+k*13+2,none⟩=some (zI v.mo):=hce 2 (by decide);have c3:wr.cell? ⟨bl,off+k*13+3,none⟩=some (zI v.id):=hce 3 (by decide);have c4:wr.cell? ⟨bl,off+k*13+4,none⟩=some (zI v.te):=hce 4 (by decide);have c5:wr.cell? ⟨bl,off+k*13+5,none⟩=some (zI v.de):=hce 5 (by decide);have c6:wr.cell? ⟨bl,off+k*13+6,none⟩=some (zI v.fe):=hce 6 (by decide);have c7:wr.cell? ⟨bl,off+k*13+7,none⟩=some (zI v.pr):=hce 7 (by decide);have c8:wr.cell? ⟨bl,off+k*13+8,none⟩=some (zI v.ch):=hce 8 (by decide);have c9:wr.cell? ⟨bl,off+k*13+9,none⟩=some (zI v.un):=hce 9 (by decide);have c10:wr.cell? ⟨bl,off+k*13+10,none⟩=some (zI v.tg):=hce 10 (by decide);have c11:wr.cell? ⟨bl,off+k*13+11,none⟩=some (zI v.ow):=hce 11 (by decide);have c12:wr.cell? ⟨bl,off+k*13+12,none⟩=some (zI v.bp):=hce 12 (by decide);have HHP:Hid (Calls Tryz.prog 40 #[.pointer (some ⟨gW,0,none⟩),.agg #[zI v.kd,zI v.me,zI v.mo,zI v.id,zI v.te,zI v.de,zI v.fe,zI v.pr,zI v.ch,zI v.un,zI v.tg,zI v.ow,zI v.bp]] wr fun e w'=>WPost w base gW B t pt lt ct (StepIs t (st k) v) wr e w'):=bhappen w base gW B t pt lt ct a xs.length ca xs (st k) v wr HWR.o HT.o;clear hce lb;have HKL:Hid (k<l.length):=by show _<_;rw [HLN.o];exact hlt
  go_wp2_with fail;refine HHP.o.mono ?_;rintro e w2 ⟨hkp,hpo⟩;clear HHP q8 hdl c0 c1 c2 c3 c4 c5 c6 c7 c8 c9 c10 c11 c12;have hp1:=HPL.o.h1;have hp2:=HPL.o.h2;have hp3:=HPL.o.h3;have hp4:=HPL.o.h4;have Hb2:Hid (Blk w2 (w.heap.size+1) #[zS] 46):=hkp.keep HM.o.bb (by omega) (by omega) (by omega);have Ha2:Hid (Blk w2 (w.heap.size+1+1) #[zI 0] 3):=hkp.keep HM.o.ba (by omega) (by omega) (by omega);have He2:Hid (Blk w2 (w.heap.size+1+1+1) #[zI 0] 27):=hkp.keep HM.o.be (by omega) (by omega) (by omega);have Hn2:Hid (Blk w2 gn #[zI (k:Int)] 3):=hkp.keep HM.o.bn (by omega) (by omega) (by omega);have HB2:Hid (Below w.heap.size w w2):=hkp.bel HWR.o.bel (by omega) (by omega) (by omega);rcases hpo with ⟨V',xs',bk',rfl,hst,hwr2⟩ | ⟨f,bk',hf,rfl,hst⟩
  case inr=>
   have HST:Hid (StepIs t (st k) (l.getD k ev0) bk' f):=by show StepIs _ _ _ _ _;rw [← HV.o];exact hst
   have HF:Hid (f≠0):=hf;clear hst hkp;refine leaves_cons (f:=38) (args:=#[.pointer (some ⟨w.heap.size+1+1+1,0,none⟩),.pointer (some ⟨gn,0,none⟩),.pointer (some ⟨w.heap.size+1+1,0,none⟩)]) (by simp) (by simp [go_sem]) ?_;refine (of_caught (w.heap.size+1+1+1) gn (w.heap.size+1+1) 0 (k:Int) 0 f hf _ He2.o Hn2.o Ha2.o (by omega) (by omega)).mono ?_;rintro e u' w5 ⟨rfl,hs,W,W3,hb,hU,hU2⟩;have r0:w5.cell? ⟨w.heap.size+1,0,none⟩=some (zS):=(hU2.keep (hU.keep (Hb2.o.next hb) (by omega)) (by omega)).cell 0;have r1:w5.cell? ⟨w.heap.size+1+1,0,none⟩=some (zI (k:Int)):=hU2.blk.cell 0;have r2:w5.cell? ⟨w.heap.size+1+1+1,0,none⟩=some (zI f):=(hU2.keep hU.blk (by omega)).cell 0;have HB5:Below w.heap.size w w5:=hU2.bel _ _ (by omega) (hU.bel _ _ (by omega) (bel_step HB2.o hb));show Leaves _ _ _ _ [] (settle u') w5;rw [hs];refine ⟨.tuple #[.agg #[zS],zI (k:Int),zI f],by simp [results,Tryz.results17,r0,r1,r2,go_sem],?_⟩;exact ⟨none,0,0,[],[],(k:Int),f,rfl,.inr (.inr ⟨HTR.o,HFEW.o,k,st,HM.o.s0,HM.o.steps,.inr ⟨HKL.o,⟨bk',HST.o⟩,HF.o,rfl,rfl⟩⟩),sees_nil _,Nat.zero_le _,(fun i hi=>absurd hi (Nat.not_lt_zero _)),HB5⟩
  have HST:Hid (StepIs t (st k) (l.getD k ev0) bk' 0):=by show StepIs _ _ _ _ _;rw [← HV.o];exact hst
  have HS2:Hid (Small bk' (k+1)):=step_small hst HM.o.small;have HWR2:Hid (Wr w base gW B t pt lt ct V' xs' bk' w2):=hwr2 (HS2.o.more (by omega));have q8:w2.cell? ⟨gn,0,none⟩=some (zI (k:Int)):=Hn2.o.cell 0;have hwk:IntKind.i64.wrap ((k:Int)+1)=(k:Int)+1:=by rw [IntKind.wrap_i64];omega
  clear hst hkp hwr2 HWR;go_wp2_with (first | (refine wp_let1 rfl 3 _ _ rfl gn 0 rfl .i64 ((k:Int)+1) rfl (by kernel_rfl) #[zI (k:Int)] 3 Hn2.o (by simp) ?_) | fail)
  intro W3 hU;have HWR3:Hid (Wr w base gW B t pt lt ct V' xs' bk' W3):=HWR2.o.upd hU (by omega) (by omega) (by omega) (by omega);have HX3:Hid (Blk W3 (w.heap.size+1) #[zS] 46∧Blk W3 (w.heap.size+1+1) #[zI 0] 3∧Blk W3 (w.heap.size+1+1+1) #[zI 0] 27∧Blk W3 gn #[zI ((k:Int)+1)] 3):=⟨hU.keep Hb2.o (by omega),hU.keep Ha2.o (by omega),hU.keep He2.o (by omega),hU.blk⟩
  clear hU q8 HWR2;obtain ⟨st2,s1,s2,s3⟩:=run_more HM.o.steps HST.o;have HM3:Hid (Mid2 w t pt lt ct l gn base gW B (k+1) st2 W3):=⟨s1.trans HM.o.s0,s3,by rw [s2];exact HS2.o,HX3.o.1,HX3.o.2.1,HX3.o.2.2.1,by have h1:=HX3.o.2.2.2;rw [show ((k:Int)+1)=((k+1:Nat):Int) by omega] at h1;exact h1,V',xs',by rw [s2];exact HWR3.o⟩
  clear s1 s2 s3;go_wp2_with fail;go_roundg (n - (k+1))
  case rel=>exact ⟨k+1,st2,by omega,HM3.o⟩
  case measure=>omega
end book
end Go.Proofs.YtnpblpbohcegoaaGreatDoor
