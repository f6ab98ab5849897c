import Derived.Test.YtnpblpbohcegoaaGreatDoorVVRts5
import Derived.Test.YtnpblpbohcegoaaGreatDoorVVRts6
set_option linter.unusedVariables false
set_option linter.unusedSimpArgs false
set_option maxHeartbeats 4000000
set_option maxRecDepth 100000
namespace Go.Proofs.YtnpblpbohcegoaaGreatDoor
namespace disk
open Go.RowKit cell
def RepPost (w:World) (c:List Int) (e:Ending) (w':World):Prop:=
 ∃ V sl out x f,e = .returned (.tuple #[V,zI x,zI f])∧Lr 25 w' w.heap.size V sl∧Recs w' V.ownBlock sl out∧RepIs c out x f∧Below w.heap.size w w'
theorem rec_at {c:List Int} {p m x:Nat} (hm:(c.getD p 0).toNat=m) (hx:x<m):(recAt c p).getD x 0=c.getD (p+1+x) 0:=by
 unfold recAt;rw [hm];simp [List.getD,List.getElem?_drop,hx]
theorem rec_len {c:List Int} {p m:Nat} (hm:(c.getD p 0).toNat=m) (hf:p+m<c.length):(recAt c p).length=m:=by
 unfold recAt;rw [hm,List.length_take,List.length_drop];omega
end disk
namespace acc
open tar (Du du0 Came RowD Ld PairT)
open Go.RowKit
theorem rcopyL (x:Ac) (p:Option Addr) (len cap:Nat) (w:World) (h:RowD w p len x.ds) (hm:deb.Mays x.ds):Calls Tryz.prog 174 #[.agg #[zI x.me,zI x.rv,zI x.nx,zI x.mo,zI x.bo,zI x.fr,.slice p len cap]] w fun e w'=>∃ p' cap',e = .returned (Ac.v x p' len cap')∧deb.Fresh w' w.heap.size p' len cap' x.ds∧Ld 70 w' w.heap.size (.slice p' len cap') x.ds∧Below w.heap.size w w':=by
 have hlen:=h.1;have hl8:len≤8:=by have:=hm.1;omega
 obtain ⟨W2,HWW,H0d,H0r,H0B,hs1⟩:=sh2 w #[zI x.me,zI x.rv,zI x.nx,zI x.mo,zI x.bo,zI x.fr,.slice p len cap] 51 #[zI 0,zI 0,zI 0,zI 0,zI 0,zI 0,zS] 51;have HROW:Hid (RowD W2 p len x.ds):=h.below H0B.o;have HM:Hid (deb.Mays x.ds):=hm;have HLEN:Hid (x.ds.length=len):=hlen;clear h hm hlen;go_enter Tryz.func174,Tryz.ntmps174;go_upto_region 1 with fail
 rw [HWW.o];clear HWW;go_wp2_with fail;go_loopw [3,4] (fun u z wr=>∃ (k:Nat) (V:Value),k≤len∧z=zI (k:Int)∧V=u∧Ld 70 wr W2.heap.size V (x.ds.take k)∧Below W2.heap.size W2 wr) (fun _ z _=>len - (intOf z).toNat)
 case atStart=>exact ⟨0,_,Nat.zero_le _,rfl,rfl,tar.Ld.zero _ _ _,Below.refl _ _⟩
 case round=>
  obtain ⟨k,V,hk,rfl,hV,hu,hb⟩:=hrel;subst hV;have HBW:Hid (Below W2.heap.size W2 wr):=hb;have HU:Hid (Ld 70 wr W2.heap.size V (x.ds.take k)):=hu;have HKd:Hid (Blk wr w.heap.size #[zI x.me,zI x.rv,zI x.nx,zI x.mo,zI x.bo,zI x.fr,.slice p len cap] 51):=H0d.o.below hb (by omega);have HKr:Hid (Blk wr (w.heap.size+1) #[zI 0,zI 0,zI 0,zI 0,zI 0,zI 0,zS] 51):=H0r.o.below hb (by omega);have c6:wr.cell? ⟨w.heap.size,6,none⟩=some (.slice p len cap):=HKd.o.cell 6;by_cases hlt:k<len
  ·have hdl:decide ((k:Int)<(len:Int))=true:=by simp;omega
   have hkl:k<x.ds.length:=by rw [HLEN.o];exact hlt
   obtain ⟨b,off,rfl,hbl,hc⟩:=HROW.o.at (by omega);have c0:wr.cell? ⟨b,off+k*2,none⟩=some (zI (x.ds.getD k du0).a):=(hb.cell (p:=⟨b,off+k*2,none⟩) hbl).trans (hc k hlt).1;have c1:wr.cell? ⟨b,off+k*2+1,none⟩=some (zI (x.ds.getD k du0).b):=(hb.cell (p:=⟨b,off+k*2+1,none⟩) hbl).trans (hc k hlt).2;have HTK:Hid (x.ds.take (k+1)=x.ds.take k++[⟨(x.ds.getD k du0).a,(x.ds.getD k du0).b⟩]):=tar.take_one x.ds k hkl;have hzl:(x.ds.take k).length≤1000000:=by rw [List.length_take];omega
   clear hc hb hu hkl;generalize x.ds.take k=Z at *;generalize (x.ds.getD k du0).a=da at *;generalize (x.ds.getD k du0).b=db at *;have HBA:Hid (Below W2.heap.size W2 (wr.alloc (.cells #[zI da,zI db] 70))):=HBW.o.alloc HBW.o.size _;have HZA:Hid (Ld 70 (wr.alloc (.cells #[zI da,zI db] 70)) W2.heap.size V Z):=HU.o.alloc _;have HCA:Hid ((wr.alloc (.cells #[zI da,zI db] 70)).cell? ⟨wr.heap.size,0,none⟩=some (zI da)∧(wr.alloc (.cells #[zI da,zI db] 70)).cell? ⟨wr.heap.size,1,none⟩=some (zI db)):=⟨(Blk.new wr _ _).cell 0,(Blk.new wr _ _).cell 1⟩
   clear HKd HKr
   go_wp2_with (first
    | (at_builtin;refine tar.wp_pair deb.debtT rfl _ _ rfl W2.heap.size wr.heap.size V Z ⟨da,db⟩ rfl rfl HZA.o HCA.o hzl HBA.o.size ?_)
    | fail)
   intro v3 w3 h3 hg3;have HB3:Hid (Below W2.heap.size W2 w3):=tar.own_bel HZA.o hg3 HBA.o (Nat.le_refl _) HBA.o.size;have H3:Hid (Ld 70 w3 W2.heap.size v3 (Z++[⟨da,db⟩])):=h3;clear h3 hg3 HZA HCA HBA HU c0 c1 c6;go_wp2_with fail;go_roundw
   case rel=>exact ⟨k+1,v3,by omega,by go_num,by first | rfl | trivial,by rw [HTK.o];exact H3.o,HB3.o⟩
   case measure=>simp [intOf];omega
  ·obtain rfl:len=k:=by omega
   have hdl:decide ((len:Int)<(len:Int))=false:=by simp
   have htk:x.ds.take len=x.ds:=List.take_of_length_le (by rw [HLEN.o];exact Nat.le_refl _);rw [htk] at hu;obtain ⟨p3,cap3,hv3,hcm⟩:=deb.ld_fresh hu HM.o;subst hv3;rw [HLEN.o] at hcm ⊢;have HCM:Hid (deb.Fresh wr W2.heap.size p3 len cap3 x.ds):=hcm;have HLD:Hid (Ld 70 wr W2.heap.size (.slice p3 len cap3) x.ds):=by have hu2:=hu;rw [HLEN.o] at hu2;exact hu2
   have HBF:Hid (Below w.heap.size w wr):=H0B.o.trans (hb.mono (by omega));clear hb hu hcm htk HU HBW
   go_wp2_with (first
    | (refine wp_letS rfl 49 _ _ rfl (w.heap.size) 6 rfl p3 len cap3 rfl (by kernel_rfl) #[zI x.me,zI x.rv,zI x.nx,zI x.mo,zI x.bo,zI x.fr,.slice p len cap] 51 HKd.o (by simp) ?_)
    | fail)
   intro W3 hU;have H3d:Hid (Blk W3 w.heap.size #[zI x.me,zI x.rv,zI x.nx,zI x.mo,zI x.bo,zI x.fr,.slice p3 len cap3] 51):=hU.blk;have H3r:=shK hU HKr (by omega);have H3B:=shV hU HBF (by omega);have H3C:Hid (deb.Fresh W3 W2.heap.size p3 len cap3 x.ds):=fresh_upd HCM.o hU (by omega);have H3L:Hid (Ld 70 W3 W2.heap.size (.slice p3 len cap3) x.ds):=ld_upd HLD.o hU (by omega);clear hU c6 HKd HKr HBF HCM HLD
   go_wp2_with (first
    | (refine zqw rfl rfl rfl H3d zqu51 ?_)
    | (refine zql rfl rfl rfl rfl zqu51 (by simp [Value.oneCell']) H3r rfl ?_)
    | fail)
   intro WF hU;have H9r:Hid (Blk WF (w.heap.size+1) #[zI x.me,zI x.rv,zI x.nx,zI x.mo,zI x.bo,zI x.fr,.slice p3 len cap3] 51):=hU.blk;have H9B:=shV hU H3B (by omega);have H9C:Hid (deb.Fresh WF w.heap.size p3 len cap3 x.ds):=(fresh_upd H3C.o hU (by omega)).low (by omega);have H9L:Hid (Ld 70 WF w.heap.size (.slice p3 len cap3) x.ds):=(ld_upd H3L.o hU (by omega)).low (by omega);clear hU H3d H3r H3B H3C H3L;obtain ⟨Rr0,Rr1,Rr2,Rr3,Rr4,Rr5,Rr6⟩:=shc7 H9r;go_wp2_with fail;exact bodyPost_ret (v:= .agg #[zI x.me,zI x.rv,zI x.nx,zI x.mo,zI x.bo,zI x.fr,.slice p3 len cap3]) (by simp [results,Tryz.results174,Rr0.o,Rr1.o,Rr2.o,Rr3.o,Rr4.o,Rr5.o,Rr6.o,go_sem]) rfl ⟨p3,cap3,rfl,H9C.o,H9L.o,H9B.o⟩
theorem rcopy (x:Ac) (p:Option Addr) (len cap:Nat) (w:World) (h:RowD w p len x.ds) (hm:deb.Mays x.ds):Calls Tryz.prog 174 #[.agg #[zI x.me,zI x.rv,zI x.nx,zI x.mo,zI x.bo,zI x.fr,.slice p len cap]] w fun e w'=>∃ p' cap',e = .returned (Ac.v x p' len cap')∧deb.Fresh w' w.heap.size p' len cap' x.ds∧Below w.heap.size w w':=
 (rcopyL x p len cap w h hm).mono fun e w' hh=>by
  obtain ⟨p',cap',he,hf,_,hb⟩:=hh;exact ⟨p',cap',he,hf,hb⟩
end acc
namespace deb
open tar (Du du0 Came RowD Ld ErrPost TwoPost PairT GaveD)
open Go.RowKit
theorem raged (x b:Int) (m:Nat) (w:World) (hx:0≤x∧x≤1000000000) (hb:0≤b∧b≤10000) (hm:m≤2400):Calls Tryz.prog 204 #[.agg #[zI x,zI b],zI (m:Int)] w fun e w'=>e = .returned (.agg #[zI (growN b m x),zI b])∧Below w.heap.size w w':=by
 obtain ⟨hx0,hx1⟩:=hx;obtain ⟨hb0,hb1⟩:=hb;have H0d:Hid (Blk ((w.alloc (.cells #[zI x,zI b] 70)).alloc (.cells #[zI 0,zI 0] 70)) (w.heap.size) #[zI x,zI b] 70):=(Blk.new w _ _).alloc _;have H0r:Hid (Blk ((w.alloc (.cells #[zI x,zI b] 70)).alloc (.cells #[zI 0,zI 0] 70)) (w.heap.size+1) #[zI 0,zI 0] 70):=Blk.new1 w _ _ _;have H0B:Hid (Below w.heap.size w ((w.alloc (.cells #[zI x,zI b] 70)).alloc (.cells #[zI 0,zI 0] 70))):=((Below.refl w.heap.size w).alloc (by simp) _).alloc (by simp) _;go_enter Tryz.func204,Tryz.ntmps204;go_wp2_with fail;go_loopw [5] (fun z wr=>∃ k:Nat,k≤m∧z=zI (k:Int)∧Blk wr w.heap.size #[zI (growN b k x),zI b] 70∧Blk wr (w.heap.size+1) #[zI 0,zI 0] 70∧Below w.heap.size w wr) (fun z _=>m - (intOf z).toNat)
 case atStart=>exact ⟨0,Nat.zero_le _,rfl,H0d.o,H0r.o,H0B.o⟩
 case round=>
  obtain ⟨k,hk,rfl,h1,h2,h3⟩:=hrel;have H1:Hid (Blk wr w.heap.size #[zI (growN b k x),zI b] 70):=h1;have H2:Hid (Blk wr (w.heap.size+1) #[zI 0,zI 0] 70):=h2;have H3:Hid (Below w.heap.size w wr):=h3;clear h1 h2 h3 H0d H0r H0B;have hg:=growN_bd hb0 hb1 hx0 hx1 k;by_cases hlt:k<m
  ·have hdl:decide ((k:Int)<(m:Int))=true:=by simp;omega
   have HG:Hid (growN b (k+1) x=grow b (growN b k x)):=rfl;have g0:0≤growN b k x:=by omega
   have g1:=hg.2;generalize growN b k x=u at *;have hpr:=prod_le u b 1000000000 10000 g0 g1 hb0 hb1;have hwp:IntKind.i64.wrap (u*b)=u*b:=by rw [IntKind.wrap_i64];omega
   have hq:Int.tdiv (u*b) 10000=u*b / 10000:=Int.tdiv_eq_ediv_of_nonneg hpr.1;have hy0:0≤u*b / 10000:=by omega
   have hy1:u*b / 10000≤1000000000:=by omega
   have HGE:Hid (grow b u=min 1000000000 (u+u*b / 10000)):=rfl;generalize u*b / 10000=y at *;have c0:wr.cell? ⟨w.heap.size,0,none⟩=some (zI u):=H1.o.cell 0;have c1:wr.cell? ⟨w.heap.size,1,none⟩=some (zI b):=H1.o.cell 1;clear hg hpr;go_wp2_with (first | (refine wp_let1 rfl 3 _ _ rfl (w.heap.size) 0 rfl .i64 (u+y) rfl (by kernel_rfl) #[zI u,zI b] 70 H1.o (by simp) ?_) | fail)
   intro W1 hU;have HU1:Hid (Blk W1 w.heap.size #[zI (u+y),zI b] 70):=hU.blk;have HU2:=shK hU H2 (by omega);have HU3:=shV hU H3 (by omega);have d0:W1.cell? ⟨w.heap.size,0,none⟩=some (zI (u+y)):=HU1.o.cell 0;clear hU c0 c1 H1 H2 H3;by_cases hgt:1000000000<u+y
   ·have hdg:decide (1000000000<u+y)=true:=decide_eq_true hgt;have HGV:Hid (growN b (k+1) x=1000000000):=by show _=_;rw [HG.o,HGE.o];omega
    go_wp2_with (first | (refine wp_let1 rfl 3 _ _ rfl (w.heap.size) 0 rfl .i64 1000000000 rfl (by kernel_rfl) #[zI (u+y),zI b] 70 HU1.o (by simp) ?_) | fail)
    intro W2 hV;have HV1:Hid (Blk W2 w.heap.size #[zI 1000000000,zI b] 70):=hV.blk;have HV2:=shK hV HU2 (by omega);have HV3:=shV hV HU3 (by omega);clear hV d0 HU1 HU2 HU3 hgt;go_wp2_with fail;go_roundw
    case rel=>exact ⟨k+1,by omega,by go_num,by rw [HGV.o];exact HV1.o,HV2.o,HV3.o⟩
    case measure=>simp [intOf];omega
   ·have hdg:decide (1000000000<u+y)=false:=decide_eq_false hgt;have HGV:Hid (growN b (k+1) x=u+y):=by show _=_;rw [HG.o,HGE.o];omega
    clear hgt;go_wp2_with fail;go_roundw
    case rel=>exact ⟨k+1,by omega,by go_num,by rw [HGV.o];exact HU1.o,HU2.o,HU3.o⟩
    case measure=>simp [intOf];omega
  ·obtain rfl:k=m:=by omega
   have hdl:decide ((k:Int)<(k:Int))=false:=by simp
   generalize hgg:growN b k x=u at *;have HGG:Hid (growN b k x=u):=hgg;clear hgg hg
   go_wp2_with (first
    | (refine zqw rfl rfl rfl H1 zqu70 ?_)
    | (refine zql rfl rfl rfl rfl zqu70 (by simp [Value.oneCell']) H2 rfl ?_)
    | fail)
   intro WF hU;have H9r:Hid (Blk WF (w.heap.size+1) #[zI u,zI b] 70):=hU.blk;have H9B:=shV hU H3 (by omega);clear hU H1 H2 H3;have Rr0:Hid (WF.cell? ⟨w.heap.size+1,0,none⟩=some (zI u)):=H9r.o.cell 0;have Rr1:Hid (WF.cell? ⟨w.heap.size+1,1,none⟩=some (zI b)):=H9r.o.cell 1;go_wp2_with fail;exact bodyPost_ret (v:= .agg #[zI u,zI b]) (by simp [results,Tryz.results204,Rr0.o,Rr1.o,go_sem]) rfl ⟨by rw [HGG.o],H9B.o⟩
theorem rages (a:Option Addr) (len cap:Nat) (ls:List Du) (mo:Int) (w:World) (hr:RowD w a len ls) (hl:len≤maxLen):Calls Tryz.prog 195 #[.slice a len cap,zI mo] w fun e w'=>AgePost w ls mo e w':=by
 have HFA:Hid (Calls Tryz.prog 194 #[.slice a len cap] w fun e w'=>∃ f,e = .returned (zI f)∧FaultIs ls f∧w'=w):=rfault a len cap ls w hr hl;have HIM:Hid (∀ W,Calls Tryz.prog 101 #[zI mo,zI 0,zI 2400] W fun e w'=>e = .returned (.bool (decide (0≤mo∧mo≤2400)))∧w'=W):=fun W=>cal.cin mo 0 2400 W;have hlen:=hr.1;go_enter Tryz.func195,Tryz.ntmps195;go_wp2_with fail;refine HFA.o.mono ?_;rintro e w1 ⟨f,rfl,hf,hw1⟩;subst hw1;have HF:Hid (FaultIs ls f):=hf;by_cases h0:f=0
 ·subst h0;have hm:=hf.ok.1 rfl;have HM:Hid (Mays ls):=hm;have HLEN:Hid (ls.length=len):=hlen;have hl8:len≤8:=by have:=hm.1;omega
  have HROW:Hid (RowD w1 a len ls):=hr;clear hf hm hr hl HFA hlen HF;by_cases hmm:0≤mo∧mo≤2400
  ·rw [decide_eq_true hmm] at HIM;have HMO:Hid (0≤mo∧mo≤2400):=hmm;obtain ⟨m,rfl⟩:=Int.eq_ofNat_of_zero_le hmm.1;have hm2:m≤2400:=by omega
   have HMT:Hid ((m:Int).toNat=m):=by show _=_;omega
   clear hmm;go_wp2_with fail;refine (HIM.o _).mono ?_;rintro e w2 ⟨rfl,hw2⟩;subst hw2;clear HIM;go_wp2_with fail;go_loopw [7,8] (fun u z wr=>∃ (k:Nat) (V:Value),k≤len∧z=zI (k:Int)∧V=u∧Ld 70 wr w2.heap.size V (ageAll (ls.take k) m)∧Below w2.heap.size w2 wr) (fun _ z _=>len - (intOf z).toNat)
   case atStart=>exact ⟨0,_,Nat.zero_le _,rfl,rfl,tar.Ld.zero _ _ _,Below.refl _ _⟩
   case round=>
    obtain ⟨k,V,hk,rfl,hV,hu,hb⟩:=hrel;subst hV;have HBW0:Hid (Below w2.heap.size w2 wr):=hb;have HU0:Hid (Ld 70 wr w2.heap.size V (ageAll (ls.take k) m)):=hu;by_cases hlt:k<len
    ·have hdl:decide ((k:Int)<(len:Int))=true:=by simp;omega
     have hkl:k<ls.length:=by rw [HLEN.o];exact hlt
     obtain ⟨b,off,rfl,hbl,hc⟩:=HROW.o.at (by omega);have c0:wr.cell? ⟨b,off+k*2,none⟩=some (zI (ls.getD k du0).a):=(hb.cell (p:=⟨b,off+k*2,none⟩) hbl).trans (hc k hlt).1;have c1:wr.cell? ⟨b,off+k*2+1,none⟩=some (zI (ls.getD k du0).b):=(hb.cell (p:=⟨b,off+k*2+1,none⟩) hbl).trans (hc k hlt).2;have ho:=HM.o.2 k hkl;have HAG:Hid (∀ W,Calls Tryz.prog 204 #[.agg #[zI (ls.getD k du0).a,zI (ls.getD k du0).b],zI (m:Int)] W fun e w'=>e = .returned (.agg #[zI (growN (ls.getD k du0).b m (ls.getD k du0).a),zI (ls.getD k du0).b])∧Below W.heap.size W w'):=fun W=>raged _ _ m W ho.1 ho.2 hm2;have HZ2:Hid (ageAll (ls.take (k+1)) m=ageAll (ls.take k) m++[⟨growN (ls.getD k du0).b m (ls.getD k du0).a,(ls.getD k du0).b⟩]):=ageAll_take ls m k hkl;have hzl:(ageAll (ls.take k) m).length≤1000000:=by rw [ageAll_len,List.length_take];omega
     clear hc hb hu ho hkl;generalize ageAll (ls.take k) m=Z at *;generalize growN (ls.getD k du0).b m (ls.getD k du0).a=gx at *;generalize (ls.getD k du0).a=x at *;generalize (ls.getD k du0).b=y at *;go_wp2_with fail;refine (HAG.o _).mono ?_;rintro e w4 ⟨rfl,hb4⟩;have HBW4:=shB HBW0 hb4;have HU4:Hid (Ld 70 w4 w2.heap.size V Z):=HU0.o.next hb4;have HBW:Hid (Below w2.heap.size w2 (w4.alloc (.cells #[zI gx,zI y] 70))):=HBW4.o.alloc HBW4.o.size _;have HU:Hid (Ld 70 (w4.alloc (.cells #[zI gx,zI y] 70)) w2.heap.size V Z):=HU4.o.alloc _;clear hb4 c0 c1 HAG HBW0 HU0;have HBA:Hid (Below w2.heap.size w2 ((w4.alloc (.cells #[zI gx,zI y] 70)).alloc (.cells #[zI gx,zI y] 70))):=HBW.o.alloc HBW.o.size _;have HZA:Hid (Ld 70 ((w4.alloc (.cells #[zI gx,zI y] 70)).alloc (.cells #[zI gx,zI y] 70)) w2.heap.size V Z):=HU.o.alloc _;have HCA:Hid (((w4.alloc (.cells #[zI gx,zI y] 70)).alloc (.cells #[zI gx,zI y] 70)).cell? ⟨w4.heap.size+1,0,none⟩=some (zI gx)∧((w4.alloc (.cells #[zI gx,zI y] 70)).alloc (.cells #[zI gx,zI y] 70)).cell? ⟨w4.heap.size+1,1,none⟩=some (zI y)):=⟨(Blk.new1 w4 _ _ _).cell 0,(Blk.new1 w4 _ _ _).cell 1⟩
     go_wp2_with (first
      | (at_builtin;refine tar.wp_pair debtT rfl _ _ rfl w2.heap.size (w4.heap.size+1) V Z ⟨gx,y⟩ rfl rfl HZA.o HCA.o hzl HBA.o.size ?_)
      | fail)
     intro v3 w3 h3 hg3;have HB3:Hid (Below w2.heap.size w2 w3):=tar.own_bel HZA.o hg3 HBA.o (Nat.le_refl _) HBA.o.size;have H3:Hid (Ld 70 w3 w2.heap.size v3 (Z++[⟨gx,y⟩])):=h3;clear h3 hg3 HZA HCA HBA HU HBW HBW4 HU4;go_wp2_with fail;go_roundw
     case rel=>exact ⟨k+1,v3,by omega,by go_num,by first | rfl | trivial,by rw [HZ2.o];exact H3.o,HB3.o⟩
     case measure=>simp [intOf];omega
    ·obtain rfl:k=len:=by omega
     have hdl:decide ((k:Int)<(k:Int))=false:=by simp
     have htk:ls.take k=ls:=List.take_of_length_le (by rw [HLEN.o];exact Nat.le_refl _);rw [htk] at hu;obtain ⟨a3,cap3,hv3,hcm⟩:=ld_fresh hu (ageAll_mays HM.o m);subst hv3;have HCM:Hid (Fresh wr w2.heap.size a3 (ageAll ls m).length cap3 (ageAll ls m)):=hcm;have HAI:Hid (AgeIs ls (m:Int) (ageAll ls m) 0):= .inr (.inr ⟨HM.o,HMO.o,rfl,by rw [HMT.o]⟩);clear hb hu hcm htk HU0;generalize (ageAll ls m).length=len3 at *;generalize ageAll ls m=Z at *;go_wp2_with fail;go_ret2;exact ⟨a3,len3,cap3,Z,0,rfl,HAI.o,HCM.o,HBW0.o⟩
  ·rw [decide_eq_false hmm] at HIM;have HMO:Hid (¬ (0≤mo∧mo≤2400)):=hmm;clear hmm;go_wp2_with fail;refine (HIM.o _).mono ?_;rintro e w2 ⟨rfl,hw2⟩;subst hw2;go_wp2_with fail;go_ret2;exact ⟨none,0,0,[],2,rfl,.inr (.inl ⟨HM.o,HMO.o,rfl,rfl⟩),fresh_nil _ _,Below.refl _ _⟩
 ·have hne:(f != 0)=true:=by simpa using h0
  have HN:Hid (¬ Mays ls):=fun h=>h0 (hf.ok.2 h);clear hf h0 hr hl HFA HIM;go_wp2_with fail;go_ret2;exact ⟨none,0,0,[],f,rfl,.inl ⟨HN.o,HF.o,rfl⟩,fresh_nil _ _,Below.refl _ _⟩
end deb
namespace tar
open Go.RowKit
theorem rfault (a:Option Addr) (n cap:Nat) (ls:List Du) (w:World) (hr:RowD w a n ls) (hn:n≤maxLen):Calls Tryz.prog 141 #[.slice a n cap] w fun e w'=>ErrPost w (FaultIs ls) e w':=by
 have hlen:=hr.1;have HIS:Hid (∀ W,Calls Tryz.prog 101 #[zI (n:Int),zI 1,zI 8] W fun e w'=>e = .returned (.bool (decide (1≤(n:Int)∧(n:Int)≤8)))∧w'=W):=fun W=>cal.cin n 1 8 W;have HIU:Hid (∀ x W,Calls Tryz.prog 101 #[zI x,zI 1,zI 10000000] W fun e w'=>e = .returned (.bool (decide (1≤x∧x≤10000000)))∧w'=W):=fun x W=>cal.cin x 1 10000000 W;have HIP:Hid (∀ x W,Calls Tryz.prog 101 #[zI x,zI 1,zI 100000] W fun e w'=>e = .returned (.bool (decide (1≤x∧x≤100000)))∧w'=W):=fun x W=>cal.cin x 1 100000 W;by_cases hs:1≤n∧n≤8
 ·have HS:Hid (Sized ls):=by show 1≤ls.length∧ls.length≤8;rw [hlen];exact hs
  rw [decide_eq_true (show 1≤(n:Int)∧(n:Int)≤8 by omega)] at HIS;obtain ⟨hs1,hs2⟩:=hs;obtain ⟨b,off,rfl,hbl,hc⟩:=hr.at hs1;have HC:Hid (∀ i,i<n→w.cell? ⟨b,off+i*2,none⟩=some (zI (ls.getD i du0).a)∧w.cell? ⟨b,off+i*2+1,none⟩=some (zI (ls.getD i du0).b)):=hc;have HLEN:Hid (ls.length=n):=hlen;have hnm:n≤9223372036854775807:=by omega
  clear hc hr hn hlen;go_enter Tryz.func141,Tryz.ntmps141;go_wp2_with fail;refine (HIS.o _).mono ?_;rintro e w1 ⟨rfl,hw1⟩;subst hw1;go_wp2_with fail;go_loopw [3] (fun x wr=>∃ k:Nat,k≤n∧x=zI (k:Int)∧(∀ i,i<k→(1≤(ls.getD i du0).a∧(ls.getD i du0).a≤10000000)∧1≤(ls.getD i du0).b∧(ls.getD i du0).b≤100000)∧wr=w1) (fun x _=>n - (intOf x).toNat)
  case atStart=>exact ⟨0,Nat.zero_le _,rfl,fun i hi=>absurd hi (Nat.not_lt_zero _),rfl⟩
  case round=>
   obtain ⟨k,hk,rfl,hf,hwr⟩:=hrel;have HF:Hid (∀ i,i<k→(1≤(ls.getD i du0).a∧(ls.getD i du0).a≤10000000)∧1≤(ls.getD i du0).b∧(ls.getD i du0).b≤100000):=hf;subst wr;clear hf;by_cases hlt:k<n
   ·have hdl:decide ((k:Int)<(n:Int))=true:=by simp;omega
    have c0:=(HC.o k hlt).1;have c1:=(HC.o k hlt).2;have HU:=HIU.o (ls.getD k du0).a;have HP:=HIP.o (ls.getD k du0).b;by_cases hu:1≤(ls.getD k du0).a∧(ls.getD k du0).a≤10000000
    ·rw [decide_eq_true hu] at HU;by_cases hp:1≤(ls.getD k du0).b∧(ls.getD k du0).b≤100000
     ·rw [decide_eq_true hp] at HP
      have HF2:Hid (∀ i,i<k+1→(1≤(ls.getD i du0).a∧(ls.getD i du0).a≤10000000)∧1≤(ls.getD i du0).b∧(ls.getD i du0).b≤100000):=fun i hi=>by
       by_cases e:i=k
       ·subst e;exact ⟨hu,hp⟩
       ·exact HF.o i (by omega)
      have HU2:Hid (∀ W,Calls Tryz.prog 101 #[zI (ls.getD k du0).a,zI 1,zI 10000000] W fun e w'=>e = .returned (.bool true)∧w'=W):=HU;have HP2:Hid (∀ W,Calls Tryz.prog 101 #[zI (ls.getD k du0).b,zI 1,zI 100000] W fun e w'=>e = .returned (.bool true)∧w'=W):=HP;clear HU HP hu hp HF;generalize (ls.getD k du0).a=x at *;generalize (ls.getD k du0).b=y at *;go_wp2_with fail;refine (HU2.o _).mono ?_;rintro e w2 ⟨rfl,hw2⟩;subst hw2;go_wp2_with fail;refine (HP2.o _).mono ?_;rintro e w2 ⟨rfl,hw2⟩;subst hw2;go_wp2_with fail;go_roundw
      case rel=>exact ⟨k+1,by omega,by go_num,HF2.o,by first | rfl | trivial⟩
      case measure=>simp [intOf];omega
     ·rw [decide_eq_false hp] at HP;have HN:Hid (¬ Fits ls):=fun h=>hp (h k (by rw [HLEN.o];exact hlt)).2;have HU2:Hid (∀ W,Calls Tryz.prog 101 #[zI (ls.getD k du0).a,zI 1,zI 10000000] W fun e w'=>e = .returned (.bool true)∧w'=W):=HU;have HP2:Hid (∀ W,Calls Tryz.prog 101 #[zI (ls.getD k du0).b,zI 1,zI 100000] W fun e w'=>e = .returned (.bool false)∧w'=W):=HP;clear HU HP hu hp HF;generalize (ls.getD k du0).a=x at *;generalize (ls.getD k du0).b=y at *;go_wp2_with fail;refine (HU2.o _).mono ?_;rintro e w2 ⟨rfl,hw2⟩;subst hw2;go_wp2_with fail;refine (HP2.o _).mono ?_;rintro e w2 ⟨rfl,hw2⟩;subst hw2;go_wp2_with fail;go_ret;exact ⟨_,rfl,.inr (.inl ⟨HS.o,HN.o,rfl⟩),Below.refl _ _⟩
    ·rw [decide_eq_false hu] at HU;have HN:Hid (¬ Fits ls):=fun h=>hu (h k (by rw [HLEN.o];exact hlt)).1;have HU2:Hid (∀ W,Calls Tryz.prog 101 #[zI (ls.getD k du0).a,zI 1,zI 10000000] W fun e w'=>e = .returned (.bool false)∧w'=W):=HU;clear HU HP hu HF;generalize (ls.getD k du0).a=x at *;generalize (ls.getD k du0).b=y at *;go_wp2_with fail;refine (HU2.o _).mono ?_;rintro e w2 ⟨rfl,hw2⟩;subst hw2;go_wp2_with fail;go_ret;exact ⟨_,rfl,.inr (.inl ⟨HS.o,HN.o,rfl⟩),Below.refl _ _⟩
   ·obtain rfl:k=n:=by omega
    have hdl:decide ((k:Int)<(k:Int))=false:=by simp
    have HFT:Hid (Fits ls):=fun i hi=>HF.o i (by rw [HLEN.o] at hi;exact hi);clear HF HIU HIP HIS;go_wp2_with fail;go_loopw [4] (fun x wr2=>∃ j:Nat,1≤j∧j≤k∧x=zI (j:Int)∧(∀ i,1≤i→i<j→(ls.getD (i - 1) du0).a<(ls.getD i du0).a)∧Below w1.heap.size w1 wr2) (fun x _=>k - (intOf x).toNat)
    case atStart=>exact ⟨1,Nat.le_refl _,hs1,rfl,fun i h1 h2=>absurd h2 (by omega),Below.refl _ _⟩
    case round=>
     obtain ⟨j,hj1,hj,rfl,hf,hb⟩:=hrel;have HF:Hid (∀ i,1≤i→i<j→(ls.getD (i - 1) du0).a<(ls.getD i du0).a):=hf;have HB:Hid (Below w1.heap.size w1 wr):=hb;by_cases hlt2:j<k
     ·have hdl2:decide ((j:Int)<(k:Int))=true:=by simp;omega
      have c0:wr.cell? ⟨b,off+j*2,none⟩=some (zI (ls.getD j du0).a):=(hb.cell (p:=⟨b,off+j*2,none⟩) hbl).trans (HC.o j hlt2).1;have c1:wr.cell? ⟨b,off+(j - 1)*2,none⟩=some (zI (ls.getD (j - 1) du0).a):=(hb.cell (p:=⟨b,off+(j - 1)*2,none⟩) hbl).trans (HC.o (j - 1) (by omega)).1;have hs2':wr.drew.cell? ⟨b,off+j*2,none⟩=some (zI (ls.getD j du0).a):=c0;have HBD:Hid (Below w1.heap.size w1 wr.drew):=hb.drew;have hsub:((j:Int) - 1)=((j - 1:Nat):Int):=by omega
      have hjm:j - 1<k:=by omega
      clear hb hf;by_cases hle:(ls.getD j du0).a≤(ls.getD (j - 1) du0).a
      ·have hde:decide ((ls.getD j du0).a≤(ls.getD (j - 1) du0).a)=true:=decide_eq_true hle;have HN:Hid (¬ (Rises ls∧Ends ls)):=rise_not hj1 (by rw [HLEN.o];exact hlt2) hle;clear hle;generalize (ls.getD j du0).a=x at *;generalize (ls.getD (j - 1) du0).a=y at *;generalize j - 1=j1 at *;go_wp2_with fail;go_region
       all_goals go_wp2_with fail
       go_ret;exact ⟨_,rfl,.inr (.inr (.inl ⟨HS.o,HFT.o,HN.o,rfl⟩)),HBD.o⟩
      ·have hde:decide ((ls.getD j du0).a≤(ls.getD (j - 1) du0).a)=false:=decide_eq_false hle
       have HF2:Hid (∀ i,1≤i→i<j+1→(ls.getD (i - 1) du0).a<(ls.getD i du0).a):=fun i h1 h2=>by
        by_cases e:i=j
        ·subst e;omega
        ·exact HF.o i h1 (by omega)
       clear hle;generalize (ls.getD j du0).a=x at *;generalize (ls.getD (j - 1) du0).a=y at *;generalize j - 1=j1 at *;go_wp2_with fail;go_region
       all_goals go_wp2_with fail
       go_roundw
       case rel=>exact ⟨j+1,by omega,by omega,by go_num,HF2.o,HBD.o⟩
       case measure=>simp [intOf];omega
     ·obtain rfl:j=k:=by omega
      have hdl2:decide ((j:Int)<(j:Int))=false:=by simp
      have HR:Hid (Rises ls):=fun i h1 h2=>HF.o i h1 (by rw [HLEN.o] at h2;exact h2);have c1:wr.cell? ⟨b,off+(j - 1)*2,none⟩=some (zI (ls.getD (j - 1) du0).a):=(hb.cell (p:=⟨b,off+(j - 1)*2,none⟩) hbl).trans (HC.o (j - 1) (by omega)).1;have hsub:((j:Int) - 1)=((j - 1:Nat):Int):=by omega
      have hjm:j - 1<j:=by omega
      have HE:Hid (Ends ls↔(ls.getD (j - 1) du0).a=10000000):=by show Ends ls↔_;unfold Ends;rw [HLEN.o]
      clear hb hf;by_cases he:(ls.getD (j - 1) du0).a=10000000
      ·have HR2:Hid (Right ls):=⟨HS.o,HFT.o,HR.o,HE.o.2 he⟩
       have hne:((ls.getD (j - 1) du0).a != 10000000)=false:=by rw [he];rfl
       clear he HE;generalize (ls.getD (j - 1) du0).a=y at *;generalize j - 1=j1 at *;go_wp2_with fail;go_ret;exact ⟨_,rfl,.inr (.inr (.inr ⟨HR2.o,rfl⟩)),HB.o⟩
      ·have HN:Hid (¬ (Rises ls∧Ends ls)):=fun h=>he (HE.o.1 h.2);have hne:((ls.getD (j - 1) du0).a != 10000000)=true:=by simpa using he
       clear he HE;generalize (ls.getD (j - 1) du0).a=y at *;generalize j - 1=j1 at *;go_wp2_with fail;go_ret;exact ⟨_,rfl,.inr (.inr (.inl ⟨HS.o,HFT.o,HN.o,rfl⟩)),HB.o⟩
 ·have HS:Hid (¬ Sized ls):=by show ¬ (1≤ls.length∧ls.length≤8);rw [hlen];exact hs
  rw [decide_eq_false (show ¬ (1≤(n:Int)∧(n:Int)≤8) by omega)] at HIS;have hnm:n≤9223372036854775807:=by unfold maxLen at hn;omega
  clear hs hr hlen hn;go_enter Tryz.func141,Tryz.ntmps141;go_wp2_with fail;refine (HIS.o _).mono ?_;rintro e w1 ⟨rfl,hw1⟩;subst hw1;go_wp2_with fail;go_ret;exact ⟨_,rfl,.inl ⟨HS.o,rfl⟩,Below.refl _ _⟩
theorem rmay (a:Option Addr) (len cap:Nat) (ls:List Du) (x n:Int) (w:World) (hr:RowD w a len ls) (hl:len≤maxLen):Calls Tryz.prog 197 #[.slice a len cap,zI x,zI n] w fun e w'=>ErrPost w (MayIs ls x n) e w':=by
 have HIX:Hid (∀ W,Calls Tryz.prog 101 #[zI x,zI 0,zI 10000000] W fun e w'=>e = .returned (.bool (decide (0≤x∧x≤10000000)))∧w'=W):=fun W=>cal.cin x 0 10000000 W;have HIN:Hid (∀ W,Calls Tryz.prog 101 #[zI n,zI 0,zI 2097151] W fun e w'=>e = .returned (.bool (decide (0≤n∧n≤2097151)))∧w'=W):=fun W=>cal.cin n 0 2097151 W;have HFA:Hid (Calls Tryz.prog 141 #[.slice a len cap] w fun e w'=>ErrPost w (FaultIs ls) e w'):=rfault a len cap ls w hr hl;clear hr hl;go_enter Tryz.func197,Tryz.ntmps197;go_wp2_with fail;refine HFA.o.mono ?_;rintro e w1 ⟨f,rfl,hf,hb⟩;have HB:Hid (Below w.heap.size w w1):=hb;have HF:Hid (FaultIs ls f):=hf;clear hb HFA;by_cases h0:f=0
 ·subst h0;have HR:Hid (Right ls):=hf.ok.1 rfl;clear hf;by_cases hx:0≤x∧x≤10000000
  ·rw [decide_eq_true hx] at HIX;obtain ⟨hx0,hx1⟩:=hx;by_cases hn:0≤n∧n≤2097151
   ·rw [decide_eq_true hn] at HIN;obtain ⟨hn0,hn1⟩:=hn;by_cases hs:x+n≤10000000
    ·have HV:Hid (MayIs ls x n 0):= .inr (.inr ⟨HR.o,⟨⟨hx0,hx1⟩,⟨hn0,hn1⟩,hs⟩,rfl⟩);have hd:decide (10000000<x+n)=false:=decide_eq_false (by omega);go_wp2_with fail;refine (HIX.o _).mono ?_;rintro e w2 ⟨rfl,hw2⟩;subst hw2;go_wp2_with fail;refine (HIN.o _).mono ?_;rintro e w2 ⟨rfl,hw2⟩;subst hw2;go_wp2_with fail;go_ret;exact ⟨_,rfl,HV.o,HB.o⟩
    ·have HV:Hid (MayIs ls x n 2):= .inr (.inl ⟨HR.o,fun h=>hs h.2.2,rfl⟩);have hd:decide (10000000<x+n)=true:=decide_eq_true (by omega);clear hs;go_wp2_with fail;refine (HIX.o _).mono ?_;rintro e w2 ⟨rfl,hw2⟩;subst hw2;go_wp2_with fail;refine (HIN.o _).mono ?_;rintro e w2 ⟨rfl,hw2⟩;subst hw2;go_wp2_with fail;go_ret;exact ⟨_,rfl,HV.o,HB.o⟩
   ·rw [decide_eq_false hn] at HIN;have HV:Hid (MayIs ls x n 2):= .inr (.inl ⟨HR.o,fun h=>hn h.2.1,rfl⟩);clear hn;go_wp2_with fail;refine (HIX.o _).mono ?_;rintro e w2 ⟨rfl,hw2⟩;subst hw2;go_wp2_with fail;refine (HIN.o _).mono ?_;rintro e w2 ⟨rfl,hw2⟩;subst hw2;go_wp2_with fail
    all_goals first
     | (rename_i q1 q2;exact absurd q1 (by simp [undef]))
     | (go_ret;exact ⟨_,rfl,HV.o,HB.o⟩)
  ·rw [decide_eq_false hx] at HIX;have HV:Hid (MayIs ls x n 2):= .inr (.inl ⟨HR.o,fun h=>hx h.1,rfl⟩);clear hx;go_wp2_with fail;refine (HIX.o _).mono ?_;rintro e w2 ⟨rfl,hw2⟩;subst hw2;go_wp2_with fail
   all_goals first
    | (rename_i q1 q2;exact absurd q1 (by simp [undef]))
    | (go_ret;exact ⟨_,rfl,HV.o,HB.o⟩)
 ·have hne:(f != 0)=true:=by simpa using h0
  have HV:Hid (MayIs ls x n f):= .inl ⟨fun h=>h0 (hf.ok.2 h),hf⟩;clear hf h0;go_wp2_with fail;go_ret;exact ⟨_,rfl,HV.o,HB.o⟩
end tar
namespace deb
open tar (Du du0 Came RowD Ld ErrPost TwoPost PairT GaveD)
open Go.RowKit
def SharePost (ls:List Du) (t bp:Int) (w:World) (e:Ending) (w':World):Prop:=∃ s f,e = .returned (.tuple #[zI s,zI f])∧((¬ Mays ls∧FaultIs ls f∧s=0)∨(Mays ls∧ShareIs t bp s f))∧Below w.heap.size w w'
theorem pshare (a:Option Addr) (len cap:Nat) (ls:List Du) (t bp:Int) (w:World) (hr:RowD w a len ls) (hl:len≤maxLen):Calls Tryz.prog 191 #[.slice a len cap,zI t,zI bp] w fun e w'=>SharePost ls t bp w e w':=by
 have HFA:Hid (Calls Tryz.prog 199 #[.slice a len cap] w fun e w'=>∃ f,e = .returned (zI f)∧FaultIs ls f∧Below w.heap.size w w'):=pcheck a len cap ls w hr hl;have HIT:Hid (∀ W,Calls Tryz.prog 202 #[zI 0,zI 100000000,zI t] W fun e w'=>e = .returned (.bool (decide (0≤t∧t≤100000000)))∧w'=W):=fun W=>dwithin 0 100000000 t W;clear hr hl;go_enter Tryz.func191,Tryz.ntmps191;go_wp2_with fail;refine HFA.o.mono ?_;rintro e w1 ⟨f,rfl,hf,hb1⟩;have HB1:Hid (Below w.heap.size w w1):=hb1;have HF:Hid (FaultIs ls f):=hf;clear hb1 HFA;by_cases h0:f=0
 ·subst h0;have HM:Hid (Mays ls):=hf.ok.1 rfl;clear hf HF;by_cases ht:0≤t∧t≤100000000
  ·rw [decide_eq_true ht] at HIT;by_cases hb:0≤bp∧bp≤10000
   ·have HPA:Hid (∀ W,Calls Tryz.prog 165 #[zI t,zI bp] W fun e w'=>e = .returned (.tuple #[zI (t*bp / 10000),zI 0])∧Below W.heap.size W w'):=fun W=>cents.part_yes t bp W ht.1 (by omega) hb.1 hb.2;have HT:Hid (TMay t bp):=⟨ht,hb⟩
    clear ht hb;go_wp2_with fail;refine (HIT.o _).mono ?_;rintro e w2 ⟨rfl,hw2⟩;subst hw2;go_wp2_with fail;refine (HPA.o _).mono ?_;rintro e w3 ⟨rfl,hb3⟩;have HB3:=shB HB1 hb3;clear hb3;go_wp2_with fail;go_ret2;exact ⟨_,_,rfl,.inr ⟨HM.o,.inl ⟨HT.o,rfl,rfl⟩⟩,HB3.o⟩
   ·have HPA:Hid (∀ W,Calls Tryz.prog 165 #[zI t,zI bp] W fun e w'=>e = .returned (.tuple #[zI 0,zI 2])∧Below W.heap.size W w'):=fun W=>cents.part_no t bp W (.inr (by omega));have HT:Hid (¬ TMay t bp):=fun h=>hb h.2;clear ht hb;go_wp2_with fail;refine (HIT.o _).mono ?_;rintro e w2 ⟨rfl,hw2⟩;subst hw2;go_wp2_with fail;refine (HPA.o _).mono ?_;rintro e w3 ⟨rfl,hb3⟩;have HB3:=shB HB1 hb3;clear hb3;go_wp2_with fail;go_ret2;exact ⟨_,_,rfl,.inr ⟨HM.o,.inr ⟨HT.o,rfl,rfl⟩⟩,HB3.o⟩
  ·rw [decide_eq_false ht] at HIT;have HT:Hid (¬ TMay t bp):=fun h=>ht h.1;clear ht;go_wp2_with fail;refine (HIT.o _).mono ?_;rintro e w2 ⟨rfl,hw2⟩;subst hw2;go_wp2_with fail;go_ret2;exact ⟨_,_,rfl,.inr ⟨HM.o,.inr ⟨HT.o,rfl,rfl⟩⟩,HB1.o⟩
 ·have hne:(f != 0)=true:=by simpa using h0
  have HN:Hid (¬ Mays ls):=fun h=>h0 (hf.ok.2 h);clear hf h0 HIT;go_wp2_with fail;go_ret2;exact ⟨_,_,rfl,.inl ⟨HN.o,HF.o,rfl⟩,HB1.o⟩
end deb
namespace tar
open Go.RowKit
def KtMost:Prop:=∀ (W:World) (a:Option Addr) (len cap:Nat) (ls:List Du) (x n:Int),Came W a len cap ls→(Lit.int .i64 x).wf=true→(Lit.int .i64 n).wf=true→Calls Tryz.prog 166 #[.slice a len cap,zI x,zI n] W fun e w'=>ThreePost W (MostIs ls x n) e w'
end tar
section
open Go.RowKit
theorem wp_letOpN {P:Program} {o:Oper} {a:Act} {w:World} {K:Act→World→Prop} {Q:Exit→Act→World→Prop} (ty:TypeId) (x y:Operand) (ho:o.op = .store ty x y)
  (g off:Nat) (hx:a.eval x = .pointer (some ⟨g,off,none⟩)) (v:Value) (hy:a.eval y=v) (cells:Array Value) (hv:v.cells=cells) (hi:(P.info? ty).map (·.size)=some cells.size) (h1:cells.all (·.oneCell')=true)
  (cs:Array Value) (t:TypeId) (hB:Blk w g cs t) (hin:off+cells.size≤cs.size) (new:Array Value) (hnew:putAll cs off cells.toList=new) (hd:o.dst=none)
  (h:∀ W,Upd w W g new t→K a W):o.wp P a w K Q:=by
 have hs:=run_storeVar_let (P:=P) (w:=w) (g:=g) (off:=off) (ty:=ty) (t:=t) (v:=v) (cells:=cells) (cs:=cs) hv hi h1 hB hin;have hu:=upd_cells g t cells.toList off w cs hB;rw [hnew] at hu;unfold Oper.wp execOp;simp only [ho,hx,hy,Instr.storeAt,Instr.sureAddr,Sem.run_bind,Sem.run_pure,Result.andThen_ok,hs];have:=h _ hu;have e:a.put o.dst undef=a:=by rw [hd];rfl
 rw [← e] at this;exact this
theorem wp_callOpP {P:Program} {o:Oper} {a:Act} {w:World} {f:FuncId} {args:Array Value} {R:Ending→World→Prop} {K:Act→World→Prop} {Q:Exit→Act→World→Prop} (d:Nat) (hd:o.dst=some d) (hrun:(execOp a.eval o).run P w = .ok (.enter f args) w) (hc:Calls P f args w R)
  (h:∀ e w',R e w'→(∃ v,e = .returned v∧K (a.put (some d) v) w')∨∃ c,e = .panicked c∧Q (.panic c) a w'):o.wp P a w K Q:=by
 rw [← hd] at h;unfold Oper.wp;rw [hrun,Oper.upon_enter];refine hc.mono fun e w' hr=>?_;rcases h e w' hr with ⟨v,rfl,hk⟩ | ⟨c,rfl,hk⟩
 ·exact hk
 ·exact hk
theorem wp_mapOp {P:Program} {o:Oper} {a:Act} {w W:World} {K:Act→World→Prop} {Q:Exit→Act→World→Prop} (ty:TypeId) (x y z:Operand) (ho:o.op = .mapUpdate ty x y z) (vx vy vz:Value) (hx:a.eval x=vx) (hy:a.eval y=vy) (hz:a.eval z=vz)
  (hr:(Instr.mapUpdate ty vx vy vz).run P w = .ok () W) (hd:o.dst=none) (h:K a W):o.wp P a w K Q:=by
 unfold Oper.wp execOp;simp only [ho,hx,hy,hz,Sem.run_bind,Sem.run_pure,Result.andThen_ok,hr];have e:a.put o.dst undef=a:=by rw [hd];rfl
 rw [← e] at h;exact h
end
namespace acc
open tar (Du)
open Go.RowKit
def KcOwe:Prop:=∀ (W:World) (x:Ac) (p:Option Addr) (len cap:Nat) (q:Du),ACame W x p len cap→(Lit.int .i64 q.a).wf=true∧(Lit.int .i64 q.b).wf=true→Calls Tryz.prog 75 #[x.v p len cap,.agg #[zI q.a,zI q.b]] W fun e w'=>APost W (OweIs x q) e w'
end acc
namespace words
open Go.RowKit
theorem timesStep_any (B M:Nat) (n x m:Int) (w:World) (hc:w.cell? ⟨B,0,none⟩=some (.int .u64 n)) (hf:w.frozen? ⟨B,0,none⟩=false) (hm:w.cell? ⟨M,0,none⟩=some (.int .u32 m)) (h0:0≤n) (h1:n<4294967296) (x0:0≤x) (x1:x<4294967296) (m0:0≤m) (m1:m<4294967296) :
  Calls Tryz.prog 130 #[.int .u32 x,.pointer (some ⟨B,0,none⟩),.pointer (some ⟨M,0,none⟩)] w fun e w'=>e = .returned (.int .u32 ((n+x*m) % 4294967296))∧Acc w w' B (.int .u64 ((n+x*m) / 4294967296)):=by
 have hA:Acc w w B (.int .u64 n):=Acc.refl hc hf;have HA:Hid (Acc w w B (.int .u64 n)):=hA;obtain ⟨p1,p2⟩:=prod_bd x0 x1 m0 m1;clear hA;go_enter Tryz.func130,Tryz.ntmps130;go_wp2_with fail;refine (cutWord_any B (n+x*m) _ (by apply World.cell?_setCell_same;exact hc) (by rw [World.frozen?_setCell];exact hf)).mono ?_;rintro e w' ⟨rfl,rfl⟩;go_wp2_with fail;go_ret;exact ⟨rfl,(HA.o.set _).set _⟩
theorem run_timesStep (args:Array Value) (w:World):(callFunc 130 args).run Tryz.prog w = .ok (.enter 130 args) w:=by kernel_rfl
theorem times_any (x:W3) (m:Int) (w:World) (hx:x.ok) (m0:0≤m) (m1:m<4294967296) :
  Calls Tryz.prog 86 #[wv x,.int .u32 m] w fun e w'=>e = .returned (.tuple #[wv (timesW x m),.int .u32 (timesO x m)])∧Below w.heap.size w w':=by
 obtain ⟨x0,x1,x2⟩:=x;obtain ⟨⟨h0,h0'⟩,⟨h1,h1'⟩,h2,h2'⟩:=hx;simp only at h0 h0' h1 h1' h2 h2';go_enter Tryz.func86,Tryz.ntmps86;go_wp2_with fail;obtain ⟨p0,p0'⟩:=prod_bd h0 h0' m0 m1;obtain ⟨p1,p1'⟩:=prod_bd h1 h1' m0 m1;obtain ⟨p2,p2'⟩:=prod_bd h2 h2' m0 m1;have hc:=trio_d w #[.int .u32 x0,.int .u32 x1,.int .u32 x2] (.int .u32 m) 99 (.int .u32 0) (.int .u32 0) (.int .u32 0) (.int .u64 0) 223;have hb3:=bel4 w (.cells #[.int .u32 x0,.int .u32 x1,.int .u32 x2] 131) (.cells #[.int .u32 m] 99) (.cells #[.int .u32 0,.int .u32 0,.int .u32 0] 131) (.cells #[.int .u64 0] 223);have e0:(0:Int)+x0*m=x0*m:=by omega
 refine (upward_any 130 #[.pointer (some ⟨w.heap.size+1+1+1,0,none⟩),.pointer (some ⟨w.heap.size+1,0,none⟩)] (w.heap.size+1+1+1) (.int .u64 0) (.int .u64 ((x0*m) / 4294967296)) (.int .u64 (((x0*m) / 4294967296+x1*m) / 4294967296)) (.int .u64 ((((x0*m) / 4294967296+x1*m) / 4294967296+x2*m) / 4294967296)) x0 x1 x2
  ((x0*m) % 4294967296) (((x0*m) / 4294967296+x1*m) % 4294967296) ((((x0*m) / 4294967296+x1*m) / 4294967296+x2*m) % 4294967296) _ (Acc.refl hc.1 hc.2.1) run_timesStep
  (fun w' h=>by have:=timesStep_any (w.heap.size+1+1+1) (w.heap.size+1) 0 x0 m w' h.cell h.free (h.keep hc.2.2.2 (by omega)) (by omega) (by omega) h0 h0' m0 m1;rw [e0] at this;exact this)
  (fun w' h=>timesStep_any _ _ _ _ _ w' h.cell h.free (h.keep hc.2.2.2 (by omega)) (by omega) (by omega) h1 h1' m0 m1)
  (fun w' h=>timesStep_any _ _ _ _ _ w' h.cell h.free (h.keep hc.2.2.2 (by omega)) (by omega) (by omega) h2 h2' m0 m1)).mono ?_
 rintro e w1 ⟨he,hA⟩;have hR:Trio w1 (w.heap.size+1+1) (.int .u32 0) (.int .u32 0) (.int .u32 0):=hc.2.2.1.acc hA (by omega);have HB:Hid (Below w.heap.size w w1):=hA.below hb3 (by omega);have hcell:=hA.cell;have hsz:w.heap.size+1+1+1<w1.heap.size:=Nat.lt_of_lt_of_le hA.old hA.size;have EW:wv (timesW ⟨x0,x1,x2⟩ m) = .agg #[.int .u32 ((x0*m) % 4294967296),.int .u32 (((x0*m) / 4294967296+x1*m) % 4294967296),.int .u32 ((((x0*m) / 4294967296+x1*m) / 4294967296+x2*m) % 4294967296)]:=rfl;have EO:timesO ⟨x0,x1,x2⟩ m=(((x0*m) / 4294967296+x1*m) / 4294967296+x2*m) / 4294967296:=rfl;have z0:0≤(((x0*m) / 4294967296+x1*m) / 4294967296+x2*m) / 4294967296:=by omega
 have z1:(((x0*m) / 4294967296+x1*m) / 4294967296+x2*m) / 4294967296<4294967296:=by omega
 have HE:Hid (.returned (.tuple #[wv (timesW ⟨x0,x1,x2⟩ m),.int .u32 (timesO ⟨x0,x1,x2⟩ m)])=Ending.returned (.tuple #[.agg #[.int .u32 ((x0*m) % 4294967296),.int .u32 (((x0*m) / 4294967296+x1*m) % 4294967296),.int .u32 ((((x0*m) / 4294967296+x1*m) / 4294967296+x2*m) % 4294967296)],.int .u32 ((((x0*m) / 4294967296+x1*m) / 4294967296+x2*m) / 4294967296)])):=by
  have:Ending.returned (.tuple #[wv (timesW ⟨x0,x1,x2⟩ m),.int .u32 (timesO ⟨x0,x1,x2⟩ m)])=Ending.returned (.tuple #[.agg #[.int .u32 ((x0*m) % 4294967296),.int .u32 (((x0*m) / 4294967296+x1*m) % 4294967296),.int .u32 ((((x0*m) / 4294967296+x1*m) / 4294967296+x2*m) % 4294967296)],.int .u32 ((((x0*m) / 4294967296+x1*m) / 4294967296+x2*m) / 4294967296)]):=by rw [EW,EO]
  exact this
 clear hA hc hb3 EW EO e0 p0 p0' p1 p1' p2 p2';have HE2:Hid (e = .returned (.agg #[.int .u32 ((x0*m) % 4294967296),.int .u32 (((x0*m) / 4294967296+x1*m) % 4294967296),.int .u32 ((((x0*m) / 4294967296+x1*m) / 4294967296+x2*m) % 4294967296)])):=he;clear he;generalize hz:(((x0*m) / 4294967296+x1*m) / 4294967296+x2*m) / 4294967296=z at hcell z0 z1 HE HE2;generalize hy0:(x0*m) % 4294967296=y0 at HE HE2;generalize hy1:((x0*m) / 4294967296+x1*m) % 4294967296=y1 at HE HE2;generalize hy2:(((x0*m) / 4294967296+x1*m) / 4294967296+x2*m) % 4294967296=y2 at HE HE2;clear hz hy0 hy1 hy2;obtain rfl:=HE2.o;clear HE2;have hR:=hR.alloc (.cells #[.int .u32 y0,.int .u32 y1,.int .u32 y2] 131);have r0:=hR.c0;have r1:=hR.c1;have r2:=hR.c2;have g0:=hR.free 0;have g1:=hR.free 1;have g2:=hR.free 2;have HR:Hid (Trio (w1.alloc (.cells #[.int .u32 y0,.int .u32 y1,.int .u32 y2] 131)) (w.heap.size+1+1) (.int .u32 0) (.int .u32 0) (.int .u32 0)):=hR;clear hR;go_wp2_with fail;go_region
 all_goals go_wp2_with fail
 have RR:=((HR.o.set0 (.int .u32 y0)).set1 (.int .u32 y1)).set2 (.int .u32 y2);refine bodyPost_ret (v:= .tuple #[.agg #[.int .u32 y0,.int .u32 y1,.int .u32 y2],.int .u32 z]) (by simp [results,Tryz.results86,RR.c0,RR.c1,RR.c2,go_sem]) rfl ⟨HE.o.symm,?_⟩;exact below_put (HB.o.alloc HB.o.size _) _ _ _ _ _ _ _ (by omega)
end words
end Go.Proofs.YtnpblpbohcegoaaGreatDoor
