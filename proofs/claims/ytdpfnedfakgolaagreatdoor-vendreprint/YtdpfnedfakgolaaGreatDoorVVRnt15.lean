import Derived.Test.YtdpfnedfakgolaaGreatDoorVVRnt8
import Derived.Test.YtdpfnedfakgolaaGreatDoorVVRnt9
import Derived.Test.YtdpfnedfakgolaaGreatDoorVVRnt11
set_option linter.unusedVariables false
set_option linter.unusedSimpArgs false
set_option maxHeartbeats 4000000
set_option maxRecDepth 100000
namespace Go.Proofs.YtdpfnedfakgolaaGreatDoor
namespace tar
open check (pick picked_any pick_nonneg pick_lt)
open Go.RowKit
theorem stepT2:PairT Tryz.prog 170 28:=⟨by kernel_rfl,Tryz.underlying28⟩
def GaveT (w:World) (e:Ending) (w':World):Prop:=∃ v ls,e = .returned v∧Right ls∧Ld 170 w' w.heap.size v ls∧Below w.heap.size w w'
theorem stepped_any (a:Option Addr) (len cap:Nat) (rs:List Du) (w:World) (h:Came w a len cap rs):Calls Tryz.prog 42 #[.slice a len cap] w fun e w'=>GaveT w e w':=by
 have HM:Hid (Came w a len cap rs):=h;have hlm:len≤9223372036854775807:=by have:=h.bytes;omega
 clear h;go_enter Tryz.func42,Tryz.ntmps42;go_wp2_with fail;go_loopw [3,4,5] (fun u v z wr=>∃ (k:Nat) (V:Value) (Z:List Du) (up:Int),k≤len∧k≤7∧z=zI (k:Int)∧v=zI up∧V=u∧Grow Z k up∧Ld 170 wr w.heap.size V Z∧Below w.heap.size w wr) (fun _ _ z _=>7 - (intOf z).toNat)
 case atStart=>exact ⟨0,_,[],0,Nat.zero_le _,by decide,rfl,rfl,rfl,Grow.zero,Ld.zero _ _ _,Below.refl _ _⟩
 case round=>
  obtain ⟨k,V,Z,up,hk,hk7,rfl,rfl,hV,hg,hZ,hb⟩:=hrel;subst hV;have HB:Hid (Below w.heap.size w wr):=hb;have HZ:Hid (Ld 170 wr w.heap.size V Z):=hZ;have HG:Hid (Grow Z k up):=hg;have hu0:=hg.low;have hu1:=hg.top;have hzl:Z.length≤1000000:=by rw [hg.len];omega
  clear hZ hg;by_cases hlt:k<len∧k<7
  ·obtain ⟨hl1,hl2⟩:=hlt;have hd1:decide ((k:Int)<(len:Int))=true:=by simp;omega
   have hd2:decide ((k:Int)<7)=true:=by simp;omega
   obtain ⟨b,off,rfl,hbl,hc⟩:=HM.o.row.at (by omega)
   have hw1:=(HM.o.wf (rs.getD k du0) (by
    have:k<rs.length:=by rw [HM.o.row.1];exact hl1
    simp [List.getD,List.getElem?_eq_getElem this]))
   have c0:wr.cell? ⟨b,off+k*2,none⟩=some (zI (rs.getD k du0).a):=(hb.cell (p:=⟨b,off+k*2,none⟩) hbl).trans (hc k hl1).1;have c1:wr.cell? ⟨b,off+k*2+1,none⟩=some (zI (rs.getD k du0).b):=(hb.cell (p:=⟨b,off+k*2+1,none⟩) hbl).trans (hc k hl1).2;have HP1:Hid (∀ W,Calls Tryz.prog 7 #[zI (rs.getD k du0).a,zI 1000000] W fun e w'=>e = .returned (zI (pick (rs.getD k du0).a 1000000))∧w'=W):=fun W=>picked_any _ _ W hw1.1 (by decide) (by decide);have HP2:Hid (∀ W,Calls Tryz.prog 7 #[zI (rs.getD k du0).b,zI 100000] W fun e w'=>e = .returned (zI (pick (rs.getD k du0).b 100000))∧w'=W):=fun W=>picked_any _ _ W hw1.2 (by decide) (by decide);have q1:=pick_nonneg (rs.getD k du0).a 1000000 (by decide);have q2:=pick_lt (rs.getD k du0).a 1000000 (by decide);have q3:=pick_nonneg (rs.getD k du0).b 100000 (by decide);have q4:=pick_lt (rs.getD k du0).b 100000 (by decide);clear hc hb hw1;generalize pick (rs.getD k du0).a 1000000=d at *;generalize pick (rs.getD k du0).b 100000=p at *;generalize (rs.getD k du0).a=x at *;generalize (rs.getD k du0).b=y at *;have HGN:Hid (Grow (Z++[⟨up+(1+d),1+p⟩]) (k+1) (up+(1+d))):=HG.o.step (by omega) (by omega) (by omega) (by omega);go_wp2_with fail;refine (HP1.o _).mono ?_;rintro e w2 ⟨rfl,hw2⟩;subst hw2;go_wp2_with fail;refine (HP2.o _).mono ?_;rintro e w2 ⟨rfl,hw2⟩;subst hw2;have HBA:Hid (Below w.heap.size w (w2.alloc (.cells #[zI (up+(1+d)),zI (1+p)] 170))):=HB.o.alloc HB.o.size _;have HZA:Hid (Ld 170 (w2.alloc (.cells #[zI (up+(1+d)),zI (1+p)] 170)) w.heap.size V Z):=HZ.o.alloc _;have HCA:Hid ((w2.alloc (.cells #[zI (up+(1+d)),zI (1+p)] 170)).cell? ⟨w2.heap.size,0,none⟩=some (zI (up+(1+d)))∧(w2.alloc (.cells #[zI (up+(1+d)),zI (1+p)] 170)).cell? ⟨w2.heap.size,1,none⟩=some (zI (1+p))):=⟨(Blk.new w2 _ _).cell 0,(Blk.new w2 _ _).cell 1⟩
   go_wp2_with (first
    | (at_builtin;refine wp_pair stepT2 rfl _ _ rfl w.heap.size w2.heap.size V Z ⟨up+(1+d),1+p⟩ rfl rfl HZA.o HCA.o hzl HBA.o.size ?_)
    | fail)
   intro v3 w3 h3 hg3;have HB3:Hid (Below w.heap.size w w3):=own_bel HZA.o hg3 HBA.o (Nat.le_refl _) HBA.o.size;have H3:Hid (Ld 170 w3 w.heap.size v3 (Z++[⟨up+(1+d),1+p⟩])):=h3;clear h3 hg3 HZA HCA HBA HZ c0 c1;go_wp2_with fail;go_roundw
   case rel=>exact ⟨k+1,v3,_,_,by omega,by omega,by go_num,rfl,by first | rfl | trivial,HGN.o,H3.o,HB3.o⟩
   case measure=>simp [intOf];omega
  ·have HRT:Hid (∀ p,1≤p→p≤100000→Right (Z++[⟨10000000,p⟩])):=fun p p1 p2=>HG.o.right hk7 p1 p2;have hq:Int.tmod up 100000=up % 100000:=Int.tmod_eq_emod_of_nonneg hu0;have r0:0≤up % 100000:=by omega
   have r1:up % 100000<100000:=by omega
   generalize up % 100000=r at *;have HBA:Hid (Below w.heap.size w (wr.alloc (.cells #[zI 10000000,zI (1+r)] 170))):=HB.o.alloc HB.o.size _;have HZA:Hid (Ld 170 (wr.alloc (.cells #[zI 10000000,zI (1+r)] 170)) w.heap.size V Z):=HZ.o.alloc _;have HCA:Hid ((wr.alloc (.cells #[zI 10000000,zI (1+r)] 170)).cell? ⟨wr.heap.size,0,none⟩=some (zI 10000000)∧(wr.alloc (.cells #[zI 10000000,zI (1+r)] 170)).cell? ⟨wr.heap.size,1,none⟩=some (zI (1+r))):=⟨(Blk.new wr _ _).cell 0,(Blk.new wr _ _).cell 1⟩
   have HRR:Hid (Right (Z++[⟨10000000,1+r⟩])):=HRT.o _ (by omega) (by omega);clear hb HRT;by_cases hl1:k<len
   ·have hd1:decide ((k:Int)<(len:Int))=true:=by simp;omega
    obtain rfl:k=7:=by omega
    clear hlt hk7
    go_wp2_with (first
     | (at_builtin;refine wp_pair stepT2 rfl _ _ rfl w.heap.size wr.heap.size V Z ⟨10000000,1+r⟩ rfl rfl HZA.o HCA.o hzl HBA.o.size ?_)
     | fail)
    intro v3 w3 h3 hg3;have HB3:Hid (Below w.heap.size w w3):=own_bel HZA.o hg3 HBA.o (Nat.le_refl _) HBA.o.size;have H3:Hid (Ld 170 w3 w.heap.size v3 (Z++[⟨10000000,1+r⟩])):=h3;clear h3 hg3 HZA HCA HBA HZ;go_wp2_with fail;go_ret;exact ⟨v3,_,rfl,HRR.o,H3.o,HB3.o⟩
   ·have hd1:decide ((k:Int)<(len:Int))=false:=by simp;omega
    clear hlt
    go_wp2_with (first
     | (at_builtin;refine wp_pair stepT2 rfl _ _ rfl w.heap.size wr.heap.size V Z ⟨10000000,1+r⟩ rfl rfl HZA.o HCA.o hzl HBA.o.size ?_)
     | fail)
    intro v3 w3 h3 hg3;have HB3:Hid (Below w.heap.size w w3):=own_bel HZA.o hg3 HBA.o (Nat.le_refl _) HBA.o.size;have H3:Hid (Ld 170 w3 w.heap.size v3 (Z++[⟨10000000,1+r⟩])):=h3;clear h3 hg3 HZA HCA HBA HZ;go_wp2_with fail;go_ret;exact ⟨v3,_,rfl,HRR.o,H3.o,HB3.o⟩
end tar
namespace book
open Go.RowKit
open acc (Ac Tm Bi APost BPost TFault TRight OpenIs)
def Ev.cl (x:Ev):List Value:=[zI x.kd,zI x.me,zI x.mo,zI x.id,zI x.te,zI x.de,zI x.fe,zI x.pr,zI x.ch,zI x.un,zI x.tg,zI x.ow,zI x.bp]
def RowE (w:World) (a:Option Addr) (n:Nat) (l:List Ev):Prop:=l.length=n∧(n=0∨∃ b off,a=some ⟨b,off,none⟩∧b<w.heap.size∧∀ i j,i<n→j<13→w.cell? ⟨b,off+i*13+j,none⟩=(l.getD i ev0).cl[j]?)
theorem putAll_get (vs:List Value):∀ (o:Nat) (cs:Array Value) (j:Nat),o+vs.length≤cs.size→(putAll cs o vs)[j]?=if o≤j∧j<o+vs.length then vs[j - o]? else cs[j]?:=by
 induction vs with
 | nil=>intro o cs j _;rw [if_neg (by simp only [List.length_nil];omega)];rfl
 | cons v r ih=>
  intro o cs j h;simp only [List.length_cons] at h;rw [putAll,ih (o+1) _ j (by simp;omega)];by_cases h1:o+1≤j∧j<o+1+r.length
  ·rw [if_pos h1,if_pos (by simp;omega),show j - o=(j - (o+1))+1 by omega,List.getElem?_cons_succ]
  ·rw [if_neg h1];by_cases h2:j=o
   ·subst h2;rw [if_pos (by simp only [List.length_cons];omega),Nat.sub_self];simp [show j<cs.size by omega]
   ·rw [if_neg (by simp;omega),Array.getElem?_setIfInBounds_ne (by omega)]
theorem putAll_size (vs:List Value):∀ (o:Nat) (cs:Array Value),(putAll cs o vs).size=cs.size:=by
 induction vs with
 | nil=>intro o cs;rfl
 | cons v r ih=>intro o cs;rw [putAll,ih];simp
theorem cellsC_get (xs:List Cu) (j:Nat):(cellsC xs)[j]?=if j<xs.length*8 then (xs.getD (j / 8) cu0).cs[j % 8]? else none:=by
 by_cases h:j<xs.length*8
 ·rw [if_pos h];have:=cellsC_at xs (j / 8) (j % 8) (by omega) (by omega);rw [show j / 8*8+j % 8=j by omega] at this;exact this
 ·rw [if_neg h,List.getElem?_eq_none (by rw [cellsC_len];omega)]
theorem lc_lies {w:World} {base n cap:Nat} {a:Option Addr} {xs:List Cu} (h:Lc w base (.slice a n cap) xs) (hn:0<n):∃ g cur,a=some ⟨g,0,none⟩∧base≤g∧Blk w g cur 64∧n*8≤cur.size∧∀ i j,i<xs.length→j<8→cur[i*8+j]?=(xs.getD i cu0).cs[j]?:=by
 rcases h.2 with ⟨h',h0⟩ | ⟨g,cap',cur,hv,hg,hc,hle,hm,hz,ht⟩
 ·simp only [Value.slice.injEq] at h';omega
 ·simp only [Value.slice.injEq] at hv;obtain ⟨rfl,rfl,rfl⟩:=hv;refine ⟨g,cur,rfl,hg,hc,by omega,fun i j hi hj=>?_⟩;have h1:cur.toList[i*8+j]?=(cellsC xs)[i*8+j]?:=by rw [← ht,List.getElem?_take_of_lt (by omega)]
  rw [Array.getElem?_toList] at h1;rw [h1];exact cellsC_at xs i j hi hj
theorem cuA_of {x:Cu} {a:Ac} (h:Nums x a):∃ dp dn dc sp sn sc,x=⟨a.me,a.rv,a.nx,a.mo,a.bo,a.fr,dp,dn,dc,sp,sn,sc⟩:=by
 cases x;obtain ⟨h1,h2,h3,h4,h5,h6⟩:=h;simp only at h1 h2 h3 h4 h5 h6;subst h1 h2 h3 h4 h5 h6;exact ⟨_,_,_,_,_,_,rfl⟩
theorem bnum (kd me mo id te de fe pr ch un tg ow bp:Int) (w:World):Calls Tryz.prog 147 #[.agg #[zI kd,zI me,zI mo,zI id,zI te,zI de,zI fe,zI pr,zI ch,zI un,zI tg,zI ow,zI bp]] w fun e w'=>YN w (Numd id tg) e w':=by
 obtain ⟨W0,HWW,HX0,HB0,-⟩:=sh1 w #[zI kd,zI me,zI mo,zI id,zI te,zI de,zI fe,zI pr,zI ch,zI un,zI tg,zI ow,zI bp] 125;go_enter Tryz.func147,Tryz.ntmps147;go_upto_region 1 with fail
 rw [HWW.o];clear HWW;have c0:W0.cell? ⟨w.heap.size,0,none⟩=some (zI kd):=HX0.o.cell 0;have c1:W0.cell? ⟨w.heap.size,1,none⟩=some (zI me):=HX0.o.cell 1;have c2:W0.cell? ⟨w.heap.size,2,none⟩=some (zI mo):=HX0.o.cell 2;have c3:W0.cell? ⟨w.heap.size,3,none⟩=some (zI id):=HX0.o.cell 3;have c4:W0.cell? ⟨w.heap.size,4,none⟩=some (zI te):=HX0.o.cell 4;have c5:W0.cell? ⟨w.heap.size,5,none⟩=some (zI de):=HX0.o.cell 5;have c6:W0.cell? ⟨w.heap.size,6,none⟩=some (zI fe):=HX0.o.cell 6;have c7:W0.cell? ⟨w.heap.size,7,none⟩=some (zI pr):=HX0.o.cell 7;have c8:W0.cell? ⟨w.heap.size,8,none⟩=some (zI ch):=HX0.o.cell 8;have c9:W0.cell? ⟨w.heap.size,9,none⟩=some (zI un):=HX0.o.cell 9;have c10:W0.cell? ⟨w.heap.size,10,none⟩=some (zI tg):=HX0.o.cell 10;have c11:W0.cell? ⟨w.heap.size,11,none⟩=some (zI ow):=HX0.o.cell 11;have c12:W0.cell? ⟨w.heap.size,12,none⟩=some (zI bp):=HX0.o.cell 12;have HW0:Hid (Calls Tryz.prog 131 #[zI 1,zI 1048575,.slice (some ⟨W0.heap.size,0,none⟩) 1 1] (W0.alloc (.cells #[zI id] 3)) fun e w'=>e = .returned (.bool (decide (1≤id∧id≤1048575)))∧w'=(W0.alloc (.cells #[zI id] 3))):=bki.within_one 1 1048575 id W0 _ rfl;have HB1:Hid (Below w.heap.size w (W0.alloc (.cells #[zI id] 3))):=HB0.o.alloc HB0.o.size _;have HX1:Hid (Blk (W0.alloc (.cells #[zI id] 3)) w.heap.size #[zI kd,zI me,zI mo,zI id,zI te,zI de,zI fe,zI pr,zI ch,zI un,zI tg,zI ow,zI bp] 125):=HX0.o.alloc _;by_cases h0:1≤id∧id≤1048575
 case neg=>
  rw [decide_eq_false h0] at HW0;go_wp2_with fail;refine HW0.o.mono ?_;rintro e W ⟨rfl,hw⟩;subst hw;clear HW0;go_wp2_with fail;go_ret;exact YN.no (fun q=>h0 q.1) HB1.o
 rw [decide_eq_true h0] at HW0;go_wp2_with fail;refine HW0.o.mono ?_;rintro e W ⟨rfl,hw⟩;subst hw;clear HW0 HB0 HX0;clear c0 c1 c2 c3 c4 c5 c6 c7 c8 c9 c10 c11 c12;generalize (W0.alloc (.cells #[zI id] 3))=W1 at *;have c0:W1.cell? ⟨w.heap.size,0,none⟩=some (zI kd):=HX1.o.cell 0;have c1:W1.cell? ⟨w.heap.size,1,none⟩=some (zI me):=HX1.o.cell 1;have c2:W1.cell? ⟨w.heap.size,2,none⟩=some (zI mo):=HX1.o.cell 2;have c3:W1.cell? ⟨w.heap.size,3,none⟩=some (zI id):=HX1.o.cell 3;have c4:W1.cell? ⟨w.heap.size,4,none⟩=some (zI te):=HX1.o.cell 4;have c5:W1.cell? ⟨w.heap.size,5,none⟩=some (zI de):=HX1.o.cell 5;have c6:W1.cell? ⟨w.heap.size,6,none⟩=some (zI fe):=HX1.o.cell 6;have c7:W1.cell? ⟨w.heap.size,7,none⟩=some (zI pr):=HX1.o.cell 7;have c8:W1.cell? ⟨w.heap.size,8,none⟩=some (zI ch):=HX1.o.cell 8;have c9:W1.cell? ⟨w.heap.size,9,none⟩=some (zI un):=HX1.o.cell 9;have c10:W1.cell? ⟨w.heap.size,10,none⟩=some (zI tg):=HX1.o.cell 10;have c11:W1.cell? ⟨w.heap.size,11,none⟩=some (zI ow):=HX1.o.cell 11;have c12:W1.cell? ⟨w.heap.size,12,none⟩=some (zI bp):=HX1.o.cell 12;have HW1:Hid (Calls Tryz.prog 131 #[zI 0,zI 65535,.slice (some ⟨W1.heap.size,0,none⟩) 1 1] (W1.alloc (.cells #[zI tg] 3)) fun e w'=>e = .returned (.bool (decide (0≤tg∧tg≤65535)))∧w'=(W1.alloc (.cells #[zI tg] 3))):=bki.within_one 0 65535 tg W1 _ rfl;have HB2:Hid (Below w.heap.size w (W1.alloc (.cells #[zI tg] 3))):=HB1.o.alloc HB1.o.size _;have HX2:Hid (Blk (W1.alloc (.cells #[zI tg] 3)) w.heap.size #[zI kd,zI me,zI mo,zI id,zI te,zI de,zI fe,zI pr,zI ch,zI un,zI tg,zI ow,zI bp] 125):=HX1.o.alloc _;by_cases h1:0≤tg∧tg≤65535
 case neg=>
  rw [decide_eq_false h1] at HW1;go_wp2_with fail;refine HW1.o.mono ?_;rintro e W ⟨rfl,hw⟩;subst hw;clear HW1;go_wp2_with fail;go_ret;exact YN.no (fun q=>h1 q.2) HB2.o
 rw [decide_eq_true h1] at HW1;go_wp2_with fail;refine HW1.o.mono ?_;rintro e W ⟨rfl,hw⟩;subst hw;clear HW1 HB1 HX1;clear c0 c1 c2 c3 c4 c5 c6 c7 c8 c9 c10 c11 c12;generalize (W1.alloc (.cells #[zI tg] 3))=W2 at *;have c0:W2.cell? ⟨w.heap.size,0,none⟩=some (zI kd):=HX2.o.cell 0;have c1:W2.cell? ⟨w.heap.size,1,none⟩=some (zI me):=HX2.o.cell 1;have c2:W2.cell? ⟨w.heap.size,2,none⟩=some (zI mo):=HX2.o.cell 2;have c3:W2.cell? ⟨w.heap.size,3,none⟩=some (zI id):=HX2.o.cell 3;have c4:W2.cell? ⟨w.heap.size,4,none⟩=some (zI te):=HX2.o.cell 4;have c5:W2.cell? ⟨w.heap.size,5,none⟩=some (zI de):=HX2.o.cell 5;have c6:W2.cell? ⟨w.heap.size,6,none⟩=some (zI fe):=HX2.o.cell 6;have c7:W2.cell? ⟨w.heap.size,7,none⟩=some (zI pr):=HX2.o.cell 7;have c8:W2.cell? ⟨w.heap.size,8,none⟩=some (zI ch):=HX2.o.cell 8;have c9:W2.cell? ⟨w.heap.size,9,none⟩=some (zI un):=HX2.o.cell 9;have c10:W2.cell? ⟨w.heap.size,10,none⟩=some (zI tg):=HX2.o.cell 10;have c11:W2.cell? ⟨w.heap.size,11,none⟩=some (zI ow):=HX2.o.cell 11;have c12:W2.cell? ⟨w.heap.size,12,none⟩=some (zI bp):=HX2.o.cell 12;go_wp2_with fail;go_ret;exact YN.yes (⟨h0,h1⟩) HB2.o
theorem bunt (kd me mo id te de fe pr ch un tg ow bp:Int) (w:World):Calls Tryz.prog 148 #[.agg #[zI kd,zI me,zI mo,zI id,zI te,zI de,zI fe,zI pr,zI ch,zI un,zI tg,zI ow,zI bp]] w fun e w'=>YN w (Unt un) e w':=by
 obtain ⟨W0,HWW,HX0,HB0,-⟩:=sh1 w #[zI kd,zI me,zI mo,zI id,zI te,zI de,zI fe,zI pr,zI ch,zI un,zI tg,zI ow,zI bp] 125;go_enter Tryz.func148,Tryz.ntmps148;go_upto_region 1 with fail
 rw [HWW.o];clear HWW;have c0:W0.cell? ⟨w.heap.size,0,none⟩=some (zI kd):=HX0.o.cell 0;have c1:W0.cell? ⟨w.heap.size,1,none⟩=some (zI me):=HX0.o.cell 1;have c2:W0.cell? ⟨w.heap.size,2,none⟩=some (zI mo):=HX0.o.cell 2;have c3:W0.cell? ⟨w.heap.size,3,none⟩=some (zI id):=HX0.o.cell 3;have c4:W0.cell? ⟨w.heap.size,4,none⟩=some (zI te):=HX0.o.cell 4;have c5:W0.cell? ⟨w.heap.size,5,none⟩=some (zI de):=HX0.o.cell 5;have c6:W0.cell? ⟨w.heap.size,6,none⟩=some (zI fe):=HX0.o.cell 6;have c7:W0.cell? ⟨w.heap.size,7,none⟩=some (zI pr):=HX0.o.cell 7;have c8:W0.cell? ⟨w.heap.size,8,none⟩=some (zI ch):=HX0.o.cell 8;have c9:W0.cell? ⟨w.heap.size,9,none⟩=some (zI un):=HX0.o.cell 9;have c10:W0.cell? ⟨w.heap.size,10,none⟩=some (zI tg):=HX0.o.cell 10;have c11:W0.cell? ⟨w.heap.size,11,none⟩=some (zI ow):=HX0.o.cell 11;have c12:W0.cell? ⟨w.heap.size,12,none⟩=some (zI bp):=HX0.o.cell 12;have HW0:Hid (Calls Tryz.prog 131 #[zI 1,zI 2097151,.slice (some ⟨W0.heap.size,0,none⟩) 1 1] (W0.alloc (.cells #[zI un] 3)) fun e w'=>e = .returned (.bool (decide (1≤un∧un≤2097151)))∧w'=(W0.alloc (.cells #[zI un] 3))):=bki.within_one 1 2097151 un W0 _ rfl;have HB1:Hid (Below w.heap.size w (W0.alloc (.cells #[zI un] 3))):=HB0.o.alloc HB0.o.size _;have HX1:Hid (Blk (W0.alloc (.cells #[zI un] 3)) w.heap.size #[zI kd,zI me,zI mo,zI id,zI te,zI de,zI fe,zI pr,zI ch,zI un,zI tg,zI ow,zI bp] 125):=HX0.o.alloc _;by_cases h0:1≤un∧un≤2097151
 case neg=>
  rw [decide_eq_false h0] at HW0;go_wp2_with fail;refine HW0.o.mono ?_;rintro e W ⟨rfl,hw⟩;subst hw;clear HW0;go_wp2_with fail;go_ret;exact YN.no (fun q=>h0 q) HB1.o
 rw [decide_eq_true h0] at HW0;go_wp2_with fail;refine HW0.o.mono ?_;rintro e W ⟨rfl,hw⟩;subst hw;clear HW0 HB0 HX0;clear c0 c1 c2 c3 c4 c5 c6 c7 c8 c9 c10 c11 c12;generalize (W0.alloc (.cells #[zI un] 3))=W1 at *;have c0:W1.cell? ⟨w.heap.size,0,none⟩=some (zI kd):=HX1.o.cell 0;have c1:W1.cell? ⟨w.heap.size,1,none⟩=some (zI me):=HX1.o.cell 1;have c2:W1.cell? ⟨w.heap.size,2,none⟩=some (zI mo):=HX1.o.cell 2;have c3:W1.cell? ⟨w.heap.size,3,none⟩=some (zI id):=HX1.o.cell 3;have c4:W1.cell? ⟨w.heap.size,4,none⟩=some (zI te):=HX1.o.cell 4;have c5:W1.cell? ⟨w.heap.size,5,none⟩=some (zI de):=HX1.o.cell 5;have c6:W1.cell? ⟨w.heap.size,6,none⟩=some (zI fe):=HX1.o.cell 6;have c7:W1.cell? ⟨w.heap.size,7,none⟩=some (zI pr):=HX1.o.cell 7;have c8:W1.cell? ⟨w.heap.size,8,none⟩=some (zI ch):=HX1.o.cell 8;have c9:W1.cell? ⟨w.heap.size,9,none⟩=some (zI un):=HX1.o.cell 9;have c10:W1.cell? ⟨w.heap.size,10,none⟩=some (zI tg):=HX1.o.cell 10;have c11:W1.cell? ⟨w.heap.size,11,none⟩=some (zI ow):=HX1.o.cell 11;have c12:W1.cell? ⟨w.heap.size,12,none⟩=some (zI bp):=HX1.o.cell 12;go_wp2_with fail;go_ret;exact YN.yes (h0) HB1.o
theorem bmony (id te de fe pr ch un:Int) (w:World):Calls Tryz.prog 149 #[.agg #[zI id,zI te,zI de,zI fe,zI pr,zI ch,zI un]] w fun e w'=>YN w (Mony te de fe pr ch) e w':=by
 obtain ⟨W0,HWW,HX0,HB0,-⟩:=sh1 w #[zI id,zI te,zI de,zI fe,zI pr,zI ch,zI un] 48;go_enter Tryz.func149,Tryz.ntmps149;go_upto_region 1 with fail
 rw [HWW.o];clear HWW;obtain ⟨c0,c1,c2,c3,c4,c5,c6⟩:=scl7 HX0;have HW0:Hid (Calls Tryz.prog 131 #[zI 1,zI 100000000,.slice (some ⟨W0.heap.size,0,none⟩) 1 1] (W0.alloc (.cells #[zI te] 3)) fun e w'=>e = .returned (.bool (decide (1≤te∧te≤100000000)))∧w'=(W0.alloc (.cells #[zI te] 3))):=bki.within_one 1 100000000 te W0 _ rfl;have HB1:Hid (Below w.heap.size w (W0.alloc (.cells #[zI te] 3))):=HB0.o.alloc HB0.o.size _;have HX1:Hid (Blk (W0.alloc (.cells #[zI te] 3)) w.heap.size #[zI id,zI te,zI de,zI fe,zI pr,zI ch,zI un] 48):=HX0.o.alloc _;by_cases h0:1≤te∧te≤100000000
 case neg=>
  rw [decide_eq_false h0] at HW0;go_wp2_with fail;refine HW0.o.mono ?_;rintro e W ⟨rfl,hw⟩;subst hw;clear HW0;go_wp2_with fail;go_ret;exact YN.no (fun q=>h0 q.1) HB1.o
 rw [decide_eq_true h0] at HW0;go_wp2_with fail;refine HW0.o.mono ?_;rintro e W ⟨rfl,hw⟩;subst hw;clear HW0 HB0 HX0;clear c0 c1 c2 c3 c4 c5 c6;generalize (W0.alloc (.cells #[zI te] 3))=W1 at *;obtain ⟨c0,c1,c2,c3,c4,c5,c6⟩:=scl7 HX1;have HW1:Hid (Calls Tryz.prog 131 #[zI 0,zI 100000000,.slice (some ⟨W1.heap.size,0,none⟩) 4 4] (W1.alloc (.cells #[zI de,zI fe,zI pr,zI ch] 3)) fun e w'=>e = .returned (.bool (bki.okAll 0 100000000 [de,fe,pr,ch]))∧w'=(W1.alloc (.cells #[zI de,zI fe,zI pr,zI ch] 3))):=bki.within_any 0 100000000 _ 4 4 [de,fe,pr,ch] _ (bki.row_four W1 de fe pr ch 3) (by decide);have HB2:Hid (Below w.heap.size w (W1.alloc (.cells #[zI de,zI fe,zI pr,zI ch] 3))):=HB1.o.alloc HB1.o.size _;have HX2:Hid (Blk (W1.alloc (.cells #[zI de,zI fe,zI pr,zI ch] 3)) w.heap.size #[zI id,zI te,zI de,zI fe,zI pr,zI ch,zI un] 48):=HX1.o.alloc _;by_cases h1:bki.okAll 0 100000000 [de,fe,pr,ch]=true
 case neg=>
  rw [show bki.okAll 0 100000000 [de,fe,pr,ch]=false by simpa using h1] at HW1;go_wp2_with fail;refine HW1.o.mono ?_;rintro e W ⟨rfl,hw⟩;subst hw;clear HW1;go_wp2_with fail;go_ret;exact YN.no (fun q=>h1 (by simpa [bki.okAll] using q.2.1)) HB2.o
 rw [h1] at HW1;go_wp2_with fail;refine HW1.o.mono ?_;rintro e W ⟨rfl,hw⟩;subst hw;clear HW1 HB1 HX1;clear c0 c1 c2 c3 c4 c5 c6;generalize (W1.alloc (.cells #[zI de,zI fe,zI pr,zI ch] 3))=W2 at *;obtain ⟨c0,c1,c2,c3,c4,c5,c6⟩:=scl7 HX2;have hh:(0≤de∧de≤100000000)∧(0≤fe∧fe≤100000000)∧(0≤pr∧pr≤100000000)∧0≤ch∧ch≤100000000:=by simpa [bki.okAll] using h1
 have e1:IntKind.i64.wrap (de+fe)=de+fe:=by rw [IntKind.wrap_i64];omega
 have e2:IntKind.i64.wrap (de+fe+pr)=de+fe+pr:=by rw [IntKind.wrap_i64];omega
 have e3:IntKind.i64.wrap (de+fe+pr+ch)=de+fe+pr+ch:=by rw [IntKind.wrap_i64];omega
 have HH:Hid ((0≤de∧de≤100000000)∧(0≤fe∧fe≤100000000)∧(0≤pr∧pr≤100000000)∧0≤ch∧ch≤100000000):=hh;have H0:Hid (1≤te∧te≤100000000):=h0;clear hh h1 h0;by_cases h2:de+fe+pr+ch=te
 ·have hq:((de+fe+pr+ch) == te)=true:=by simpa using h2
  have H2:Hid (de+fe+pr+ch=te):=h2;clear h2;go_wp2_with fail;go_ret;exact YN.yes ⟨H0.o,HH.o,H2.o⟩ HB2.o
 ·have hq:((de+fe+pr+ch) == te)=false:=by simpa using h2
  have H2:Hid (¬ de+fe+pr+ch=te):=h2;clear h2;go_wp2_with fail;go_ret;exact YN.no (fun q=>H2.o q.2.2) HB2.o
end book
namespace deb
open tar (Du du0 Came RowD Ld ErrPost TwoPost PairT)
open Go.RowKit
def SharePost (ls:List Du) (t bp:Int) (w:World) (e:Ending) (w':World):Prop:=∃ s f,e = .returned (.tuple #[zI s,zI f])∧((¬ Mays ls∧FaultIs ls f∧s=0)∨(Mays ls∧ShareIs t bp s f))∧Below w.heap.size w w'
theorem pshare (a:Option Addr) (len cap:Nat) (ls:List Du) (t bp:Int) (w:World) (hr:RowD w a len ls) (hl:len≤maxLen):Calls Tryz.prog 142 #[.slice a len cap,zI t,zI bp] w fun e w'=>SharePost ls t bp w e w':=by
 have HFA:Hid (Calls Tryz.prog 150 #[.slice a len cap] w fun e w'=>∃ f,e = .returned (zI f)∧FaultIs ls f∧Below w.heap.size w w'):=pcheck a len cap ls w hr hl;have HIT:Hid (∀ W,Calls Tryz.prog 153 #[zI 0,zI 100000000,zI t] W fun e w'=>e = .returned (.bool (decide (0≤t∧t≤100000000)))∧w'=W):=fun W=>dwithin 0 100000000 t W;clear hr hl;go_enter Tryz.func142,Tryz.ntmps142;go_wp2_with fail;refine HFA.o.mono ?_;rintro e w1 ⟨f,rfl,hf,hb1⟩;have HB1:Hid (Below w.heap.size w w1):=hb1;have HF:Hid (FaultIs ls f):=hf;clear hb1 HFA;by_cases h0:f=0
 ·subst h0;have HM:Hid (Mays ls):=hf.ok.1 rfl;clear hf HF;by_cases ht:0≤t∧t≤100000000
  ·rw [decide_eq_true ht] at HIT;by_cases hb:0≤bp∧bp≤10000
   ·have HPA:Hid (∀ W,Calls Tryz.prog 124 #[zI t,zI bp] W fun e w'=>e = .returned (.tuple #[zI (t*bp / 10000),zI 0])∧Below W.heap.size W w'):=fun W=>cents.part_yes t bp W ht.1 (by omega) hb.1 hb.2;have HT:Hid (TMay t bp):=⟨ht,hb⟩
    clear ht hb;go_wp2_with fail;refine (HIT.o _).mono ?_;rintro e w2 ⟨rfl,hw2⟩;subst hw2;go_wp2_with fail;refine (HPA.o _).mono ?_;rintro e w3 ⟨rfl,hb3⟩;have HB3:=shB HB1 hb3;clear hb3;go_wp2_with fail;go_ret2;exact ⟨_,_,rfl,.inr ⟨HM.o,.inl ⟨HT.o,rfl,rfl⟩⟩,HB3.o⟩
   ·have HPA:Hid (∀ W,Calls Tryz.prog 124 #[zI t,zI bp] W fun e w'=>e = .returned (.tuple #[zI 0,zI 2])∧Below W.heap.size W w'):=fun W=>cents.part_no t bp W (.inr (by omega));have HT:Hid (¬ TMay t bp):=fun h=>hb h.2;clear ht hb;go_wp2_with fail;refine (HIT.o _).mono ?_;rintro e w2 ⟨rfl,hw2⟩;subst hw2;go_wp2_with fail;refine (HPA.o _).mono ?_;rintro e w3 ⟨rfl,hb3⟩;have HB3:=shB HB1 hb3;clear hb3;go_wp2_with fail;go_ret2;exact ⟨_,_,rfl,.inr ⟨HM.o,.inr ⟨HT.o,rfl,rfl⟩⟩,HB3.o⟩
  ·rw [decide_eq_false ht] at HIT;have HT:Hid (¬ TMay t bp):=fun h=>ht h.1;clear ht;go_wp2_with fail;refine (HIT.o _).mono ?_;rintro e w2 ⟨rfl,hw2⟩;subst hw2;go_wp2_with fail;go_ret2;exact ⟨_,_,rfl,.inr ⟨HM.o,.inr ⟨HT.o,rfl,rfl⟩⟩,HB1.o⟩
 ·have hne:(f != 0)=true:=by simpa using h0
  have HN:Hid (¬ Mays ls):=fun h=>h0 (hf.ok.2 h);clear hf h0 HIT;go_wp2_with fail;go_ret2;exact ⟨_,_,rfl,.inl ⟨HN.o,HF.o,rfl⟩,HB1.o⟩
end deb
end Go.Proofs.YtdpfnedfakgolaaGreatDoor
