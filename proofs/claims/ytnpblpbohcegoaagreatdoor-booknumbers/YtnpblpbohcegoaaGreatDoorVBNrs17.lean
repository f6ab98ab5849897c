import Derived.Test.YtnpblpbohcegoaaGreatDoorVBNrs16
set_option linter.unusedVariables false
set_option linter.unusedSimpArgs false
set_option maxHeartbeats 4000000
set_option maxRecDepth 100000
namespace Go.Proofs.YtnpblpbohcegoaaGreatDoor
namespace tar
open check (pick picked_any pick_nonneg pick_lt)
open Go.RowKit
theorem stepT2:PairT Tryz.prog 198 22:=⟨by kernel_rfl,Tryz.underlying22⟩
def GaveT (w:World) (e:Ending) (w':World):Prop:=∃ v ls,e = .returned v∧Right ls∧Ld 198 w' w.heap.size v ls∧Below w.heap.size w w'
theorem stepped_any (a:Option Addr) (len cap:Nat) (rs:List Du) (w:World) (h:Came w a len cap rs):Calls Tryz.prog 60 #[.slice a len cap] w fun e w'=>GaveT w e w':=by
 have HM:Hid (Came w a len cap rs):=h;have hlm:len≤9223372036854775807:=by have:=h.bytes;omega
 clear h;go_enter Tryz.func60,Tryz.ntmps60;go_wp2_with fail;go_loopw [3,4,5] (fun u v z wr=>∃ (k:Nat) (V:Value) (Z:List Du) (up:Int),k≤len∧k≤7∧z=zI (k:Int)∧v=zI up∧V=u∧Grow Z k up∧Ld 198 wr w.heap.size V Z∧Below w.heap.size w wr) (fun _ _ z _=>7 - (intOf z).toNat)
 case atStart=>exact ⟨0,_,[],0,Nat.zero_le _,by decide,rfl,rfl,rfl,Grow.zero,Ld.zero _ _ _,Below.refl _ _⟩
 case round=>
  obtain ⟨k,V,Z,up,hk,hk7,rfl,rfl,hV,hg,hZ,hb⟩:=hrel;subst hV;have HB:Hid (Below w.heap.size w wr):=hb;have HZ:Hid (Ld 198 wr w.heap.size V Z):=hZ;have HG:Hid (Grow Z k up):=hg;have hu0:=hg.low;have hu1:=hg.top;have hzl:Z.length≤1000000:=by rw [hg.len];omega
  clear hZ hg;by_cases hlt:k<len∧k<7
  ·obtain ⟨hl1,hl2⟩:=hlt;have hd1:decide ((k:Int)<(len:Int))=true:=by simp;omega
   have hd2:decide ((k:Int)<7)=true:=by simp;omega
   obtain ⟨b,off,rfl,hbl,hc⟩:=HM.o.row.at (by omega)
   have hw1:=(HM.o.wf (rs.getD k du0) (by
    have:k<rs.length:=by rw [HM.o.row.1];exact hl1
    simp [List.getD,List.getElem?_eq_getElem this]))
   have c0:wr.cell? ⟨b,off+k*2,none⟩=some (zI (rs.getD k du0).a):=(hb.cell (p:=⟨b,off+k*2,none⟩) hbl).trans (hc k hl1).1;have c1:wr.cell? ⟨b,off+k*2+1,none⟩=some (zI (rs.getD k du0).b):=(hb.cell (p:=⟨b,off+k*2+1,none⟩) hbl).trans (hc k hl1).2;have HP1:Hid (∀ W,Calls Tryz.prog 18 #[zI (rs.getD k du0).a,zI 1000000] W fun e w'=>e = .returned (zI (pick (rs.getD k du0).a 1000000))∧w'=W):=fun W=>picked_any _ _ W hw1.1 (by decide) (by decide);have HP2:Hid (∀ W,Calls Tryz.prog 18 #[zI (rs.getD k du0).b,zI 100000] W fun e w'=>e = .returned (zI (pick (rs.getD k du0).b 100000))∧w'=W):=fun W=>picked_any _ _ W hw1.2 (by decide) (by decide);have q1:=pick_nonneg (rs.getD k du0).a 1000000 (by decide);have q2:=pick_lt (rs.getD k du0).a 1000000 (by decide);have q3:=pick_nonneg (rs.getD k du0).b 100000 (by decide);have q4:=pick_lt (rs.getD k du0).b 100000 (by decide);clear hc hb hw1;generalize pick (rs.getD k du0).a 1000000=d at *;generalize pick (rs.getD k du0).b 100000=p at *;generalize (rs.getD k du0).a=x at *;generalize (rs.getD k du0).b=y at *;have HGN:Hid (Grow (Z++[⟨up+(1+d),1+p⟩]) (k+1) (up+(1+d))):=HG.o.step (by omega) (by omega) (by omega) (by omega);go_wp2_with fail;refine (HP1.o _).mono ?_;rintro e w2 ⟨rfl,hw2⟩;subst hw2;go_wp2_with fail;refine (HP2.o _).mono ?_;rintro e w2 ⟨rfl,hw2⟩;subst hw2;have HBA:Hid (Below w.heap.size w (w2.alloc (.cells #[zI (up+(1+d)),zI (1+p)] 198))):=HB.o.alloc HB.o.size _;have HZA:Hid (Ld 198 (w2.alloc (.cells #[zI (up+(1+d)),zI (1+p)] 198)) w.heap.size V Z):=HZ.o.alloc _;have HCA:Hid ((w2.alloc (.cells #[zI (up+(1+d)),zI (1+p)] 198)).cell? ⟨w2.heap.size,0,none⟩=some (zI (up+(1+d)))∧(w2.alloc (.cells #[zI (up+(1+d)),zI (1+p)] 198)).cell? ⟨w2.heap.size,1,none⟩=some (zI (1+p))):=⟨(Blk.new w2 _ _).cell 0,(Blk.new w2 _ _).cell 1⟩
   go_wp2_with (first
    | (at_builtin;refine wp_pair stepT2 rfl _ _ rfl w.heap.size w2.heap.size V Z ⟨up+(1+d),1+p⟩ rfl rfl HZA.o HCA.o hzl HBA.o.size ?_)
    | fail)
   intro v3 w3 h3 hg3;have HB3:Hid (Below w.heap.size w w3):=own_bel HZA.o hg3 HBA.o (Nat.le_refl _) HBA.o.size;have H3:Hid (Ld 198 w3 w.heap.size v3 (Z++[⟨up+(1+d),1+p⟩])):=h3;clear h3 hg3 HZA HCA HBA HZ c0 c1;go_wp2_with fail;go_roundw
   case rel=>exact ⟨k+1,v3,_,_,by omega,by omega,by go_num,rfl,by first | rfl | trivial,HGN.o,H3.o,HB3.o⟩
   case measure=>simp [intOf];omega
  ·have HRT:Hid (∀ p,1≤p→p≤100000→Right (Z++[⟨10000000,p⟩])):=fun p p1 p2=>HG.o.right hk7 p1 p2;have hq:Int.tmod up 100000=up % 100000:=Int.tmod_eq_emod_of_nonneg hu0;have r0:0≤up % 100000:=by omega
   have r1:up % 100000<100000:=by omega
   generalize up % 100000=r at *;have HBA:Hid (Below w.heap.size w (wr.alloc (.cells #[zI 10000000,zI (1+r)] 198))):=HB.o.alloc HB.o.size _;have HZA:Hid (Ld 198 (wr.alloc (.cells #[zI 10000000,zI (1+r)] 198)) w.heap.size V Z):=HZ.o.alloc _;have HCA:Hid ((wr.alloc (.cells #[zI 10000000,zI (1+r)] 198)).cell? ⟨wr.heap.size,0,none⟩=some (zI 10000000)∧(wr.alloc (.cells #[zI 10000000,zI (1+r)] 198)).cell? ⟨wr.heap.size,1,none⟩=some (zI (1+r))):=⟨(Blk.new wr _ _).cell 0,(Blk.new wr _ _).cell 1⟩
   have HRR:Hid (Right (Z++[⟨10000000,1+r⟩])):=HRT.o _ (by omega) (by omega);clear hb HRT;by_cases hl1:k<len
   ·have hd1:decide ((k:Int)<(len:Int))=true:=by simp;omega
    obtain rfl:k=7:=by omega
    clear hlt hk7
    go_wp2_with (first
     | (at_builtin;refine wp_pair stepT2 rfl _ _ rfl w.heap.size wr.heap.size V Z ⟨10000000,1+r⟩ rfl rfl HZA.o HCA.o hzl HBA.o.size ?_)
     | fail)
    intro v3 w3 h3 hg3;have HB3:Hid (Below w.heap.size w w3):=own_bel HZA.o hg3 HBA.o (Nat.le_refl _) HBA.o.size;have H3:Hid (Ld 198 w3 w.heap.size v3 (Z++[⟨10000000,1+r⟩])):=h3;clear h3 hg3 HZA HCA HBA HZ;go_wp2_with fail;go_ret;exact ⟨v3,_,rfl,HRR.o,H3.o,HB3.o⟩
   ·have hd1:decide ((k:Int)<(len:Int))=false:=by simp;omega
    clear hlt
    go_wp2_with (first
     | (at_builtin;refine wp_pair stepT2 rfl _ _ rfl w.heap.size wr.heap.size V Z ⟨10000000,1+r⟩ rfl rfl HZA.o HCA.o hzl HBA.o.size ?_)
     | fail)
    intro v3 w3 h3 hg3;have HB3:Hid (Below w.heap.size w w3):=own_bel HZA.o hg3 HBA.o (Nat.le_refl _) HBA.o.size;have H3:Hid (Ld 198 w3 w.heap.size v3 (Z++[⟨10000000,1+r⟩])):=h3;clear h3 hg3 HZA HCA HBA HZ;go_wp2_with fail;go_ret;exact ⟨v3,_,rfl,HRR.o,H3.o,HB3.o⟩
end tar
namespace acc
open tar (Du du0 Came RowD Ld PairT)
open Go.RowKit
def MayPost (w:World) (x:Ac) (e:Ending) (w':World):Prop:=∃ r,e = .returned (.bool r)∧(r=true↔AMay x)∧Below w.heap.size w w'
theorem pmay (x:Ac) (p:Option Addr) (len cap:Nat) (w:World) (h:Came w p len cap x.ds):Calls Tryz.prog 159 #[.agg #[zI x.me,zI x.rv,zI x.nx,zI x.mo,zI x.bo,zI x.fr,.slice p len cap]] w fun e w'=>MayPost w x e w':=by
 have HI0:Hid (∀ W,Calls Tryz.prog 69 #[zI 0,zI 49,zI x.me] W fun e w'=>e = .returned (.bool (decide (0≤x.me∧x.me≤49)))∧w'=W):=fun W=>awithin 0 49 x.me W;have HI1:Hid (∀ W,Calls Tryz.prog 69 #[zI 0,zI 15,zI x.rv] W fun e w'=>e = .returned (.bool (decide (0≤x.rv∧x.rv≤15)))∧w'=W):=fun W=>awithin 0 15 x.rv W;have HI2:Hid (∀ W,Calls Tryz.prog 69 #[zI 1,zI 1048576,zI x.nx] W fun e w'=>e = .returned (.bool (decide (1≤x.nx∧x.nx≤1048576)))∧w'=W):=fun W=>awithin 1 1048576 x.nx W;have HI3:Hid (∀ W,Calls Tryz.prog 69 #[zI 0,zI 2399,zI x.mo] W fun e w'=>e = .returned (.bool (decide (0≤x.mo∧x.mo≤2399)))∧w'=W):=fun W=>awithin 0 2399 x.mo W;have HI4:Hid (∀ W,Calls Tryz.prog 69 #[zI 0,zI 10000000,zI x.bo] W fun e w'=>e = .returned (.bool (decide (0≤x.bo∧x.bo≤10000000)))∧w'=W):=fun W=>awithin 0 10000000 x.bo W;have HI5:Hid (∀ W,Calls Tryz.prog 69 #[zI (-1),zI x.mo,zI x.fr] W fun e w'=>e = .returned (.bool (decide (-1≤x.fr∧x.fr≤x.mo)))∧w'=W):=fun W=>awithin (-1) x.mo x.fr W;obtain ⟨WW,HWW,HBK,HBA,-⟩:=sh1 w #[zI x.me,zI x.rv,zI x.nx,zI x.mo,zI x.bo,zI x.fr,.slice p len cap] 51;have HTO:Hid (Calls Tryz.prog 184 #[.slice p len cap] WW fun e w'=>tar.TwoPost WW (deb.OwedIs x.ds) e w'):=deb.ktotal _ p len cap x.ds (h.below HBA.o);have c6:WW.cell? ⟨w.heap.size,6,none⟩=some (.slice p len cap):=HBK.o.cell 6;clear h;go_enter Tryz.func159,Tryz.ntmps159;go_upto_region 1 with fail
 rw [HWW.o];clear HWW;go_wp2_with fail;refine HTO.o.mono ?_;rintro e w1 ⟨tt,f,rfl,hf,hb1⟩;have HB1:=shB HBA hb1;have HK1:=shN HBK hb1;have HF:Hid (f=0↔deb.Mays x.ds):=hf.1.ok;clear hf hb1 HTO HBA HBK c6;obtain ⟨c0,c1,c2,c3,c4,c5,c6⟩:=scl7 HK1;by_cases h0:f=0
 ·have HM:Hid (deb.Mays x.ds):=HF.o.1 h0;subst h0;by_cases g0:0≤x.me∧x.me≤49
  ·rw [decide_eq_true g0] at HI0;go_wp2_with fail;refine (HI0.o _).mono ?_;rintro e w2 ⟨rfl,hw2⟩;subst w2;by_cases g1:0≤x.rv∧x.rv≤15
   ·rw [decide_eq_true g1] at HI1;go_wp2_with fail;refine (HI1.o _).mono ?_;rintro e w2 ⟨rfl,hw2⟩;subst w2;by_cases g2:1≤x.nx∧x.nx≤1048576
    ·rw [decide_eq_true g2] at HI2;go_wp2_with fail;refine (HI2.o _).mono ?_;rintro e w2 ⟨rfl,hw2⟩;subst w2;by_cases g3:0≤x.mo∧x.mo≤2399
     ·rw [decide_eq_true g3] at HI3;go_wp2_with fail;refine (HI3.o _).mono ?_;rintro e w2 ⟨rfl,hw2⟩;subst w2;by_cases g4:0≤x.bo∧x.bo≤10000000
      ·rw [decide_eq_true g4] at HI4;go_wp2_with fail;refine (HI4.o _).mono ?_;rintro e w2 ⟨rfl,hw2⟩;subst w2;by_cases g5:-1≤x.fr∧x.fr≤x.mo
       ·rw [decide_eq_true g5] at HI5;go_wp2_with fail;refine (HI5.o _).mono ?_;rintro e w2 ⟨rfl,hw2⟩;subst w2;have HY:Hid (AMay x):=⟨HM.o,g0,g1,g2,g3,g4,g5⟩
        go_wp2_with fail;go_ret;exact ⟨true,rfl,⟨fun _=>HY.o,fun _=>rfl⟩,HB1.o⟩
       ·rw [decide_eq_false g5] at HI5;have HN:Hid (¬ AMay x):=fun h=>g5 h.2.2.2.2.2.2;clear g5;go_wp2_with fail;refine (HI5.o _).mono ?_;rintro e w2 ⟨rfl,hw2⟩;subst w2;go_wp2_with fail
        all_goals first
         | (rename_i q1 q2;exact absurd q1 (by simp [undef]))
         | (go_ret;exact ⟨false,rfl,⟨fun h=>absurd h (by decide),fun h=>absurd h HN.o⟩,HB1.o⟩)
      ·rw [decide_eq_false g4] at HI4;have HN:Hid (¬ AMay x):=fun h=>g4 h.2.2.2.2.2.1;clear g4;go_wp2_with fail;refine (HI4.o _).mono ?_;rintro e w2 ⟨rfl,hw2⟩;subst w2;go_wp2_with fail
       all_goals first
        | (rename_i q1 q2;exact absurd q1 (by simp [undef]))
        | (go_ret;exact ⟨false,rfl,⟨fun h=>absurd h (by decide),fun h=>absurd h HN.o⟩,HB1.o⟩)
     ·rw [decide_eq_false g3] at HI3;have HN:Hid (¬ AMay x):=fun h=>g3 h.2.2.2.2.1;clear g3;go_wp2_with fail;refine (HI3.o _).mono ?_;rintro e w2 ⟨rfl,hw2⟩;subst w2;go_wp2_with fail
      all_goals first
       | (rename_i q1 q2;exact absurd q1 (by simp [undef]))
       | (go_ret;exact ⟨false,rfl,⟨fun h=>absurd h (by decide),fun h=>absurd h HN.o⟩,HB1.o⟩)
    ·rw [decide_eq_false g2] at HI2;have HN:Hid (¬ AMay x):=fun h=>g2 h.2.2.2.1;clear g2;go_wp2_with fail;refine (HI2.o _).mono ?_;rintro e w2 ⟨rfl,hw2⟩;subst w2;go_wp2_with fail
     all_goals first
      | (rename_i q1 q2;exact absurd q1 (by simp [undef]))
      | (go_ret;exact ⟨false,rfl,⟨fun h=>absurd h (by decide),fun h=>absurd h HN.o⟩,HB1.o⟩)
   ·rw [decide_eq_false g1] at HI1;have HN:Hid (¬ AMay x):=fun h=>g1 h.2.2.1;clear g1;go_wp2_with fail;refine (HI1.o _).mono ?_;rintro e w2 ⟨rfl,hw2⟩;subst w2;go_wp2_with fail
    all_goals first
     | (rename_i q1 q2;exact absurd q1 (by simp [undef]))
     | (go_ret;exact ⟨false,rfl,⟨fun h=>absurd h (by decide),fun h=>absurd h HN.o⟩,HB1.o⟩)
  ·rw [decide_eq_false g0] at HI0;have HN:Hid (¬ AMay x):=fun h=>g0 h.2.1;clear g0;go_wp2_with fail;refine (HI0.o _).mono ?_;rintro e w2 ⟨rfl,hw2⟩;subst w2;go_wp2_with fail
   all_goals first
    | (rename_i q1 q2;exact absurd q1 (by simp [undef]))
    | (go_ret;exact ⟨false,rfl,⟨fun h=>absurd h (by decide),fun h=>absurd h HN.o⟩,HB1.o⟩)
 ·have d0:(f == 0)=false:=by simpa using h0
  have HN:Hid (¬ AMay x):=fun h=>h0 (HF.o.2 h.1);clear h0;go_wp2_with fail
  all_goals first
   | (rename_i q1 q2;exact absurd q1 (by simp [undef]))
   | (go_ret;exact ⟨false,rfl,⟨fun h=>absurd h (by decide),fun h=>absurd h HN.o⟩,HB1.o⟩)
theorem wp_copyD {P:Program} {T S:TypeId} (hP:PairT P T S) {w:World} {ops:Array Oper} {rest:List Oper} {o:Oper} {a:Act} {Q:Exit→Act→World→Prop} (hgd:o.guard=none) (s x:Operand)
  (ho:o.op = .call { callee:= .builtin .append,args:=#[s,x],argTypes:=#[S,S] })
  (base:Nat) (p:Option Addr) (len cap:Nat) (zs:List Du) (hs:a.eval s=zS) (hx:a.eval x = .slice p len cap) (hc:Came w p len cap zs) (hbase:base≤w.heap.size)
  (h:∀ v' w',Ld T w' base v' zs→w.grownBy w' none→wpList P ops Q rest (a.put o.dst v') w'):wpList P ops Q (o :: rest) a w:=by
 cases p with
 | some A=>exact tar.wp_pairs hP hgd s x ho base A len cap zs hs hx hc.row hc.bytes hbase h
 | none=>
  have h0:=hc.nil rfl;have h1:len=0:=by have:=hc.room;omega
  have h2:zs=[]:=List.eq_nil_of_length_eq_zero (by have:=hc.row.1;omega);subst h0 h1 h2;have hu:=hP.under;have hi0:=hP.info;cases hq:P.info? T with
  | none=>rw [hq] at hi0;cases hi0
  | some i=>
   refine wpList_append_own_none hgd s x S ho base T i 2 hu hq (zS) 0 [] hs (World.ownsRow_nil _ _ _ _) hx ?_;exact h _ _ (tar.Ld.zero _ _ _) ⟨rfl,rfl,rfl,Nat.le_refl _,fun _ _ _=>rfl⟩
theorem pwork (F:Nat) (caps:Array Value) (Is:Ac→Bi→Int→Prop) (x:Ac) (p:Option Addr) (len cap:Nat) (w:World) (hc:Came w p len cap x.ds) (h5:¬ AMay x→Is ac0 bi0 5) (hK:∀ args w,(callFunc F args).run Tryz.prog w = .ok (.enter F args) w)
  (hf:AMay x→∀ (W:World) (g:Nat) (p':Option Addr) (cap':Nat),Below w.heap.size w W→w.heap.size≤g→Blk W g (wcs x bi0 p' len cap') 252→Ld 70 W (g+1) (.slice p' len cap') x.ds→Calls Tryz.prog F (#[.pointer (some ⟨g,0,none⟩)]++caps) W fun e w'=>WPost W g (Or0 Is) e w') :
  Calls Tryz.prog 117 #[.agg #[zI x.me,zI x.rv,zI x.nx,zI x.mo,zI x.bo,zI x.fr,.slice p len cap],.func (.func F) #[] caps] w fun e w'=>BPost w Is e w':=by
 have HFU:Hid (AMay x→∀ (W:World) (g:Nat) (p':Option Addr) (cap':Nat),Below w.heap.size w W→w.heap.size≤g→Blk W g (wcs x bi0 p' len cap') 252→Ld 70 W (g+1) (.slice p' len cap') x.ds→Calls Tryz.prog F (#[.pointer (some ⟨g,0,none⟩)]++caps) W fun e w'=>WPost W g (Or0 Is) e w'):=hf;have HLEN:Hid (x.ds.length=len):=hc.row.1;have H5:Hid (¬ AMay x→Is ac0 bi0 5):=h5;clear hf h5;obtain ⟨W0,HWW,H0d,H0r,H0l,H0B,hs0⟩:=sh3 w #[zI x.me,zI x.rv,zI x.nx,zI x.mo,zI x.bo,zI x.fr,.slice p len cap] 51 #[zI 0,zI 0,zI 0,zI 0,zI 0,zI 0,zS] 51 #[zI 0,zI 0,zI 0,zI 0,zI 0,zI 0,zI 0] 68;have H0R:Hid (Came W0 p len cap x.ds):=hc.below H0B.o;go_enter Tryz.func117,Tryz.ntmps117;go_upto_region 1 with fail
 rw [HWW.o];clear HWW;clear hc;have HPM:Hid (Calls Tryz.prog 159 #[.agg #[zI x.me,zI x.rv,zI x.nx,zI x.mo,zI x.bo,zI x.fr,.slice p len cap]] W0 fun e w'=>MayPost W0 x e w'):=pmay x p len cap W0 H0R.o
 go_wp2_with (first
  | (refine zqw rfl rfl rfl H0d zqu51 ?_)
  | (refine zqw rfl rfl rfl H0r zqu51 ?_)
  | (refine zqw rfl rfl rfl H0l zqu68 ?_)
  | fail)
 refine HPM.o.mono ?_;rintro e w1 ⟨r,rfl,hr,hb1⟩;have H1d:=shN H0d hb1;have H1r:=shN H0r hb1;have H1l:=shN H0l hb1;have H1R:Hid (Came w1 p len cap x.ds):=H0R.o.below hb1;have H1B:=shB H0B hb1;have hsw1:W0.heap.size≤w1.heap.size:=hb1.size;clear hb1 H0d H0r H0l H0R H0B;clear HPM;cases r with
 | false=>
  have HV:Hid (Is ac0 bi0 5):=H5.o fun h=>Bool.noConfusion (hr.2 h);clear hr H5 HFU hK
  go_wp2_with (first
   | (refine zql rfl rfl rfl rfl zqu51 (by simp [Value.oneCell']) H1r rfl ?_)
   | (refine zqw rfl rfl rfl H1d zqu51 ?_)
   | (refine zqw rfl rfl rfl H1r zqu51 ?_)
   | (refine zqw rfl rfl rfl H1l zqu68 ?_)
   | fail)
  intro w1a hU;have H2d:=shK hU H1d (by omega);have H2r:Hid (Blk w1a (w.heap.size+1) #[zI 0,zI 0,zI 0,zI 0,zI 0,zI 0,zS] 51):=hU.blk;have H2l:=shK hU H1l (by omega);have H2B:=shV hU H1B (by omega);have hsw1a:w1a.heap.size=w1.heap.size:=hU.size;clear hU H1d H1r H1l H1R H1B
  go_wp2_with (first
   | (refine zql rfl rfl rfl rfl zqu68 (by simp [Value.oneCell']) H2l rfl ?_)
   | (refine zqw rfl rfl rfl H2d zqu51 ?_)
   | (refine zqw rfl rfl rfl H2r zqu51 ?_)
   | (refine zqw rfl rfl rfl H2l zqu68 ?_)
   | fail)
  intro w1ab hU;have H3d:=shK hU H2d (by omega);have H3r:=shK hU H2r (by omega);have H3l:Hid (Blk w1ab (w.heap.size+1+1) #[zI 0,zI 0,zI 0,zI 0,zI 0,zI 0,zI 0] 68):=hU.blk;have H3B:=shV hU H2B (by omega);have hsw1ab:w1ab.heap.size=w1a.heap.size:=hU.size;clear hU H2d H2r H2l H2B;obtain ⟨Rr0,Rr1,Rr2,Rr3,Rr4,Rr5,Rr6⟩:=shc7 H3r;obtain ⟨Rl0,Rl1,Rl2,Rl3,Rl4,Rl5,Rl6⟩:=shc7 H3l;go_wp2_with fail;exact bodyPost_ret (v:= .tuple #[.agg #[zI 0,zI 0,zI 0,zI 0,zI 0,zI 0,zS],.agg #[zI 0,zI 0,zI 0,zI 0,zI 0,zI 0,zI 0],zI 5]) (by simp [results,Tryz.results117,Rr0.o,Rr1.o,Rr2.o,Rr3.o,Rr4.o,Rr5.o,Rr6.o,Rl0.o,Rl1.o,Rl2.o,Rl3.o,Rl4.o,Rl5.o,Rl6.o,go_sem]) rfl ⟨ac0,bi0,none,0,0,_,rfl,HV.o,deb.fresh_nil _ _,H3B.o⟩
 | true=>
  have HM:Hid (AMay x):=hr.1 rfl;clear hr H5;have HSV:Hid (Blk w1 (w.heap.size) #[zI x.me,zI x.rv,zI x.nx,zI x.mo,zI x.bo,zI x.fr,.slice p len cap] 51):=H1d.o;have H2d:Hid (Blk (w1.alloc (.cells #[zI x.me,zI x.rv,zI x.nx,zI x.mo,zI x.bo,zI x.fr,.slice p len cap,zI 0,zI 0,zI 0,zI 0,zI 0,zI 0,zI 0] 252)) (w.heap.size) #[zI x.me,zI x.rv,zI x.nx,zI x.mo,zI x.bo,zI x.fr,.slice p len cap] 51):=H1d.o.alloc _;have H2r:Hid (Blk (w1.alloc (.cells #[zI x.me,zI x.rv,zI x.nx,zI x.mo,zI x.bo,zI x.fr,.slice p len cap,zI 0,zI 0,zI 0,zI 0,zI 0,zI 0,zI 0] 252)) (w.heap.size+1) #[zI 0,zI 0,zI 0,zI 0,zI 0,zI 0,zS] 51):=H1r.o.alloc _;have H2l:Hid (Blk (w1.alloc (.cells #[zI x.me,zI x.rv,zI x.nx,zI x.mo,zI x.bo,zI x.fr,.slice p len cap,zI 0,zI 0,zI 0,zI 0,zI 0,zI 0,zI 0] 252)) (w.heap.size+1+1) #[zI 0,zI 0,zI 0,zI 0,zI 0,zI 0,zI 0] 68):=H1l.o.alloc _;have H2R:Hid (Came (w1.alloc (.cells #[zI x.me,zI x.rv,zI x.nx,zI x.mo,zI x.bo,zI x.fr,.slice p len cap,zI 0,zI 0,zI 0,zI 0,zI 0,zI 0,zI 0] 252)) p len cap x.ds):=H1R.o.below ((Below.refl _ _).alloc (Nat.le_refl _) _);have H2n:Hid (Blk (w1.alloc (.cells #[zI x.me,zI x.rv,zI x.nx,zI x.mo,zI x.bo,zI x.fr,.slice p len cap,zI 0,zI 0,zI 0,zI 0,zI 0,zI 0,zI 0] 252)) (w1.heap.size) #[zI x.me,zI x.rv,zI x.nx,zI x.mo,zI x.bo,zI x.fr,.slice p len cap,zI 0,zI 0,zI 0,zI 0,zI 0,zI 0,zI 0] 252):=Blk.new w1 _ _;have H2B:Hid (Below w.heap.size w (w1.alloc (.cells #[zI x.me,zI x.rv,zI x.nx,zI x.mo,zI x.bo,zI x.fr,.slice p len cap,zI 0,zI 0,zI 0,zI 0,zI 0,zI 0,zI 0] 252))):=H1B.o.alloc H1B.o.size _;have hsW2:(w1.alloc (.cells #[zI x.me,zI x.rv,zI x.nx,zI x.mo,zI x.bo,zI x.fr,.slice p len cap,zI 0,zI 0,zI 0,zI 0,zI 0,zI 0,zI 0] 252)).heap.size=w1.heap.size+1:=by simp
  clear H1d H1r H1l H1R H1B;go_upto_region 4 with (first | (refine zqw rfl rfl rfl HSV zqu51 ?_) | fail)
  generalize (w1.alloc (.cells #[zI x.me,zI x.rv,zI x.nx,zI x.mo,zI x.bo,zI x.fr,.slice p len cap,zI 0,zI 0,zI 0,zI 0,zI 0,zI 0,zI 0] 252))=W2 at *;clear HSV;have qd6:W2.cell? ⟨w.heap.size,6,none⟩=some (.slice p len cap):=H2d.o.cell 6
  go_wp2_with (first
   | (at_builtin;refine wp_copyD deb.debtT rfl _ _ rfl (w1.heap.size+1) p len cap x.ds rfl rfl H2R.o (by omega) ?_)
   | (refine zqw rfl rfl rfl H2d zqu51 ?_)
   | (refine zqw rfl rfl rfl H2r zqu51 ?_)
   | (refine zqw rfl rfl rfl H2l zqu68 ?_)
   | (refine zqw rfl rfl rfl H2n zqu252 ?_)
   | fail)
  intro v3 w3 hl3 hg3;have hb3:Below W2.heap.size W2 w3:=(Below.refl _ _).grown hg3 (Nat.le_refl _) (fun k hk=>by cases hk);obtain ⟨p3,cap3,hv3,hf3⟩:=deb.ld_fresh hl3 HM.o.1;rw [HLEN.o] at hv3 hf3;subst hv3;have H3d:=shN H2d hb3;have H3r:=shN H2r hb3;have H3l:=shN H2l hb3;have H3n:=shN H2n hb3;have H3B:=shB H2B hb3;have HL3:Hid (Ld 70 w3 (w1.heap.size+1) (.slice p3 len cap3) x.ds):=hl3;have hsw3:W2.heap.size≤w3.heap.size:=hb3.size;clear hl3 hg3 hb3 hf3 qd6 H2d H2r H2l H2n H2B
  go_wp2_with (first
   | (refine wp_letS rfl 49 _ _ rfl (w1.heap.size) 6 rfl p3 len cap3 rfl (by kernel_rfl) #[zI x.me,zI x.rv,zI x.nx,zI x.mo,zI x.bo,zI x.fr,.slice p len cap,zI 0,zI 0,zI 0,zI 0,zI 0,zI 0,zI 0] 252 H3n.o (by simp) ?_)
   | (refine zqw rfl rfl rfl H3d zqu51 ?_)
   | (refine zqw rfl rfl rfl H3r zqu51 ?_)
   | (refine zqw rfl rfl rfl H3l zqu68 ?_)
   | (refine zqw rfl rfl rfl H3n zqu252 ?_)
   | fail)
  intro W4 hU;have H4d:=shK hU H3d (by omega);have H4r:=shK hU H3r (by omega);have H4l:=shK hU H3l (by omega);have H4n:Hid (Blk W4 (w1.heap.size) #[zI x.me,zI x.rv,zI x.nx,zI x.mo,zI x.bo,zI x.fr,.slice p3 len cap3,zI 0,zI 0,zI 0,zI 0,zI 0,zI 0,zI 0] 252):=hU.blk;have H4B:=shV hU H3B (by omega);have HL4:Hid (Ld 70 W4 (w1.heap.size+1) (.slice p3 len cap3) x.ds):=ld_upd HL3.o hU (by omega);have HCA:Hid (Calls Tryz.prog F (#[.pointer (some ⟨w1.heap.size,0,none⟩)]++caps) W4 fun e w'=>WPost W4 w1.heap.size (Or0 Is) e w'):=HFU.o HM.o W4 w1.heap.size p3 cap3 H4B.o (by omega) H4n.o HL4.o;have hsW4:W4.heap.size=w3.heap.size:=hU.size;clear hU HL3 HL4 HFU H3d H3r H3l H3n H3B;go_wp2_with fail;refine HCA.o.mono ?_;rintro e w5 ⟨y,b,q,n,c,f,rfl,hor,hi5,hf5,hb5⟩;have H5d:Hid (Blk w5 (w.heap.size) #[zI x.me,zI x.rv,zI x.nx,zI x.mo,zI x.bo,zI x.fr,.slice p len cap] 51):=H4d.o.below hb5 (by omega);have H5r:Hid (Blk w5 (w.heap.size+1) #[zI 0,zI 0,zI 0,zI 0,zI 0,zI 0,zS] 51):=H4r.o.below hb5 (by omega);have H5l:Hid (Blk w5 (w.heap.size+1+1) #[zI 0,zI 0,zI 0,zI 0,zI 0,zI 0,zI 0] 68):=H4l.o.below hb5 (by omega);have H5n:Hid (Blk w5 (w1.heap.size) #[zI y.me,zI y.rv,zI y.nx,zI y.mo,zI y.bo,zI y.fr,.slice q n c,zI b.id,zI b.te,zI b.de,zI b.fe,zI b.pr,zI b.ch,zI b.un] 252):=hi5;have H5B:Hid (Below w.heap.size w w5):=H4B.o.trans (hb5.mono (by omega));have hsw5:W4.heap.size≤w5.heap.size:=hb5.size;have H6F:Hid (deb.Fresh w5 (w1.heap.size+1) q n c y.ds):=hf5;have HUPF:Hid (0<n→∀ y,q=some y→y.block<w5.heap.size):=came_lt H6F.o.came;have HOR:Hid (Or0 Is y b f):=hor;clear hor hi5 hf5 hb5 HCA hK H4d H4r H4l H4n H4B;by_cases h0:f=0
  ·subst h0
   have HV:Hid (Is y b 0):=by
    rcases HOR.o with ⟨h,_⟩ | ⟨_,h⟩
    ·exact absurd rfl h
    ·exact h
   clear HOR;go_wp2_with fail;refine wp_region_held_drew (S:=fun v=>Blk v (w1.heap.size) #[zI y.me,zI y.rv,zI y.nx,zI y.mo,zI y.bo,zI y.fr,.slice q n c,zI b.id,zI b.te,zI b.de,zI b.fe,zI b.pr,zI b.ch,zI b.un] 252) (by kernel_rfl) (Blk.drew H5n.o 1) (fun hHeld=>?_);refine zqs 0 28 (.pointer (some ⟨w1.heap.size,0,none⟩)) rfl rfl (by kernel_rfl) zid rfl (fun v hv=>by clear hv;go_simp) hHeld ?_;simp only [zq];refine zqt 1 29 (.agg #[zI y.me,zI y.rv,zI y.nx,zI y.mo,zI y.bo,zI y.fr,.slice q n c]) rfl rfl (by kernel_rfl) zid (Or.inl ⟨by rfl,fun v hv=>by have g0:=hv.cell 0;have g1:=hv.cell 1;have g2:=hv.cell 2;have g3:=hv.cell 3;have g4:=hv.cell 4;have g5:=hv.cell 5;have g6:=hv.cell 6;clear hv;go_simp⟩) hHeld ?_;simp only [zq];refine zqs 2 30 (.pointer (some ⟨w1.heap.size,7,none⟩)) rfl rfl (by kernel_rfl) zid rfl (fun v hv=>by clear hv;go_simp) hHeld ?_;simp only [zq];refine zqt 3 31 (.agg #[zI b.id,zI b.te,zI b.de,zI b.fe,zI b.pr,zI b.ch,zI b.un]) rfl rfl (by kernel_rfl) zid (Or.inl ⟨by rfl,fun v hv=>by have g0:=hv.cell 7;have g1:=hv.cell 8;have g2:=hv.cell 9;have g3:=hv.cell 10;have g4:=hv.cell 11;have g5:=hv.cell 12;have g6:=hv.cell 13;clear hv;go_simp⟩) hHeld ?_;simp only [zq];refine zqo 4 (by kernel_rfl) rfl (fun K hK=>?_);rw [if_pos (by rfl)];refine wp_letOp 51 _ _ rfl (w.heap.size+1) rfl #[zI y.me,zI y.rv,zI y.nx,zI y.mo,zI y.bo,zI y.fr,.slice q n c] rfl (by kernel_rfl) (by simp [Value.oneCell']) #[zI 0,zI 0,zI 0,zI 0,zI 0,zI 0,zS] 51 (Blk.drew H5r.o 1) rfl rfl ?_;intro V1 hU;have H7d:Hid (Blk V1 (w.heap.size) #[zI x.me,zI x.rv,zI x.nx,zI x.mo,zI x.bo,zI x.fr,.slice p len cap] 51):=hU.keep (Blk.drew H5d.o 1) (by omega);have H7r:Hid (Blk V1 (w.heap.size+1) #[zI y.me,zI y.rv,zI y.nx,zI y.mo,zI y.bo,zI y.fr,.slice q n c] 51):=hU.blk;have H7l:Hid (Blk V1 (w.heap.size+1+1) #[zI 0,zI 0,zI 0,zI 0,zI 0,zI 0,zI 0] 68):=hU.keep (Blk.drew H5l.o 1) (by omega)
   have H7n:Hid (Blk V1 (w1.heap.size) #[zI y.me,zI y.rv,zI y.nx,zI y.mo,zI y.bo,zI y.fr,.slice q n c,zI b.id,zI b.te,zI b.de,zI b.fe,zI b.pr,zI b.ch,zI b.un] 252):=hU.keep (Blk.drew H5n.o 1) (by omega);have H7F:Hid (deb.Fresh V1 (w1.heap.size+1) q n c y.ds):=fresh_updN (fresh_drew H6F.o) hU (fun hn y hy=>by have f1:=H6F.o.new hn y hy;have f2:=HUPF.o hn y hy;omega);have H7B:Hid (Below w.heap.size w V1):=hU.bel _ _ (by omega) H5B.o.drew;clear hU H5d H5r H5l H5n H6F H5B;refine hK.o _ _ H7n.o (fun hHeld=>?_);clear hK K;refine zqo 5 (by kernel_rfl) rfl (fun K hK=>?_);rw [if_pos (by rfl)];refine wp_letOp 68 _ _ rfl (w.heap.size+1+1) rfl #[zI b.id,zI b.te,zI b.de,zI b.fe,zI b.pr,zI b.ch,zI b.un] rfl (by kernel_rfl) (by simp [Value.oneCell']) #[zI 0,zI 0,zI 0,zI 0,zI 0,zI 0,zI 0] 68 H7l.o rfl rfl ?_;intro V2 hU;have H8d:=shK hU H7d (by omega);have H8r:=shK hU H7r (by omega);have H8l:Hid (Blk V2 (w.heap.size+1+1) #[zI b.id,zI b.te,zI b.de,zI b.fe,zI b.pr,zI b.ch,zI b.un] 68):=hU.blk;have H8n:=shK hU H7n (by omega);have H8F:Hid (deb.Fresh V2 (w1.heap.size+1) q n c y.ds):=fresh_updN H7F.o hU (fun hn y hy=>by have f1:=H7F.o.new hn y hy;have f2:=HUPF.o hn y hy;omega);have H8B:=shV hU H7B (by omega);clear hU H7d H7r H7l H7n H7F H7B;refine hK.o _ _ H8n.o (fun hHeld=>?_);clear hK K;refine zqs 6 6 (zI 0) rfl rfl (by kernel_rfl) zid rfl (fun v hv=>by clear hv;go_simp) hHeld ?_;simp only [zq];refine wpAnyH_done (by kernel_rfl) ?_ _;clear hHeld;have Rr0:Hid (V2.cell? ⟨w.heap.size+1,0,none⟩=some (zI y.me)):=H8r.o.cell 0;have Rr1:Hid (V2.cell? ⟨w.heap.size+1,1,none⟩=some (zI y.rv)):=H8r.o.cell 1;have Rr2:Hid (V2.cell? ⟨w.heap.size+1,2,none⟩=some (zI y.nx)):=H8r.o.cell 2;have Rr3:Hid (V2.cell? ⟨w.heap.size+1,3,none⟩=some (zI y.mo)):=H8r.o.cell 3;have Rr4:Hid (V2.cell? ⟨w.heap.size+1,4,none⟩=some (zI y.bo)):=H8r.o.cell 4;have Rr5:Hid (V2.cell? ⟨w.heap.size+1,5,none⟩=some (zI y.fr)):=H8r.o.cell 5
   have Rr6:Hid (V2.cell? ⟨w.heap.size+1,6,none⟩=some (.slice q n c)):=H8r.o.cell 6;have Rl0:Hid (V2.cell? ⟨w.heap.size+1+1,0,none⟩=some (zI b.id)):=H8l.o.cell 0;have Rl1:Hid (V2.cell? ⟨w.heap.size+1+1,1,none⟩=some (zI b.te)):=H8l.o.cell 1;have Rl2:Hid (V2.cell? ⟨w.heap.size+1+1,2,none⟩=some (zI b.de)):=H8l.o.cell 2;have Rl3:Hid (V2.cell? ⟨w.heap.size+1+1,3,none⟩=some (zI b.fe)):=H8l.o.cell 3;have Rl4:Hid (V2.cell? ⟨w.heap.size+1+1,4,none⟩=some (zI b.pr)):=H8l.o.cell 4;have Rl5:Hid (V2.cell? ⟨w.heap.size+1+1,5,none⟩=some (zI b.ch)):=H8l.o.cell 5;have Rl6:Hid (V2.cell? ⟨w.heap.size+1+1,6,none⟩=some (zI b.un)):=H8l.o.cell 6;go_wp2_with fail;exact bodyPost_ret (v:= .tuple #[.agg #[zI y.me,zI y.rv,zI y.nx,zI y.mo,zI y.bo,zI y.fr,.slice q n c],.agg #[zI b.id,zI b.te,zI b.de,zI b.fe,zI b.pr,zI b.ch,zI b.un],zI 0]) (by simp [results,Tryz.results117,Rr0.o,Rr1.o,Rr2.o,Rr3.o,Rr4.o,Rr5.o,Rr6.o,Rl0.o,Rl1.o,Rl2.o,Rl3.o,Rl4.o,Rl5.o,Rl6.o,go_sem]) rfl ⟨y,b,q,n,c,0,rfl,HV.o,H8F.o.low (by omega),H8B.o⟩
  ·have d0:(f != 0)=true:=by simpa using h0
   have HV:Hid (Is ac0 bi0 f):=by
    rcases HOR.o with ⟨_,h⟩ | ⟨h,_⟩
    ·exact h
    ·exact absurd h h0
   clear HOR h0
   go_wp2_with (first
    | (refine zql rfl rfl rfl rfl zqu51 (by simp [Value.oneCell']) H5r rfl ?_)
    | (refine zqw rfl rfl rfl H5d zqu51 ?_)
    | (refine zqw rfl rfl rfl H5r zqu51 ?_)
    | (refine zqw rfl rfl rfl H5l zqu68 ?_)
    | (refine zqw rfl rfl rfl H5n zqu252 ?_)
    | fail)
   intro w5a hU;have H7d:=shK hU H5d (by omega);have H7r:Hid (Blk w5a (w.heap.size+1) #[zI 0,zI 0,zI 0,zI 0,zI 0,zI 0,zS] 51):=hU.blk;have H7l:=shK hU H5l (by omega);have H7n:=shK hU H5n (by omega);have H7B:=shV hU H5B (by omega);have hsw5a:w5a.heap.size=w5.heap.size:=hU.size;clear hU H5d H5r H5l H5n H5B
   go_wp2_with (first
    | (refine zql rfl rfl rfl rfl zqu68 (by simp [Value.oneCell']) H7l rfl ?_)
    | (refine zqw rfl rfl rfl H7d zqu51 ?_)
    | (refine zqw rfl rfl rfl H7r zqu51 ?_)
    | (refine zqw rfl rfl rfl H7l zqu68 ?_)
    | (refine zqw rfl rfl rfl H7n zqu252 ?_)
    | fail)
   intro w5ab hU;have H8d:=shK hU H7d (by omega);have H8r:=shK hU H7r (by omega);have H8l:Hid (Blk w5ab (w.heap.size+1+1) #[zI 0,zI 0,zI 0,zI 0,zI 0,zI 0,zI 0] 68):=hU.blk;have H8n:=shK hU H7n (by omega);have H8B:=shV hU H7B (by omega);have hsw5ab:w5ab.heap.size=w5a.heap.size:=hU.size;clear hU H7d H7r H7l H7n H7B;obtain ⟨Rr0,Rr1,Rr2,Rr3,Rr4,Rr5,Rr6⟩:=shc7 H8r;obtain ⟨Rl0,Rl1,Rl2,Rl3,Rl4,Rl5,Rl6⟩:=shc7 H8l;go_wp2_with fail;exact bodyPost_ret (v:= .tuple #[.agg #[zI 0,zI 0,zI 0,zI 0,zI 0,zI 0,zS],.agg #[zI 0,zI 0,zI 0,zI 0,zI 0,zI 0,zI 0],zI f]) (by simp [results,Tryz.results117,Rr0.o,Rr1.o,Rr2.o,Rr3.o,Rr4.o,Rr5.o,Rr6.o,Rl0.o,Rl1.o,Rl2.o,Rl3.o,Rl4.o,Rl5.o,Rl6.o,go_sem]) rfl ⟨ac0,bi0,none,0,0,_,rfl,HV.o,deb.fresh_nil _ _,H8B.o⟩
end acc
end Go.Proofs.YtnpblpbohcegoaaGreatDoor
