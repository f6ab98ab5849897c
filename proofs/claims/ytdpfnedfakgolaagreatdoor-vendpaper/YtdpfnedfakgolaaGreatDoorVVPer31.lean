import Derived.Test.YtdpfnedfakgolaaGreatDoorVVPer26
import Derived.Test.YtdpfnedfakgolaaGreatDoorVVPer30
set_option linter.unusedVariables false
set_option linter.unusedSimpArgs false
set_option maxHeartbeats 4000000
set_option maxRecDepth 100000
namespace Go.Proofs.YtdpfnedfakgolaaGreatDoor
namespace tar
open check (pick picked_any pick_nonneg pick_lt)
open Go.RowKit
theorem stepT2:PairT Tryz.prog 170 28:=⟨by kernel_rfl,Tryz.underlying28⟩
def GaveT (w:World) (e:Ending) (w':World):Prop:=∃ v ls,e = .returned v∧Right ls∧Ld 170 w' w.heap.size v ls∧Below w.heap.size w w'
theorem stepped_any (a:Option Addr) (len cap:Nat) (rs:List Du) (w:World) (h:Came w a len cap rs):Calls Tryz.prog 42 #[.slice a len cap] w fun e w'=>GaveT w e w':=by
 have HM:Hid (Came w a len cap rs):=h;have hlm:len≤9223372036854775807:=by have:=h.bytes;omega
 clear h;go_enter Tryz.func42,Tryz.ntmps42;go_wp2_with fail;go_loopw [3,4,5] (fun u v z wr=>∃ (k:Nat) (V:Value) (Z:List Du) (up:Int),k≤len∧k≤7∧z=zI (k:Int)∧v=zI up∧V=u∧Grow Z k up∧Ld 170 wr w.heap.size V Z∧Below w.heap.size w wr) (fun _ _ z _=>7 - (intOf z).toNat)
 case atStart=>exact ⟨0,_,[],0,Nat.zero_le _,by decide,rfl,rfl,rfl,Grow.zero,Ld.zero _ _ _,Below.refl _ _⟩
 case round=>
  obtain ⟨k,V,Z,up,hk,hk7,rfl,rfl,hV,hg,hZ,hb⟩:=hrel;subst hV;have HB:Hid (Below w.heap.size w wr):=hb;have HZ:Hid (Ld 170 wr w.heap.size V Z):=hZ;have HG:Hid (Grow Z k up):=hg;have hu0:=hg.low;have hu1:=hg.top;have hzl:Z.length≤1000000:=by rw [hg.len];omega
  clear hZ hg;by_cases hlt:k<len∧k<7
  ·obtain ⟨hl1,hl2⟩:=hlt;have hd1:decide ((k:Int)<(len:Int))=true:=by simp;omega
   have hd2:decide ((k:Int)<7)=true:=by simp;omega
   obtain ⟨b,off,rfl,hbl,hc⟩:=HM.o.row.at (by omega)
   have hw1:=(HM.o.wf (rs.getD k du0) (by
    have:k<rs.length:=by rw [HM.o.row.1];exact hl1
    simp [List.getD,List.getElem?_eq_getElem this]))
   have c0:wr.cell? ⟨b,off+k*2,none⟩=some (zI (rs.getD k du0).a):=(hb.cell (p:=⟨b,off+k*2,none⟩) hbl).trans (hc k hl1).1;have c1:wr.cell? ⟨b,off+k*2+1,none⟩=some (zI (rs.getD k du0).b):=(hb.cell (p:=⟨b,off+k*2+1,none⟩) hbl).trans (hc k hl1).2;have HP1:Hid (∀ W,Calls Tryz.prog 7 #[zI (rs.getD k du0).a,zI 1000000] W fun e w'=>e = .returned (zI (pick (rs.getD k du0).a 1000000))∧w'=W):=fun W=>picked_any _ _ W hw1.1 (by decide) (by decide);have HP2:Hid (∀ W,Calls Tryz.prog 7 #[zI (rs.getD k du0).b,zI 100000] W fun e w'=>e = .returned (zI (pick (rs.getD k du0).b 100000))∧w'=W):=fun W=>picked_any _ _ W hw1.2 (by decide) (by decide);have q1:=pick_nonneg (rs.getD k du0).a 1000000 (by decide);have q2:=pick_lt (rs.getD k du0).a 1000000 (by decide);have q3:=pick_nonneg (rs.getD k du0).b 100000 (by decide);have q4:=pick_lt (rs.getD k du0).b 100000 (by decide);clear hc hb hw1;generalize pick (rs.getD k du0).a 1000000=d at *;generalize pick (rs.getD k du0).b 100000=p at *;generalize (rs.getD k du0).a=x at *;generalize (rs.getD k du0).b=y at *;have HGN:Hid (Grow (Z++[⟨up+(1+d),1+p⟩]) (k+1) (up+(1+d))):=HG.o.step (by omega) (by omega) (by omega) (by omega);go_wp2_with fail;refine (HP1.o _).mono ?_;rintro e w2 ⟨rfl,hw2⟩;subst hw2;go_wp2_with fail;refine (HP2.o _).mono ?_;rintro e w2 ⟨rfl,hw2⟩;subst hw2;have HBA:Hid (Below w.heap.size w (w2.alloc (.cells #[zI (up+(1+d)),zI (1+p)] 170))):=HB.o.alloc HB.o.size _;have HZA:Hid (Ld 170 (w2.alloc (.cells #[zI (up+(1+d)),zI (1+p)] 170)) w.heap.size V Z):=HZ.o.alloc _;have HCA:Hid ((w2.alloc (.cells #[zI (up+(1+d)),zI (1+p)] 170)).cell? ⟨w2.heap.size,0,none⟩=some (zI (up+(1+d)))∧(w2.alloc (.cells #[zI (up+(1+d)),zI (1+p)] 170)).cell? ⟨w2.heap.size,1,none⟩=some (zI (1+p))):=⟨(Blk.new w2 _ _).cell 0,(Blk.new w2 _ _).cell 1⟩
   go_wp2_with (first
    | (at_builtin;refine wp_pair stepT2 rfl _ _ rfl w.heap.size w2.heap.size V Z ⟨up+(1+d),1+p⟩ rfl rfl HZA.o HCA.o hzl HBA.o.size ?_)
    | fail)
   intro v3 w3 h3 hg3;have HB3:Hid (Below w.heap.size w w3):=own_bel HZA.o hg3 HBA.o (Nat.le_refl _) HBA.o.size;have H3:Hid (Ld 170 w3 w.heap.size v3 (Z++[⟨up+(1+d),1+p⟩])):=h3;clear h3 hg3 HZA HCA HBA HZ c0 c1;go_wp2_with fail;go_roundw
   case rel=>exact ⟨k+1,v3,_,_,by omega,by omega,by go_num,rfl,by first | rfl | trivial,HGN.o,H3.o,HB3.o⟩
   case measure=>simp [intOf];omega
  ·have HRT:Hid (∀ p,1≤p→p≤100000→Right (Z++[⟨10000000,p⟩])):=fun p p1 p2=>HG.o.right hk7 p1 p2;have hq:Int.tmod up 100000=up % 100000:=Int.tmod_eq_emod_of_nonneg hu0;have r0:0≤up % 100000:=by omega
   have r1:up % 100000<100000:=by omega
   generalize up % 100000=r at *;have HBA:Hid (Below w.heap.size w (wr.alloc (.cells #[zI 10000000,zI (1+r)] 170))):=HB.o.alloc HB.o.size _;have HZA:Hid (Ld 170 (wr.alloc (.cells #[zI 10000000,zI (1+r)] 170)) w.heap.size V Z):=HZ.o.alloc _;have HCA:Hid ((wr.alloc (.cells #[zI 10000000,zI (1+r)] 170)).cell? ⟨wr.heap.size,0,none⟩=some (zI 10000000)∧(wr.alloc (.cells #[zI 10000000,zI (1+r)] 170)).cell? ⟨wr.heap.size,1,none⟩=some (zI (1+r))):=⟨(Blk.new wr _ _).cell 0,(Blk.new wr _ _).cell 1⟩
   have HRR:Hid (Right (Z++[⟨10000000,1+r⟩])):=HRT.o _ (by omega) (by omega);clear hb HRT;by_cases hl1:k<len
   ·have hd1:decide ((k:Int)<(len:Int))=true:=by simp;omega
    obtain rfl:k=7:=by omega
    clear hlt hk7
    go_wp2_with (first
     | (at_builtin;refine wp_pair stepT2 rfl _ _ rfl w.heap.size wr.heap.size V Z ⟨10000000,1+r⟩ rfl rfl HZA.o HCA.o hzl HBA.o.size ?_)
     | fail)
    intro v3 w3 h3 hg3;have HB3:Hid (Below w.heap.size w w3):=own_bel HZA.o hg3 HBA.o (Nat.le_refl _) HBA.o.size;have H3:Hid (Ld 170 w3 w.heap.size v3 (Z++[⟨10000000,1+r⟩])):=h3;clear h3 hg3 HZA HCA HBA HZ;go_wp2_with fail;go_ret;exact ⟨v3,_,rfl,HRR.o,H3.o,HB3.o⟩
   ·have hd1:decide ((k:Int)<(len:Int))=false:=by simp;omega
    clear hlt
    go_wp2_with (first
     | (at_builtin;refine wp_pair stepT2 rfl _ _ rfl w.heap.size wr.heap.size V Z ⟨10000000,1+r⟩ rfl rfl HZA.o HCA.o hzl HBA.o.size ?_)
     | fail)
    intro v3 w3 h3 hg3;have HB3:Hid (Below w.heap.size w w3):=own_bel HZA.o hg3 HBA.o (Nat.le_refl _) HBA.o.size;have H3:Hid (Ld 170 w3 w.heap.size v3 (Z++[⟨10000000,1+r⟩])):=h3;clear h3 hg3 HZA HCA HBA HZ;go_wp2_with fail;go_ret;exact ⟨v3,_,rfl,HRR.o,H3.o,HB3.o⟩
end tar
namespace acc
open tar (Du du0 Came RowD Ld PairT)
open Go.RowKit
theorem right_wf {l:List Du} (h:tar.Right l):∀ x∈l,(Lit.int .i64 x.a).wf=true∧(Lit.int .i64 x.b).wf=true:=fun x hx=>by
 obtain ⟨i,hi,rfl⟩:=List.getElem_of_mem hx;have h1:=h.upto i hi;have h2:=h.price i hi;have e:l.getD i du0=l[i]:=by simp [List.getD,List.getElem?_eq_getElem hi]
 rw [e] at h1 h2;exact ⟨tar.wf_mid (by omega) (by omega),tar.wf_mid (by omega) (by omega)⟩
theorem ld_new {T:TypeId} {w:World} {base:Nat} {v:Value} {l:List Du} {p:Option Addr} {len cap:Nat} (h:tar.Ld T w base v l) (e:v = .slice p len cap) (hn:0<len) (y:Addr) (hy:p=some y):base≤y.block:=by
 subst e;subst hy;exact (World.ownsRow.lt h y.block (by simp [Value.ownBlock])).1
def GaveT (w:World) (e:Ending) (w':World):Prop:=∃ t p len cap,e = .returned (Tm.v t p len cap)∧TRight t∧Came w' p len cap t.ts∧(0<len→∀ y,p=some y→w.heap.size≤y.block)∧Below w.heap.size w w'
theorem agreed_any (t:Tm) (pt:Option Addr) (lt ct:Nat) (w:World) (h:TCame w t pt lt ct):Calls Tryz.prog 16 #[t.v pt lt ct] w fun e w'=>GaveT w e w':=by
 have HWF:Hid (wf4 t):=h.wf;unfold Tm.v;obtain ⟨W0,HWW,H0x,H0r,H0B,hs0⟩:=sh2 w #[.slice pt lt ct,zI t.ff,zI t.fb,zI t.db,zI t.al] 24 #[zS,zI 0,zI 0,zI 0,zI 0] 30;have H0C:Hid (TCame W0 t pt lt ct):=h.below H0B.o;go_enter Tryz.func16,Tryz.ntmps16;go_upto_region 1 with fail
 rw [HWW.o];clear HWW;clear h;have HP1:Hid (∀ W,Calls Tryz.prog 7 #[zI t.ff,zI 100001] W fun e w'=>e = .returned (zI (check.pick t.ff 100001))∧w'=W):=fun W=>check.picked_any t.ff 100001 W HWF.o.1 (by decide) (by decide);have hp10:=check.pick_nonneg t.ff 100001 (by decide);have hp11:=check.pick_lt t.ff 100001 (by decide);generalize (check.pick t.ff 100001)=z1 at *;have HP2:Hid (∀ W,Calls Tryz.prog 7 #[zI t.fb,zI 10001] W fun e w'=>e = .returned (zI (check.pick t.fb 10001))∧w'=W):=fun W=>check.picked_any t.fb 10001 W HWF.o.2.1 (by decide) (by decide);have hp20:=check.pick_nonneg t.fb 10001 (by decide);have hp21:=check.pick_lt t.fb 10001 (by decide);generalize (check.pick t.fb 10001)=z2 at *;have HP3:Hid (∀ W,Calls Tryz.prog 7 #[zI t.db,zI 10001] W fun e w'=>e = .returned (zI (check.pick t.db 10001))∧w'=W):=fun W=>check.picked_any t.db 10001 W HWF.o.2.2.1 (by decide) (by decide);have hp30:=check.pick_nonneg t.db 10001 (by decide);have hp31:=check.pick_lt t.db 10001 (by decide);generalize (check.pick t.db 10001)=z3 at *;have HP4:Hid (∀ W,Calls Tryz.prog 7 #[zI t.al,zI 2097152] W fun e w'=>e = .returned (zI (check.pick t.al 2097152))∧w'=W):=fun W=>check.picked_any t.al 2097152 W HWF.o.2.2.2 (by decide) (by decide);have hp40:=check.pick_nonneg t.al 2097152 (by decide);have hp41:=check.pick_lt t.al 2097152 (by decide);generalize (check.pick t.al 2097152)=z4 at *;have HOW:Hid (∀ W,Below W0.heap.size W0 W→Calls Tryz.prog 42 #[.slice pt lt ct] W fun e w'=>tar.GaveT W e w'):=fun W hW=>tar.stepped_any pt lt ct t.ts W (H0C.o.below hW).ts;have HB0:Hid (Below W0.heap.size W0 W0.drew):=(Below.refl _ _).drew;refine wp_region_held_drew (S:=fun v=>Blk v (w.heap.size) #[.slice pt lt ct,zI t.ff,zI t.fb,zI t.db,zI t.al] 24) (by kernel_rfl) (Blk.drew H0x.o 1) (fun hHeld=>?_);generalize W0.drew=U0 at *;refine zqs 0 3 (.pointer (some ⟨w.heap.size,0,none⟩)) rfl rfl (by kernel_rfl) zid rfl (fun v hv=>by clear hv;go_simp) hHeld ?_
 simp only [zq];refine zqt 1 4 (.slice pt lt ct) rfl rfl (by kernel_rfl) zid (Or.inl ⟨by rfl,fun v hv=>by have h2:=hv.cell 0;simp at h2;clear hv;go_simp⟩) hHeld ?_;simp only [zq];refine zqs 3 6 (.pointer (some ⟨w.heap.size,1,none⟩)) rfl rfl (by kernel_rfl) zid rfl (fun v hv=>by clear hv;go_simp) hHeld ?_;simp only [zq];refine zqt 4 7 (zI t.ff) rfl rfl (by kernel_rfl) zid (Or.inl ⟨by rfl,fun v hv=>by have h2:=hv.cell 1;simp at h2;clear hv;go_simp⟩) hHeld ?_;simp only [zq];refine zqs 6 9 (.pointer (some ⟨w.heap.size,2,none⟩)) rfl rfl (by kernel_rfl) zid rfl (fun v hv=>by clear hv;go_simp) hHeld ?_;simp only [zq];refine zqt 7 10 (zI t.fb) rfl rfl (by kernel_rfl) zid (Or.inl ⟨by rfl,fun v hv=>by have h2:=hv.cell 2;simp at h2;clear hv;go_simp⟩) hHeld ?_;simp only [zq];refine zqs 9 12 (.pointer (some ⟨w.heap.size,3,none⟩)) rfl rfl (by kernel_rfl) zid rfl (fun v hv=>by clear hv;go_simp) hHeld ?_;simp only [zq];refine zqt 10 13 (zI t.db) rfl rfl (by kernel_rfl) zid (Or.inl ⟨by rfl,fun v hv=>by have h2:=hv.cell 3;simp at h2;clear hv;go_simp⟩) hHeld ?_;simp only [zq];refine zqs 12 15 (.pointer (some ⟨w.heap.size,4,none⟩)) rfl rfl (by kernel_rfl) zid rfl (fun v hv=>by clear hv;go_simp) hHeld ?_;simp only [zq];refine zqt 13 16 (zI t.al) rfl rfl (by kernel_rfl) zid (Or.inl ⟨by rfl,fun v hv=>by have h2:=hv.cell 4;simp at h2;clear hv;go_simp⟩) hHeld ?_;simp only [zq];refine zqo 2 (by kernel_rfl) rfl (fun K hK=>?_);rw [if_pos (by rfl)];refine wp_callOp 5 rfl (by clear hK;go_simp) (HOW.o U0 HB0.o) ?_;rintro e U1 ⟨v,ls,rfl,hrt,hld,hb⟩;obtain ⟨pb,cb,rfl,hcm⟩:=hld.came (by have:=hrt.1.2;omega) (right_wf hrt);have HNW:Hid (0<ls.length→∀ y,pb=some y→W0.heap.size≤y.block):=fun hn y hy=>Nat.le_trans HB0.o.size (ld_new hld rfl hn y hy);have HRT:Hid (tar.Right ls):=hrt;have HCM:Hid (Came U1 pb ls.length cb ls):=hcm;have HB1:=shB HB0 hb;have HR1:Hid (Blk U1 (w.heap.size+1) #[zS,zI 0,zI 0,zI 0,zI 0] 30):=H0r.o.next HB1.o
 have HBW:Hid (Below w.heap.size w U1):=H0B.o.trans (HB1.o.mono H0B.o.size);refine ⟨_,rfl,hK.o _ _ (H0x.o.next HB1.o) (fun hHeld=>?_)⟩;clear hK hb hld hrt hcm HB0;simp only [zq];refine call_at 5 8 (zI z1) _ rfl rfl (by kernel_rfl) (by kernel_rfl) (by kernel_rfl) zid 7 #[zI t.ff,zI 100001] ⟨by rfl,fun v hv=>by clear hv;go_simp⟩ (fun v _=>HP1.o v) hHeld ?_;simp only [zq];refine call_at 8 11 (zI z2) _ rfl rfl (by kernel_rfl) (by kernel_rfl) (by kernel_rfl) zid 7 #[zI t.fb,zI 10001] ⟨by rfl,fun v hv=>by clear hv;go_simp⟩ (fun v _=>HP2.o v) hHeld ?_;simp only [zq];refine call_at 11 14 (zI z3) _ rfl rfl (by kernel_rfl) (by kernel_rfl) (by kernel_rfl) zid 7 #[zI t.db,zI 10001] ⟨by rfl,fun v hv=>by clear hv;go_simp⟩ (fun v _=>HP3.o v) hHeld ?_;simp only [zq];refine call_at 14 17 (zI z4) _ rfl rfl (by kernel_rfl) (by kernel_rfl) (by kernel_rfl) zid 7 #[zI t.al,zI 2097152] ⟨by rfl,fun v hv=>by clear hv;go_simp⟩ (fun v _=>HP4.o v) hHeld ?_;simp only [zq];refine zqs 15 18 (.agg #[.slice pb ls.length cb,zI z1,zI z2,zI z3,zI z4]) rfl rfl (by kernel_rfl) zid rfl (fun v hv=>by clear hv;go_simp) hHeld ?_;simp only [zq];refine zqo 16 (by kernel_rfl) rfl (fun K hK=>?_);rw [if_pos (by rfl)];refine wp_letOp 30 _ _ rfl (w.heap.size+1) rfl #[.slice pb ls.length cb,zI z1,zI z2,zI z3,zI z4] rfl (by kernel_rfl) (by simp [Value.oneCell']) #[zS,zI 0,zI 0,zI 0,zI 0] 30 HR1.o rfl rfl ?_;intro U2 hU;have HR2:Hid (Blk U2 (w.heap.size+1) #[.slice pb ls.length cb,zI z1,zI z2,zI z3,zI z4] 30):=hU.blk;have HC2:Hid (Came U2 pb ls.length cb ls):=came_upd HCM.o hU (fun hn y hy=>by have:=HNW.o hn y hy;omega);have HBZ:=shV hU HBW (by omega);have HX2:Hid (Blk U2 (w.heap.size) #[.slice pt lt ct,zI t.ff,zI t.fb,zI t.db,zI t.al] 24):=hU.keep (H0x.o.next HB1.o) (by omega);clear HCM HR1 HBW;refine hK.o _ _ HX2.o (fun hHeld=>?_);clear hK K hU;refine wpAnyH_done (by kernel_rfl) ?_ _;clear hHeld HX2;obtain ⟨R0,R1,R2,R3,R4⟩:=shc5 HR2
 go_wp2_with fail;exact bodyPost_ret (v:= .agg #[.slice pb ls.length cb,zI z1,zI z2,zI z3,zI z4]) (by simp [results,Tryz.results16,R0.o,R1.o,R2.o,R3.o,R4.o,go_sem]) rfl ⟨⟨ls,z1,z2,z3,z4⟩,pb,ls.length,cb,rfl,⟨HRT.o,⟨hp10,by show z1≤100000;omega⟩,⟨hp20,by show z2≤10000;omega⟩,⟨hp30,by show z3≤10000;omega⟩,hp40,by show z4≤2097151;omega⟩,HC2.o,fun hn y hy=>Nat.le_trans (by omega) (HNW.o hn y hy),HBZ.o⟩
end acc
namespace vnd
open book (Ev ev0 EMay evL evOf Cm cm0 So so0 BookIs FirstAt NoneAt Tells soldOf StepIs HapIs)
open acc (Ac Tm Bi SellIs GrantIs RekeyIs)
open ora (Pr pr0 IssueIs)
open cell (Wr wrt)
open rcp (Rc rc0)
open token (Tok fmtL tokOf)
theorem issue_is {l:List Pr} {m r b d:Int} {ls:List Pr} {x:Int} (h:IssueIs l m r b d ls x 0):ora.Is ls m r b x:=by
 rcases h with ⟨_,_,_,q⟩ | ⟨_,_,_,_,q⟩ | ⟨hm,_,⟨i,ai,rfl⟩,rfl,_⟩ | ⟨_,_,_,_,_,_,q⟩ | ⟨hm,hp,hn,hl,rfl,rfl,_⟩
 ·exact absurd q (by decide)
 ·exact absurd q (by decide)
 ·exact ⟨hm,i,ai,rfl⟩
 ·exact absurd q (by decide)
 ·exact ⟨hm.app hp hn hl,l.length,hn.app ⟨rfl,rfl,rfl⟩,by rw [ora.getD_app,if_neg (Nat.lt_irrefl _),if_pos rfl]⟩
structure Paper (bk:List Cm) (o':List Pr) (me:Int) (r:Rc) (k:Tok):Prop where
 ok:k.ok
 tk:r.tk=fmtL (97*k.num)
 right:rcp.Right r
 is:ora.Is o' me (bk.getD me.toNat cm0).a.rv (k.body:Int) (k.t:Int)
 rme:r.me=me
 ki:(k.i:Int)=(bk.getD me.toNat cm0).a.nx
 rid:r.id=(bk.getD me.toNat cm0).a.nx
 cls:(k.c=2∧(k.a:Int)=(bk.getD me.toNat cm0).a.rv+1∧r.un=0)∨(k.c=0∧(k.a:Int)=r.un)
theorem tokB_body (kd rv:Int) (l:Bi) (tg:Int):(tokB kd rv l 0).body=(tokB kd rv l tg).body:=by
 unfold tokB Tok.body;split <;> rfl
theorem tokB_i (kd rv:Int) (l:Bi) (tg:Int):(tokB kd rv l tg).i=l.id.toNat:=by
 unfold tokB;split <;> rfl
theorem tokB_t (kd rv:Int) (l:Bi) (tg:Int):(tokB kd rv l tg).t=tg.toNat:=by
 unfold tokB;split <;> rfl
theorem tok_paper {kd:Int} {t:Tm} {c:List Int} {o:List Pr} {me te mo dr:Int} {ls:List Wr} {o':List Pr} {r:Rc} {bk:List Cm} (hk:Asked kd mo) (hl:LoadIs t c bk 0) (h3:Three bk) (h0:0≤me) (h1:me<3) (h:TokIs kd t c o me te mo dr ls o' r 0):∃ k,Paper bk o' me r k:=by
 obtain ⟨k,b,l,tg,hf,hte,hi,hv,_,_,rfl⟩:=tok_step hk hl h;have hk3:k<3:=by have:=hf.1;rw [h3.1] at this;exact this
 have hkm:me.toNat=k:=by have h5:=h3.2 k hk3;have h6:=hf.2.1;omega
 have ht:=issue_tag hi;have hid:=(tells_same hte).2.2.2;have his:=issue_is hi;rw [tokB_body kd _ l tg] at his
 have hq:(tokB kd (bk.getD k cm0).a.rv l tg).ok∧((kd=4∧(tokB kd (bk.getD k cm0).a.rv l tg).c=2∧((tokB kd (bk.getD k cm0).a.rv l tg).a:Int)=(bk.getD k cm0).a.rv+1∧l.un=0)∨(kd≠4∧(tokB kd (bk.getD k cm0).a.rv l tg).c=0∧((tokB kd (bk.getD k cm0).a.rv l tg).a:Int)=l.un))∧1≤l.id:=by
  have hun:kd=4→l.un=0:=fun e=>by
   have hv2:=hv.2;show (tokE kd me mo l tg).un=0;have ek:(tokE kd me mo l tg).kd=4:=e;rcases hv2 with ⟨a,_⟩ | ⟨a,_⟩ | ⟨_,_,_,_,⟨_,_,_,_,_,_,_,a⟩ | ⟨a,_⟩⟩
   ·omega
   ·omega
   ·exact a
   ·exact absurd ek a
  rcases hte with ⟨e,hs⟩ | ⟨e,hs⟩ | ⟨e,hs⟩
  ·have e:kd=2:=e;have hb:=sell_tok hs;have hne:kd≠4:=by omega
   refine ⟨(tokB_ok hne hb ht).1,.inr ⟨hne,?_,?_⟩,hb.1.1⟩
   ·unfold tokB;rw [if_neg hne]
   ·unfold tokB;rw [if_neg hne];exact Int.toNat_of_nonneg (by omega)
  ·have e:kd=3:=e;have hb:=grant_tok hs;have hne:kd≠4:=by omega
   refine ⟨(tokB_ok hne hb ht).1,.inr ⟨hne,?_,?_⟩,hb.1.1⟩
   ·unfold tokB;rw [if_neg hne]
   ·unfold tokB;rw [if_neg hne];exact Int.toNat_of_nonneg (by omega)
  ·have e:kd=4:=e;have hb:=rekey_tok hs;have hun2:=hun e;subst e;refine ⟨(tokB_ok4 hb ht).1,.inl ⟨rfl,?_,?_,hun2⟩,hb.1.1⟩
   ·unfold tokB;rw [if_pos rfl]
   ·unfold tokB;rw [if_pos rfl];exact Int.toNat_of_nonneg (by omega)
 obtain ⟨hok,hcl,hid1⟩:=hq;have hki:((tokB kd (bk.getD k cm0).a.rv l tg).i:Int)=l.id:=by rw [tokB_i];exact Int.toNat_of_nonneg (by omega)
 have htt:((tokB kd (bk.getD k cm0).a.rv l tg).t:Int)=tg:=by rw [tokB_t];exact Int.toNat_of_nonneg ht.1
 have htr:∀ q:Tok,q.ok→tokOf (token.dv (fmtL (97*q.num)) / 97)=q:=fun q hq=>by
  rw [token.fmt_dv,Nat.mul_div_cancel_left _ (by decide)];exact token.tokOf_num hq
 subst hkm;refine ⟨tokB kd (bk.getD me.toNat cm0).a.rv l tg,hok,rfl,⟨⟨h0,by show me≤49;omega⟩,?_,?_,(token.parse_fmt hok).1,?_⟩,by rw [htt];exact his,rfl,hki.trans hid,hid,?_⟩
 ·have hv2:=hv.2;have i1:(tokE kd me mo l tg).id=l.id:=rfl;unfold rcp.RRange rcp.Ten;show ((0≤(tokE kd me mo l tg).te∧(tokE kd me mo l tg).te≤100000000)∧(0≤(tokE kd me mo l tg).de∧(tokE kd me mo l tg).de≤100000000)∧(0≤(tokE kd me mo l tg).fe∧(tokE kd me mo l tg).fe≤100000000)∧0≤(tokE kd me mo l tg).pr∧(tokE kd me mo l tg).pr≤100000000)∧(0≤(tokE kd me mo l tg).ch∧(tokE kd me mo l tg).ch≤100000000)∧(1≤(tokE kd me mo l tg).id∧(tokE kd me mo l tg).id≤1048575)∧0≤(tokE kd me mo l tg).un∧(tokE kd me mo l tg).un≤2097151;rw [← i1] at hid1;clear i1;generalize tokE kd me mo l tg=z at *;omega
 ·have hv2:=hv.2;have i1:(tokE kd me mo l tg).id=l.id:=rfl;unfold rcp.RSum;show (tokE kd me mo l tg).te - (tokE kd me mo l tg).de - (tokE kd me mo l tg).fe - (tokE kd me mo l tg).pr - (tokE kd me mo l tg).ch=0;rw [← i1] at hid1;clear i1;generalize tokE kd me mo l tg=z at *;omega
 ·unfold rcp.RTok rcp.tokR;rw [show (recB kd (bk.getD me.toNat cm0).a.rv me l tg).tk=fmtL (97*(tokB kd (bk.getD me.toNat cm0).a.rv l tg).num) from rfl,htr _ hok];refine ⟨hki,fun e=>?_,fun e=>?_⟩
  ·rcases hcl with ⟨_,q,_⟩ | ⟨_,_,q⟩
   ·rw [q] at e;cases e
   ·exact q
  ·rcases hcl with ⟨_,_,_,q⟩ | ⟨_,q,_⟩
   ·exact q
   ·exact absurd q e
 ·rcases hcl with ⟨_,a,b,c⟩ | ⟨_,a,b⟩
  ·exact .inl ⟨a,b,c⟩
  ·exact .inr ⟨a,b⟩
theorem serve_paper {t:Tm} {c:List Int} {n:Nat} {l:List Ev} {bk:List Cm} {o:List Pr} {x:Od} {ls:List Wr} {o':List Pr} {r:Rc} (h:Shop t c n l bk) (h3:Three bk) (hs:ServedIs t c o x ls o' r 0):r=rc0∨∃ k,Paper bk o' (check.pick x.m 3) r k:=by
 have p0:=check.pick_nonneg x.m 3 (by decide);have p1:=check.pick_lt x.m 3 (by decide);rcases hs with ⟨_,_,_,e⟩ | ⟨_,hc⟩ | ⟨_,hc⟩ | ⟨_,hc⟩
 ·exact .inl e
 ·exact .inr (tok_paper (.inr (.inl rfl)) h.load h3 p0 p1 hc)
 ·exact .inr (tok_paper (.inr (.inr ⟨rfl,rfl⟩)) h.load h3 p0 p1 hc)
 ·exact .inr (tok_paper (.inl rfl) h.load h3 p0 p1 hc)
end vnd
namespace book
open Go.RowKit cell
theorem ws_upd {w W:World} {base g:Nat} {cs:Array Value} {t:TypeId} {v:Value} {l:List Int} (h:Ws w base v l) (hU:Upd w W g cs t) (hg:g<base):Ws W base v l:=by
 refine ⟨h.1,?_⟩;rcases h.2 with hn | ⟨g',cap,cur,hv,hb,hc,rest⟩
 ·exact .inl hn
 ·exact .inr ⟨g',cap,cur,hv,hb,by rw [hU.oth g' (by omega)];exact hc,rest⟩
theorem kenc:KEnc:=by
 intro w v hwf;clear hwf;unfold Ev.v;have hmf:∀ (fn:Fn) (first cap:Array Value) (w:World),(Instr.makeFunc fn first cap).run Tryz.prog w = .ok (.func fn first cap) w:=fun _ _ _ _=>rfl;have HMU:Hid (∀ W,Calls Tryz.prog 104 #[.agg #[zI v.kd,zI v.me,zI v.mo,zI v.id,zI v.te,zI v.de,zI v.fe,zI v.pr,zI v.ch,zI v.un,zI v.tg,zI v.ow,zI v.bp]] W fun e w'=>MustPost W v e w'):=fun W=>bmust v W;have HWO:Hid (EMay v→∀ W,Calls Tryz.prog 105 #[.agg #[zI v.kd,zI v.me,zI v.mo,zI v.id,zI v.te,zI v.de,zI v.fe,zI v.pr,zI v.ch,zI v.un,zI v.tg,zI v.ow,zI v.bp]] W fun e w'=>∃ V,e = .returned V∧Ws w' W.heap.size V (evL v)∧Below W.heap.size W w'):=fun hm W=>bwords v (may_word hm) W;obtain ⟨W1,HWW,HX1,HE1,HB1,-⟩:=sh2 w #[zI v.kd,zI v.me,zI v.mo,zI v.id,zI v.te,zI v.de,zI v.fe,zI v.pr,zI v.ch,zI v.un,zI v.tg,zI v.ow,zI v.bp] 125 #[zI 0] 42;go_enter_defers Tryz.func70,Tryz.ntmps70;go_upto_region 2 with fail
 rw [HWW.o];clear HWW;obtain ⟨c0,c1,c2,c3,c4,c5,c6,c7,c8,c9,c10,c11,c12⟩:=scl13 HX1;go_wp2_with fail;refine (HMU.o _).mono ?_;rintro e W2 ⟨hm,hb⟩;have HX2:=shN HX1 hb;have HE2:=shN HE1 hb;have HB2:=shB HB1 hb;clear hb HX1 HE1 HB1 HMU c0 c1 c2 c3 c4 c5 c6 c7 c8 c9 c10 c11 c12;rcases hm with ⟨hm,rfl⟩ | ⟨hm,rfl⟩
 ·have HY:Hid (EMay v):=hm;have HWV:=HWO.o hm;have HWV':Hid (∀ W,Calls Tryz.prog 105 #[.agg #[zI v.kd,zI v.me,zI v.mo,zI v.id,zI v.te,zI v.de,zI v.fe,zI v.pr,zI v.ch,zI v.un,zI v.tg,zI v.ow,zI v.bp]] W fun e w'=>∃ V,e = .returned V∧Ws w' W.heap.size V (evL v)∧Below W.heap.size W w'):=HWV;clear hm HWO HWV;obtain ⟨c0,c1,c2,c3,c4,c5,c6,c7,c8,c9,c10,c11,c12⟩:=scl13 HX2;go_wp2_with fail;refine (HWV'.o _).mono ?_;rintro e W3 ⟨V,rfl,hV,hb⟩;have HE3:=shN HE2 hb;have HB3:=shB HB2 hb;have HV3:Hid (Ws W3 W2.heap.size V (evL v)):=hV;have hgs:Hid (w.heap.size+1<W2.heap.size):=HE2.o.lt;clear hb hV HX2 HE2 HB2 HWV' c0 c1 c2 c3 c4 c5 c6 c7 c8 c9 c10 c11 c12;go_wp2_with (first | (refine wp_let1 rfl 42 _ _ rfl (w.heap.size+1) 0 rfl .i64 0 rfl (by kernel_rfl) #[zI 0] 42 HE3.o (by decide) ?_) | fail)
  intro W4 hU;have HE4:Hid (Blk W4 (w.heap.size+1) #[zI 0] 42):=hU.blk;have HB4:=shV hU HB3 (by omega);have HV4:Hid (Ws W4 W2.heap.size V (evL v)):=ws_upd HV3.o hU hgs.o;clear hU;go_wp2_with fail;refine leaves_cons (f:=103) (args:=#[.pointer (some ⟨w.heap.size+1,0,none⟩)]) (by simp) (by simp [go_sem]) ?_;refine (encode_idle (w.heap.size+1) 0 _ HE4.o).mono ?_;rintro e u' w5 ⟨rfl,hs,W,hb,hU⟩;have r0:w5.cell? ⟨w.heap.size+1,0,none⟩=some (zI 0):=hU.blk.cell 0;have HB5:Below w.heap.size w w5:=hU.bel _ _ (by omega) (bel_step HB4.o hb);have HV5:Ws w5 W2.heap.size V (evL v):=ws_upd (HV4.o.next hb) hU hgs.o;obtain ⟨a,cap,hva,hrow,h1,h2⟩:=HV5.row;show Leaves _ _ _ _ [] (settle u') w5;rw [hs];refine ⟨.tuple #[V,zI 0],by simp [results,Tryz.results70,r0,go_sem],?_⟩;subst hva;exact ⟨a,_,cap,evL v,0,rfl,.inl ⟨HY.o,rfl,rfl⟩,hrow,h1,h2,by rw [evL_len];exact Nat.le_refl _,HB5⟩
 ·have HN:Hid (¬ EMay v):=hm;clear hm HWO;refine leaves_cons (f:=103) (args:=#[.pointer (some ⟨w.heap.size+1,0,none⟩)]) (by simp) (by simp [go_sem]) ?_;refine (encode_caught (w.heap.size+1) 0 5 _ HE2.o).mono ?_;rintro e u' w5 ⟨rfl,hs,W,hb,hU⟩;have r0:w5.cell? ⟨w.heap.size+1,0,none⟩=some (zI 5):=hU.blk.cell 0;have HB5:Below w.heap.size w w5:=hU.bel _ _ (by omega) (bel_step HB2.o hb);show Leaves _ _ _ _ [] (settle u') w5;rw [hs];refine ⟨.tuple #[zS,zI 5],by simp [results,Tryz.results70,r0,go_sem],?_⟩;exact ⟨none,0,0,[],5,rfl,.inr ⟨HN.o,rfl,rfl⟩,RowU.nil _ _,fun _=>rfl,Nat.le_refl _,Nat.zero_le _,HB5⟩
end book
namespace token
open words
open Go.RowKit
theorem str_list (ns:List Int):(strOf ns).data.toList=ns.map byt:=by
 have h:∀ (ns:List Int) (r:ByteArray),(ns.foldl (fun r n=>r.push (UInt8.ofNat n.toNat)) r).data.toList=r.data.toList++ns.map byt:=by
  intro ns
  induction ns with
  | nil=>intro r;simp
  | cons x l ih=>intro r;rw [List.foldl_cons,ih];simp [ByteArray.push,byt]
 have:=h ns ByteArray.empty;simpa [strOf] using this
theorem str_size (ns:List Int):(strOf ns).size=ns.length:=by
 rw [← check.len_eq,str_list];simp
theorem rep_list (n:Nat):Lib.repeatL [48] n=List.replicate n 48:=by
 induction n with
 | zero=>rfl
 | succ n ih=>rw [Lib.repeatL,ih];rfl
theorem bytes_ext {a b:ByteArray} (h:a.data.toList=b.data.toList):a=b:=by
 cases a;cases b;congr 1;exact Array.toList_inj.1 h
theorem pad_fmt (V n:Nat) (h:n+(decL V).length=20):(⟨(Lib.repeatL [48] n).toArray⟩:ByteArray)++strOf (decL V)=fmtB V:=by
 apply bytes_ext;rw [fmtB_list,show ((⟨(Lib.repeatL [48] n).toArray⟩:ByteArray)++strOf (decL V)).data.toList=Lib.repeatL [48] n++(strOf (decL V)).data.toList by simp,str_list,rep_list];unfold fmtL;rw [show 20 - (decL V).length=n by omega]
theorem show_wn (a b c V:Nat) (w:World) (h:WN a b c V) :
  Calls Tryz.prog 67 #[.agg #[.int .u32 (a:Int),.int .u32 (b:Int),.int .u32 (c:Int)]] w fun e w'=>e = .returned (.string (strOf (decL V)))∧Below w.heap.size w w':=by
 have hk:=wn_ok h;have:=show_any ⟨a,b,c⟩ w hk.1
 rwa [hk.2,Int.toNat_natCast] at this
theorem format_ok (k:Tok) (w:World) (ht:TTab w) (hk:k.ok) :
  Calls Tryz.prog 37 #[k.v] w fun e w'=>e = .returned (.tuple #[.string (fmtB (97*k.num)),zI 0])∧Below w.heap.size w w':=by
 have HF:Hid (∀ W,TTab W→Calls Tryz.prog 66 #[.agg #[zI (k.c:Int),zI (k.i:Int),zI (k.a:Int),zI (k.t:Int)]] W fun e w'=>WordsPost W k e w'):=fun W hW=>words_ok k W hW hk;have hnb:=num_bd hk;have hln:=dec_len20 (V:=k.num*97) (by omega);have hsz:=str_size (decL (k.num*97));have HSh:Hid (∀ (a b c:Nat) W,WN a b c (k.num*97)→Calls Tryz.prog 67 #[.agg #[.int .u32 (a:Int),.int .u32 (b:Int),.int .u32 (c:Int)]] W fun e w'=>e = .returned (.string (strOf (decL (k.num*97))))∧Below W.heap.size W w'):=fun a b c W hW=>show_wn a b c _ W hW;obtain ⟨n,hn⟩:∃ n:Nat,n+(decL (k.num*97)).length=20:=⟨20 - (decL (k.num*97)).length,by omega⟩
 have HRp:Hid (∀ W,Calls Tryz.prog 68 #[.string ⟨#[48]⟩,zI (n:Int)] W fun e w'=>e = .returned (.string ⟨(Lib.repeatL [48] n).toArray⟩)∧Below W.heap.size W w'):=fun W=>Tryz.strings_Repeat ⟨#[48]⟩ n W (by omega) (by show 1*n≤_;omega)
 have HX:Hid ((⟨(Lib.repeatL [48] n).toArray⟩:ByteArray)++strOf (decL (k.num*97))=fmtB (97*k.num)):=by
  show _=_;rw [pad_fmt _ _ hn,Nat.mul_comm]
 have hzz:(⟨(Lib.repeatL [48] n).toArray⟩:ByteArray).size=n:=by
  show (Lib.repeatL [48] n).toArray.size=n;rw [rep_list];simp
 have HT:Hid (TTab (w.alloc (.cells #[zI (k.c:Int),zI (k.i:Int),zI (k.a:Int),zI (k.t:Int)] 54))):=ht.below (bel_box _ _);have HB:Hid (Below w.heap.size w (w.alloc (.cells #[zI (k.c:Int),zI (k.i:Int),zI (k.a:Int),zI (k.t:Int)] 54))):=bel_box _ _;rw [← hsz] at hn hln;clear ht hk hnb hsz;generalize strOf (decL (k.num*97))=D at *;generalize (⟨(Lib.repeatL [48] n).toArray⟩:ByteArray)=Z at *;have hds:(20:Int) - (D.size:Int)=(n:Int):=by omega
 unfold Tok.v;go_enter Tryz.func37,Tryz.ntmps37;go_wp2_with fail;refine (HF.o _ HT.o).mono ?_;rintro e w1 ⟨a,b,c,rfl,hwn,hb1⟩;have hN:=Blk.new w1 #[.int .u32 (a:Int),.int .u32 (b:Int),.int .u32 (c:Int)] 89;have HB1:Hid (Below w.heap.size w (w1.alloc (.cells #[.int .u32 (a:Int),.int .u32 (b:Int),.int .u32 (c:Int)] 89))):=(bel_step HB.o hb1).alloc (bel_step HB.o hb1).size _;have HW:Hid (WN a b c (k.num*97)):=hwn;have c0:=hN.cell 0;have c1:=hN.cell 1;have c2:=hN.cell 2;clear hb1 HF HB HT hwn hN;go_wp2_with fail;refine (HSh.o _ _ _ _ HW.o).mono ?_;rintro e w2 ⟨rfl,hb2⟩;have HB2:=shB HB1 hb2;clear hb2 HSh HB1 HW c0 c1 c2;go_wp2_with fail;refine (HRp.o _).mono ?_;rintro e w3 ⟨rfl,hb3⟩;have HB3:=shB HB2 hb3;clear hb3 HRp HB2;go_wp2_with fail;refine bodyPost_ret (v:= .tuple #[.string (Z++D),zI 0]) (by simp [results,Tryz.results37,go_sem]) rfl ⟨by rw [HX.o],HB3.o⟩
end token
end Go.Proofs.YtdpfnedfakgolaaGreatDoor
