import Derived.Test.YtnpblpbohcegoaaGreatDoorVBNrs14
import Derived.Test.YtnpblpbohcegoaaGreatDoorVBNrs16
set_option linter.unusedVariables false
set_option linter.unusedSimpArgs false
set_option maxHeartbeats 4000000
set_option maxRecDepth 100000
namespace Go.Proofs.YtnpblpbohcegoaaGreatDoor
namespace words
open Go.RowKit
theorem run_putStep (args:Array Value) (w:World):(callFunc 169 args).run Tryz.prog w = .ok (.enter 169 args) w:=by kernel_rfl
theorem low32 (s:Nat):((s:Nat):Int) % 4294967296=((s % 2 ^ 32:Nat):Int):=by omega
theorem putStep_abs (N At V:Nat) (x v n k M s r f g z y:Int) (w:World) (hn:w.cell? ⟨N,0,none⟩=some (zI n)) (hat:w.cell? ⟨At,0,none⟩=some (zI k)) (hf:w.frozen? ⟨At,0,none⟩=false) (hv:w.cell? ⟨V,0,none⟩=some (.int .u64 v))
  (HO:Hid (∀ w,Calls Tryz.prog 168 #[zI n] w fun e w'=>e = .returned (.int .u64 M)∧w'=w))
  (HS:Hid (∀ w,Calls Tryz.prog 170 #[.int .u64 M,zI k] w fun e w'=>e = .returned (.int .u64 s)∧w'=w))
  (HT:Hid (∀ w,Calls Tryz.prog 170 #[.int .u64 v,zI k] w fun e w'=>e = .returned (.int .u64 r)∧w'=w))
  (q1:s % 4294967296=f) (q2:r % 4294967296=g) (o1:bits .andNot .u32 x f=z) (o2:bits .or .u32 z g=y) (k0:-64≤k) (k1:k≤96) :
  Calls Tryz.prog 169 #[.int .u32 x,.pointer (some ⟨N,0,none⟩),.pointer (some ⟨At,0,none⟩),.pointer (some ⟨V,0,none⟩)] w fun e w'=>e = .returned (.int .u32 y)∧Acc w w' At (zI (k - 32)):=by
 have hA:Acc w w At (zI k):=Acc.refl hat hf;have HA:Hid (Acc w w At (zI k)):=hA;clear hA;go_enter Tryz.func169,Tryz.ntmps169;go_wp2_with fail
 go_quiet (first
  | (go_at_call 168;exact (HO.o _).mono fun _ _ h=>⟨h.1,_,h.2⟩)
  | (go_at_call_of 170 (Value.int .u64 M);exact (HS.o _).mono fun _ _ h=>⟨h.1,_,h.2⟩)
  | (go_at_call_of 170 (Value.int .u64 v);exact (HT.o _).mono fun _ _ h=>⟨h.1,_,h.2⟩))
 go_wp2_with fail;go_ret;exact ⟨rfl,(HA.o.drewN _).set _⟩
theorem putStep_any (N At V:Nat) (x v n:Nat) (k:Int) (w:World) (hn:w.cell? ⟨N,0,none⟩=some (zI (n:Int))) (hat:w.cell? ⟨At,0,none⟩=some (zI k)) (hf:w.frozen? ⟨At,0,none⟩=false) (hv:w.cell? ⟨V,0,none⟩=some (.int .u64 (v:Int)))
  (x1:x<2 ^ 32) (v1:v<2 ^ 64) (n0:1≤n) (n1:n≤64) (k0:-64≤k) (k1:k≤96) :
  Calls Tryz.prog 169 #[.int .u32 (x:Int),.pointer (some ⟨N,0,none⟩),.pointer (some ⟨At,0,none⟩),.pointer (some ⟨V,0,none⟩)] w fun e w'=>e = .returned (.int .u32 (putN x v n k:Nat))∧Acc w w' At (zI (k - 32)):=by
 have l1:sh (onesN n) k % 2 ^ 32<2 ^ 32:=Nat.mod_lt _ (by decide);have l2:sh v k % 2 ^ 32<2 ^ 32:=Nat.mod_lt _ (by decide);have l3:x &&& (2 ^ 32 - 1 - sh (onesN n) k % 2 ^ 32)<2 ^ 32:=Nat.lt_of_le_of_lt Nat.and_le_left x1
 exact putStep_abs N At V x v n k (onesN n:Nat) (sh (onesN n) k:Nat) (sh v k:Nat) _ _ _ _ w hn hat hf hv
  (fun w=>ones_any n w n0 n1) (fun w=>shift_any _ _ w (ones_lt n n1) (by omega) k1) (fun w=>shift_any _ _ w v1 (by omega) k1)
  (low32 _) (low32 _) (andNot32 x _ x1 l1) (or32 _ _ l3 l2) k0 k1
theorem five (w:World) (cs:Array Value) (T1 T2 T3 T5:TypeId) (m v x y z u:Value) (q:Nat) :
  (((((((w.alloc (.cells cs T1)).alloc (.cells #[m] T2)).alloc (.cells #[v] T3)).alloc (.cells #[x,y,z] 131)).drewN q).alloc (.cells #[u] T5)).cell? ⟨w.heap.size+1,0,none⟩=some m) ∧
  (((((((w.alloc (.cells cs T1)).alloc (.cells #[m] T2)).alloc (.cells #[v] T3)).alloc (.cells #[x,y,z] 131)).drewN q).alloc (.cells #[u] T5)).cell? ⟨w.heap.size+1+1,0,none⟩=some v) ∧
  Trio ((((((w.alloc (.cells cs T1)).alloc (.cells #[m] T2)).alloc (.cells #[v] T3)).alloc (.cells #[x,y,z] 131)).drewN q).alloc (.cells #[u] T5)) (w.heap.size+1+1+1) x y z ∧
  (((((((w.alloc (.cells cs T1)).alloc (.cells #[m] T2)).alloc (.cells #[v] T3)).alloc (.cells #[x,y,z] 131)).drewN q).alloc (.cells #[u] T5)).cell? ⟨w.heap.size+1+1+1+1,0,none⟩=some u) ∧
  (((((((w.alloc (.cells cs T1)).alloc (.cells #[m] T2)).alloc (.cells #[v] T3)).alloc (.cells #[x,y,z] 131)).drewN q).alloc (.cells #[u] T5)).frozen? ⟨w.heap.size+1+1+1+1,0,none⟩=false):=by
 have hh:((((((w.alloc (.cells cs T1)).alloc (.cells #[m] T2)).alloc (.cells #[v] T3)).alloc (.cells #[x,y,z] 131)).drewN q).alloc (.cells #[u] T5)).heap=((((w.heap.push (.cells cs T1)).push (.cells #[m] T2)).push (.cells #[v] T3)).push (.cells #[x,y,z] 131)).push (.cells #[u] T5):=rfl;have s1:w.heap.size+1=(w.heap.push (.cells cs T1)).size:=by simp
 have s2:w.heap.size+1+1=((w.heap.push (.cells cs T1)).push (.cells #[m] T2)).size:=by simp
 have s3:w.heap.size+1+1+1=(((w.heap.push (.cells cs T1)).push (.cells #[m] T2)).push (.cells #[v] T3)).size:=by simp
 have s4:w.heap.size+1+1+1+1=((((w.heap.push (.cells cs T1)).push (.cells #[m] T2)).push (.cells #[v] T3)).push (.cells #[x,y,z] 131)).size:=by simp
 generalize ((((((w.alloc (.cells cs T1)).alloc (.cells #[m] T2)).alloc (.cells #[v] T3)).alloc (.cells #[x,y,z] 131)).drewN q).alloc (.cells #[u] T5))=W at *
 have e1:W.heap[w.heap.size+1]?=some (.cells #[m] T2):=by
  rw [hh,Array.getElem?_push,if_neg (by simp),Array.getElem?_push,if_neg (by simp),Array.getElem?_push,if_neg (by simp),s1,Array.getElem?_push_size]
 have e2:W.heap[w.heap.size+1+1]?=some (.cells #[v] T3):=by
  rw [hh,Array.getElem?_push,if_neg (by simp),Array.getElem?_push,if_neg (by simp),s2,Array.getElem?_push_size]
 have e3:W.heap[w.heap.size+1+1+1]?=some (.cells #[x,y,z] 131):=by
  rw [hh,Array.getElem?_push,if_neg (by simp),s3,Array.getElem?_push_size]
 have e4:W.heap[w.heap.size+1+1+1+1]?=some (.cells #[u] T5):=by
  rw [hh,s4,Array.getElem?_push_size]
 refine ⟨?_,?_,e3,?_,?_⟩
 ·simp only [World.cell?,e1];rfl
 ·simp only [World.cell?,e2];rfl
 ·simp only [World.cell?,e4];rfl
 ·simp only [World.frozen?,e4];rfl
theorem bel5 (w:World) (o1 o2 o3 o4 o5:Obj) (q:Nat):Below w.heap.size w (((((w.alloc o1).alloc o2).alloc o3).alloc o4).drewN q |>.alloc o5):=
 (below_drewN (bel4 w o1 o2 o3 o4) q).alloc (by show _≤((((w.heap.push o1).push o2).push o3).push o4).size;simp;omega) _
theorem put_any (a b c v lo n:Nat) (w:World) (ha:a<2 ^ 32) (hb:b<2 ^ 32) (hc:c<2 ^ 32) (hv:v<2 ^ n) (n0:1≤n) (n1:n≤64) (hl:lo+n≤96) :
  Calls Tryz.prog 132 #[.agg #[.int .u32 (a:Int),.int .u32 (b:Int),.int .u32 (c:Int)],zI (lo:Int),zI (n:Int),.int .u64 (v:Int)] w fun e w'=>
   e = .returned (.tuple #[.agg #[.int .u32 (putN a v n lo:Nat),.int .u32 (putN b v n ((lo:Int) - 32):Nat),.int .u32 (putN c v n ((lo:Int) - 64):Nat)],zI 0])∧Below w.heap.size w w':=by
 have v1:v<2 ^ 64:=Nat.lt_of_lt_of_le hv (Nat.pow_le_pow_right (by decide) n1);have HI:Hid (∀ w,Calls Tryz.prog 167 #[zI (lo:Int),zI (n:Int)] w fun e w'=>e = .returned (.bool true)∧w'=w):=fun w=>isField_yes _ _ w (by omega) (by omega) (by omega) (by omega);have HO:Hid (∀ w,Calls Tryz.prog 168 #[zI (n:Int)] w fun e w'=>e = .returned (.int .u64 (onesN n:Nat))∧w'=w):=fun w=>ones_any n w n0 n1;have hd:decide (((onesN n:Nat):Int)<(v:Int))=false:=decide_eq_false (by unfold onesN;omega);have e64:(lo:Int) - 32 - 32=(lo:Int) - 64:=by omega
 generalize ((onesN n:Nat):Int)=M at *;rw [← e64];go_enter Tryz.func132,Tryz.ntmps132;go_wp2_with fail
 go_quiet (first
  | (go_at_call 167;exact (HI.o _).mono fun _ _ h=>⟨h.1,_,h.2⟩)
  | (go_at_call 168;exact (HO.o _).mono fun _ _ h=>⟨h.1,_,h.2⟩))
 go_wp2_with fail;obtain ⟨f1,f2,f3,f4,f5⟩:=five w #[.int .u32 (a:Int),.int .u32 (b:Int),.int .u32 (c:Int)] 131 3 223 3 (zI (n:Int)) (.int .u64 (v:Int)) (.int .u32 0) (.int .u32 0) (.int .u32 0) (zI (lo:Int)) nq;have hb5:=bel5 w (.cells #[.int .u32 (a:Int),.int .u32 (b:Int),.int .u32 (c:Int)] 131) (.cells #[zI (n:Int)] 3) (.cells #[.int .u64 (v:Int)] 223) (.cells #[.int .u32 0,.int .u32 0,.int .u32 0] 131) (.cells #[zI (lo:Int)] 3) nq
 refine (upward_any 169 #[.pointer (some ⟨w.heap.size+1,0,none⟩),.pointer (some ⟨w.heap.size+1+1+1+1,0,none⟩),.pointer (some ⟨w.heap.size+1+1,0,none⟩)] (w.heap.size+1+1+1+1) (zI (lo:Int)) (zI ((lo:Int) - 32)) (zI ((lo:Int) - 32 - 32)) (zI ((lo:Int) - 32 - 32 - 32)) a b c
  (putN a v n lo:Nat) (putN b v n ((lo:Int) - 32):Nat) (putN c v n ((lo:Int) - 32 - 32):Nat) _ (Acc.refl f4 f5) run_putStep
  (fun w' h=>putStep_any _ _ _ _ _ _ _ w' (h.keep f1 (by omega)) h.cell h.free (h.keep f2 (by omega)) ha v1 n0 n1 (by omega) (by omega))
  (fun w' h=>putStep_any _ _ _ _ _ _ _ w' (h.keep f1 (by omega)) h.cell h.free (h.keep f2 (by omega)) hb v1 n0 n1 (by omega) (by omega))
  (fun w' h=>putStep_any _ _ _ _ _ _ _ w' (h.keep f1 (by omega)) h.cell h.free (h.keep f2 (by omega)) hc v1 n0 n1 (by omega) (by omega))).mono ?_
 rintro e w1 ⟨he,hA⟩;have hR:=f3.acc hA (by omega);have HB:Hid (Below w.heap.size w w1):=hA.below hb5 (by omega);clear hA f1 f2 f3 f4 f5 hb5;have HE2:Hid (e = .returned (.agg #[.int .u32 (putN a v n lo:Nat),.int .u32 (putN b v n ((lo:Int) - 32):Nat),.int .u32 (putN c v n ((lo:Int) - 32 - 32):Nat)])):=he;clear he;obtain ⟨y0,h0⟩:∃ y0:Int,y0=(putN a v n lo:Nat):=⟨_,rfl⟩
 obtain ⟨y1,h1⟩:∃ y1:Int,y1=(putN b v n ((lo:Int) - 32):Nat):=⟨_,rfl⟩
 obtain ⟨y2,h2⟩:∃ y2:Int,y2=(putN c v n ((lo:Int) - 32 - 32):Nat):=⟨_,rfl⟩
 have HH:Hid (y0=(putN a v n lo:Nat)∧y1=(putN b v n ((lo:Int) - 32):Nat)∧y2=(putN c v n ((lo:Int) - 32 - 32):Nat)):=⟨h0,h1,h2⟩
 rw [← h0,← h1,← h2] at HE2;obtain rfl:=HE2.o;clear HE2 h0 h1 h2;have r0:=hR.c0;have r1:=hR.c1;have r2:=hR.c2;have g0:=hR.free 0;have g1:=hR.free 1;have g2:=hR.free 2;have HR:Hid (Trio w1 (w.heap.size+1+1+1) (.int .u32 0) (.int .u32 0) (.int .u32 0)):=hR;clear hR;go_wp2_with fail;have RR:=HR.o.put (.int .u32 y0) (.int .u32 y1) (.int .u32 y2);refine bodyPost_ret (v:= .tuple #[.agg #[.int .u32 y0,.int .u32 y1,.int .u32 y2],zI 0]) (by simp [results,Tryz.results132,RR.c0,RR.c1,RR.c2,go_sem]) rfl ⟨?_,?_⟩
 ·rw [HH.o.1,HH.o.2.1,HH.o.2.2]
 ·exact below_put3 HB.o _ _ _ _ (by omega)
end words
namespace deb
open tar (Du du0 Came RowD Ld ErrPost TwoPost PairT)
open Go.RowKit
theorem krec:KdRec:=by
 intro w a len cap ls t bp hcame ht0 hb0;have hr:=hcame.row;have HSH:Hid (Calls Tryz.prog 191 #[.slice a len cap,zI t,zI bp] w fun e w'=>SharePost ls t bp w e w'):=pshare a len cap ls t bp w hr hcame.most;have HROW0:Hid (RowD w a len ls):=hr;clear hcame hr ht0 hb0;go_enter Tryz.func164,Tryz.ntmps164;go_wp2_with fail;refine HSH.o.mono ?_;rintro e w1 ⟨s,f,rfl,hf,hb1⟩;have HB1:Hid (Below w.heap.size w w1):=hb1;clear hb1 HSH;rcases hf with ⟨hm,hf,rfl⟩ | ⟨hm,⟨ht,hse,hg⟩ | ⟨ht,rfl,rfl⟩⟩
 ·have hne:(f != 0)=true:=by simpa using fun h=>hm (hf.ok.1 h)
  have HN:Hid (¬ Mays ls):=hm;have HF:Hid (FaultIs ls f):=hf;clear hf hm;go_wp2_with fail;go_ret3;exact ⟨none,0,0,[],0,f,rfl,.inl ⟨HN.o,HF.o,rfl,rfl⟩,fresh_nil _ _,HB1.o⟩
 ·subst hg;have HT:Hid (TMay t bp):=ht;have hsb:=share_bd ht;rw [← hse] at hsb;have HSE:Hid (s=t*bp / 10000):=hse;have HM:Hid (Mays ls):=hm;have HROW:Hid (RowD w1 a len ls):=HROW0.o.below HB1.o;have HLEN:Hid (ls.length=len):=HROW.o.1;have hl8:len≤8:=by have:=hm.1;have:=HLEN.o;omega
  clear ht hse hm HROW0;go_wp2_with fail;go_loopw [11,12,29] (fun u v x wr=>∃ (k:Nat) (V:Value),k≤len∧x=zI (k:Int)∧v=zI (max 0 (s - sumK ls k))∧V=u∧Ld 70 wr w1.heap.size V (recK ls s k)∧Below w1.heap.size w1 wr) (fun _ _ x _=>len - (intOf x).toNat)
  case atStart=>exact ⟨0,_,Nat.zero_le _,rfl,by show _=Value.int .i64 (max 0 (s - 0));rw [show max 0 (s - 0)=s by omega],rfl,tar.Ld.zero _ _ _,Below.refl _ _⟩
  case round=>
   obtain ⟨k,V,hk,rfl,rfl,hV,hu,hb⟩:=hrel;subst hV;have HBW:Hid (Below w1.heap.size w1 wr):=hb;have HU:Hid (Ld 70 wr w1.heap.size V (recK ls s k)):=hu;have hsk:=sumK_bd HM.o k (by rw [HLEN.o];exact hk);by_cases hlt:k<len
   ·have hdl:decide ((k:Int)<(len:Int))=true:=by simp;omega
    obtain ⟨b,off,rfl,hbl,hc⟩:=HROW.o.at (by omega);have c0:wr.cell? ⟨b,off+k*2,none⟩=some (zI (ls.getD k du0).a):=(hb.cell (p:=⟨b,off+k*2,none⟩) hbl).trans (hc k hlt).1;have c1:wr.cell? ⟨b,off+k*2+1,none⟩=some (zI (ls.getD k du0).b):=(hb.cell (p:=⟨b,off+k*2+1,none⟩) hbl).trans (hc k hlt).2;have ho:=HM.o.2 k (by rw [HLEN.o];exact hlt);have ho1:=ho.1.1;have ho2:=ho.1.2;have HN:Hid (sumK ls k+(ls.getD k du0).a=sumK ls (k+1)):=(sumK_next ls k).symm;have HY:Hid (0<left (ls.getD k du0).a (sumK ls k+(ls.getD k du0).a) s→recK ls s (k+1)=recK ls s k++[⟨left (ls.getD k du0).a (sumK ls k+(ls.getD k du0).a) s,(ls.getD k du0).b⟩]):=recK_yes ls s k;have HZ:Hid (¬ 0<left (ls.getD k du0).a (sumK ls k+(ls.getD k du0).a) s→recK ls s (k+1)=recK ls s k):=recK_no ls s k;have hzl:(recK ls s k).length≤1000000:=by have:=recK_len ls s k;omega
    clear hc hb hu ho;generalize recK ls s k=Z at *;generalize hq1:sumK ls k=q at *;generalize (ls.getD k du0).a=x at *;generalize (ls.getD k du0).b=y at *;have HBX:Hid (Blk (wr.alloc (.cells #[zI x,zI y] 70)) wr.heap.size #[zI x,zI y] 70):=Blk.new wr _ _;generalize hR:max 0 (s - q)=R at *;have hR0:0≤R:=by omega
    have hR1:R≤100000000:=by omega
    have hmin:=tar.run_min R x _ rfl;generalize hp:min R x=p at *;have hp0:0≤p:=by omega
    have hp1:p≤x:=by omega
    have hp2:p≤R:=by omega
    by_cases hpos:0<x - p
    ·
     have HRN:Hid (R - p=max 0 (s - sumK ls (k+1))):=by show _=_;rw [← HN.o];omega
     have hd2:decide (0<x - p)=true:=decide_eq_true hpos;have hle:left x (q+x) s=x - p:=by unfold left;omega
     rw [hle] at HY;have HZ2:Hid (recK ls s (k+1)=Z++[⟨x - p,y⟩]):=HY.o hpos;clear HY HZ hle;clear hq1 hR hp hsk HN
     go_wp2_with (first
      | (refine wp_let1 rfl 3 _ _ rfl (wr.heap.size) 0 rfl .i64 (x - p) rfl (by kernel_rfl) #[zI x,zI y] 70 HBX.o (by simp) ?_)
      | fail)
     intro W1 hU1;have HX1:Hid (Blk W1 wr.heap.size #[zI (x - p),zI y] 70):=hU1.blk;have hbw:Below wr.heap.size wr W1:=hU1.bel _ _ (Nat.le_refl _) ((Below.refl _ _).alloc (Nat.le_refl _) _);have HBW1:=shB HBW hbw;have HU1:Hid (Ld 70 W1 w1.heap.size V Z):=HU.o.next hbw;have d0:W1.cell? ⟨wr.heap.size,0,none⟩=some (zI (x - p)):=HX1.o.cell 0;have d1:W1.cell? ⟨wr.heap.size,1,none⟩=some (zI y):=HX1.o.cell 1;clear hU1 hbw HBX HBW HU c0 c1;have HBA:Hid (Below w1.heap.size w1 (W1.alloc (.cells #[zI (x - p),zI y] 70))):=HBW1.o.alloc HBW1.o.size _;have HZA:Hid (Ld 70 (W1.alloc (.cells #[zI (x - p),zI y] 70)) w1.heap.size V Z):=HU1.o.alloc _;have HCA:Hid ((W1.alloc (.cells #[zI (x - p),zI y] 70)).cell? ⟨W1.heap.size,0,none⟩=some (zI (x - p))∧(W1.alloc (.cells #[zI (x - p),zI y] 70)).cell? ⟨W1.heap.size,1,none⟩=some (zI y)):=⟨(Blk.new W1 _ _).cell 0,(Blk.new W1 _ _).cell 1⟩
     go_wp2_with (first
      | (at_builtin;refine tar.wp_pair debtT rfl _ _ rfl w1.heap.size (W1.heap.size) V Z ⟨x - p,y⟩ rfl rfl HZA.o HCA.o hzl HBA.o.size ?_)
      | fail)
     intro v3 w3 h3 hg3;have HB3:Hid (Below w1.heap.size w1 w3):=tar.own_bel HZA.o hg3 HBA.o (Nat.le_refl _) HBA.o.size;have H3:Hid (Ld 70 w3 w1.heap.size v3 (Z++[⟨x - p,y⟩])):=h3;clear h3 hg3 HZA HCA HBA HU1 d0 d1;go_wp2_with fail;go_roundw
     case rel=>exact ⟨k+1,v3,by omega,by go_num,by rw [← HRN.o],by first | rfl | trivial,by rw [HZ2.o];exact H3.o,HB3.o⟩
     case measure=>simp [intOf];omega
    ·
     have HRN:Hid (R - p=max 0 (s - sumK ls (k+1))):=by show _=_;rw [← HN.o];omega
     have hd2:decide (0<x - p)=false:=decide_eq_false hpos;have hle:¬ 0<left x (q+x) s:=by unfold left;omega
     have HZ2:Hid (recK ls s (k+1)=Z):=HZ.o hle;clear HY HZ hle;clear hq1 hR hp hsk HN
     go_wp2_with (first
      | (refine wp_let1 rfl 3 _ _ rfl (wr.heap.size) 0 rfl .i64 (x - p) rfl (by kernel_rfl) #[zI x,zI y] 70 HBX.o (by simp) ?_)
      | fail)
     intro W1 hU1;have HX1:Hid (Blk W1 wr.heap.size #[zI (x - p),zI y] 70):=hU1.blk;have hbw:Below wr.heap.size wr W1:=hU1.bel _ _ (Nat.le_refl _) ((Below.refl _ _).alloc (Nat.le_refl _) _);have HBW1:=shB HBW hbw;have HU1:Hid (Ld 70 W1 w1.heap.size V Z):=HU.o.next hbw;have d0:W1.cell? ⟨wr.heap.size,0,none⟩=some (zI (x - p)):=HX1.o.cell 0;have d1:W1.cell? ⟨wr.heap.size,1,none⟩=some (zI y):=HX1.o.cell 1;clear hU1 hbw HBX HBW HU c0 c1;go_wp2_with fail;go_roundw
     case rel=>exact ⟨k+1,V,by omega,by go_num,by rw [← HRN.o],by first | rfl | trivial,by rw [HZ2.o];exact HU1.o,HBW1.o⟩
     case measure=>simp [intOf];omega
   ·obtain rfl:k=len:=by omega
    have hdl:decide ((k:Int)<(k:Int))=false:=by simp
    have HV:Hid (sumK ls k=sumD ls):=by have:=sumK_all ls;rw [HLEN.o] at this;exact this
    have HRE:Hid (recK ls s k=recK ls (t*bp / 10000) ls.length):=by show _=_;rw [HLEN.o,HSE.o]
    have hmz:Mays (recK ls s k):=⟨Nat.le_trans (recK_len ls s k) hl8,fits_mem fun d hd=>(recK_ok HM.o s k (by rw [HLEN.o];exact Nat.le_refl _) d hd).1⟩
    obtain ⟨a3,cap3,hv3,hcm⟩:=ld_fresh hu hmz;subst hv3;have HCM:Hid (Fresh wr w.heap.size a3 (recK ls s k).length cap3 (recK ls s k)):=hcm.low HB1.o.size;have HB9:Hid (Below w.heap.size w wr):=HB1.o.trans (HBW.o.mono HB1.o.size);have HP:Hid (s - max 0 (s - sumK ls k)=min (t*bp / 10000) (sumD ls)):=by show _=_;rw [← HSE.o,← HV.o];omega
    clear hb hu hmz hcm HU;generalize (recK ls s k).length=len3 at *;generalize recK ls s k=Z at *;generalize hq:max 0 (s - sumK ls k)=q at *;have hq0:0≤q:=by omega
    have hq1:q≤s:=by omega
    clear hq hsk;go_wp2_with fail;go_ret3;exact ⟨a3,len3,cap3,Z,s - q,0,rfl,.inr (.inr ⟨HM.o,HT.o,rfl,HRE.o,HP.o⟩),HCM.o,HB9.o⟩
 ·have HM:Hid (Mays ls):=hm;have HT:Hid (¬ TMay t bp):=ht;clear ht hm;go_wp2_with fail;go_ret3;exact ⟨none,0,0,[],0,2,rfl,.inr (.inl ⟨HM.o,HT.o,rfl,rfl,rfl⟩),fresh_nil _ _,HB1.o⟩
end deb
end Go.Proofs.YtnpblpbohcegoaaGreatDoor
