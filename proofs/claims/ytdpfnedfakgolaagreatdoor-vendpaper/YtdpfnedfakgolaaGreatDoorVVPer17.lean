import Derived.Test.YtdpfnedfakgolaaGreatDoorVVPer13
import Derived.Test.YtdpfnedfakgolaaGreatDoorVVPer16
set_option linter.unusedVariables false
set_option linter.unusedSimpArgs false
set_option maxHeartbeats 4000000
set_option maxRecDepth 100000
namespace Go.Proofs.YtdpfnedfakgolaaGreatDoor
namespace rcp
open token (parseE tokOf dv)
def MMay (m:Int):Prop:=0≤m∧m≤49
structure Rc where
 me:Int
 id:Int
 te:Int
 de:Int
 fe:Int
 pr:Int
 ch:Int
 un:Int
 tk:List UInt8
def rc0:Rc:=⟨0,0,0,0,0,0,0,0,[]⟩
def Ten (z:Int):Prop:=0≤z∧z≤100000000
def RRange (r:Rc):Prop:=(Ten r.te∧Ten r.de∧Ten r.fe∧Ten r.pr)∧Ten r.ch∧(1≤r.id∧r.id≤1048575)∧0≤r.un∧r.un≤2097151
def RSum (r:Rc):Prop:=r.te - r.de - r.fe - r.pr - r.ch=0
def tokR (r:Rc):token.Tok:=tokOf (dv r.tk / 97)
def RTok (r:Rc):Prop:=((tokR r).i:Int)=r.id∧((tokR r).c=0→((tokR r).a:Int)=r.un)∧((tokR r).c≠0→r.un=0)
def FaultIs (r:Rc) (e:Int):Prop:=
 (¬ MMay r.me∧e=18)∨(MMay r.me∧¬ RRange r∧e=2)∨(MMay r.me∧RRange r∧¬ RSum r∧e=19)∨(MMay r.me∧RRange r∧RSum r∧parseE r.tk≠0∧e=parseE r.tk) ∨
 (MMay r.me∧RRange r∧RSum r∧parseE r.tk=0∧¬ RTok r∧e=8)∨(MMay r.me∧RRange r∧RSum r∧parseE r.tk=0∧RTok r∧e=0)
def Right (r:Rc):Prop:=MMay r.me∧RRange r∧RSum r∧parseE r.tk=0∧RTok r
theorem FaultIs.ok {r:Rc} {e:Int} (h:FaultIs r e):e=0↔Right r:=by
 rcases h with ⟨a,rfl⟩ | ⟨a,b,rfl⟩ | ⟨a,b,c,rfl⟩ | ⟨a,b,c,d,rfl⟩ | ⟨a,b,c,d,g,rfl⟩ | ⟨a,b,c,d,g,rfl⟩
 ·exact ⟨fun h=>absurd h (by decide),fun h=>absurd h.1 a⟩
 ·exact ⟨fun h=>absurd h (by decide),fun h=>absurd h.2.1 b⟩
 ·exact ⟨fun h=>absurd h (by decide),fun h=>absurd h.2.2.1 c⟩
 ·exact ⟨fun h=>absurd h d,fun h=>absurd h.2.2.2.1 d⟩
 ·exact ⟨fun h=>absurd h (by decide),fun h=>absurd h.2.2.2.2 g⟩
 ·exact ⟨fun _=>⟨a,b,c,d,g⟩,fun _=>rfl⟩
end rcp
namespace words
open Go.RowKit
theorem sh_lt (v:Nat) (k:Int) (hv:v<2 ^ 64):sh v k<2 ^ 64:=by
 unfold sh;split
 ·exact Nat.lt_of_le_of_lt (Nat.div_le_self _ _) hv
 ·exact Nat.mod_lt _ (by decide)
theorem ones_lt (n:Nat) (h:n≤64):onesN n<2 ^ 64:=by
 unfold onesN;have:=Nat.pow_le_pow_right (show 0<2 by decide) h;have h2:0<2 ^ n:=Nat.two_pow_pos _;omega
theorem idx0 (x y z:Int) (w:World):(Instr.index 89 (.agg #[.int .u32 x,.int .u32 y,.int .u32 z]) (zI 0)).run Tryz.prog w = .ok (.int .u32 x) w:=by kernel_rfl
theorem idx1 (x y z:Int) (w:World):(Instr.index 89 (.agg #[.int .u32 x,.int .u32 y,.int .u32 z]) (zI 1)).run Tryz.prog w = .ok (.int .u32 y) w:=by kernel_rfl
theorem idx2 (x y z:Int) (w:World):(Instr.index 89 (.agg #[.int .u32 x,.int .u32 y,.int .u32 z]) (zI 2)).run Tryz.prog w = .ok (.int .u32 z) w:=by kernel_rfl
theorem bits_any (a b c lo n:Nat) (w:World) (ha:a<2 ^ 32) (hb:b<2 ^ 32) (hc:c<2 ^ 32) (n0:1≤n) (n1:n≤64) (hl:lo+n≤96) :
  Calls Tryz.prog 28 #[.agg #[.int .u32 (a:Int),.int .u32 (b:Int),.int .u32 (c:Int)],zI (lo:Int),zI (n:Int)] w fun e w'=>e = .returned (.tuple #[.int .u64 (bitsN a b c lo n:Nat),zI 0])∧Below w.heap.size w w':=by
 have a1:(a:Int)<4294967296:=by omega
 have b1:(b:Int)<4294967296:=by omega
 have c1:(c:Int)<4294967296:=by omega
 have HB:Hid (Below w.heap.size w (w.alloc (.cells #[.int .u32 (a:Int),.int .u32 (b:Int),.int .u32 (c:Int)] 89))):=(Below.refl _ w).alloc (Nat.le_refl _) _;have hE:bitsN a b c lo n=(sh a (-(lo:Int)) ||| sh b (32 - (lo:Int)) ||| sh c (64 - (lo:Int))) &&& onesN n:=by unfold bitsN;rw [Int.zero_sub]
 have HE:Hid (bitsN a b c lo n=(sh a (-(lo:Int)) ||| sh b (32 - (lo:Int)) ||| sh c (64 - (lo:Int))) &&& onesN n):=hE;clear hE;have i0:=idx0 (a:Int) (b:Int) (c:Int);have i1:=idx1 (a:Int) (b:Int) (c:Int);have i2:=idx2 (a:Int) (b:Int) (c:Int);go_enter Tryz.func28,Tryz.ntmps28;go_wp2_with fail;refine (isField_yes _ _ _ (by omega) (by omega) (by omega) (by omega)).mono ?_;rintro e wr ⟨rfl,rfl⟩;go_wp2_with fail;refine wp_loop_rounds 4 ?_;rw [rounds_succ];go_wp2_with fail;refine (shift_any a _ _ (by omega) (by omega) (by omega)).mono ?_;rintro e wr ⟨rfl,rfl⟩
 have o1:bits .or .u64 0 ((sh a (-(lo:Int)):Nat):Int)=((sh a (-(lo:Int)):Nat):Int):=by
  have:=or64 0 (sh a (-(lo:Int))) (by decide) (sh_lt _ _ (by omega));simpa using this
 have l0:sh a (-(lo:Int))<2 ^ 64:=sh_lt _ _ (by omega);generalize sh a (-(lo:Int))=s0 at *;go_wp2_with fail;rw [rounds_succ];go_wp2_with fail;refine (shift_any b _ _ (by omega) (by omega) (by omega)).mono ?_;rintro e wr ⟨rfl,rfl⟩;have l1:sh b (32 - (lo:Int))<2 ^ 64:=sh_lt _ _ (by omega);have o2:=or64 s0 (sh b (32 - (lo:Int))) l0 l1;have l01:=Nat.or_lt_two_pow l0 l1;clear o1;generalize sh b (32 - (lo:Int))=s1 at *;go_wp2_with fail;rw [rounds_succ];go_wp2_with fail;refine (shift_any c _ _ (by omega) (by omega) (by omega)).mono ?_;rintro e wr ⟨rfl,rfl⟩;have l2:sh c (64 - (lo:Int))<2 ^ 64:=sh_lt _ _ (by omega);have o3:=or64 (s0 ||| s1) (sh c (64 - (lo:Int))) l01 l2;have l02:=Nat.or_lt_two_pow l01 l2;clear o2;generalize sh c (64 - (lo:Int))=s2 at *;go_wp2_with fail;rw [rounds_succ];go_wp2_with fail;refine (ones_any n _ (by omega) (by omega)).mono ?_;rintro e wr ⟨rfl,rfl⟩;have ln:onesN n<2 ^ 64:=ones_lt n (by omega);have o4:=and64 (s0 ||| s1 ||| s2) (onesN n) l02 ln;clear o3;go_wp2_with fail;go_ret2;exact ⟨by rw [HE.o];rfl,HB.o⟩
theorem run_putStep (args:Array Value) (w:World):(callFunc 94 args).run Tryz.prog w = .ok (.enter 94 args) w:=by kernel_rfl
theorem low32 (s:Nat):((s:Nat):Int) % 4294967296=((s % 2 ^ 32:Nat):Int):=by omega
theorem putStep_abs (N At V:Nat) (x v n k M s r f g z y:Int) (w:World) (hn:w.cell? ⟨N,0,none⟩=some (zI n)) (hat:w.cell? ⟨At,0,none⟩=some (zI k)) (hf:w.frozen? ⟨At,0,none⟩=false) (hv:w.cell? ⟨V,0,none⟩=some (.int .u64 v))
  (HO:Hid (∀ w,Calls Tryz.prog 61 #[zI n] w fun e w'=>e = .returned (.int .u64 M)∧w'=w))
  (HS:Hid (∀ w,Calls Tryz.prog 60 #[.int .u64 M,zI k] w fun e w'=>e = .returned (.int .u64 s)∧w'=w))
  (HT:Hid (∀ w,Calls Tryz.prog 60 #[.int .u64 v,zI k] w fun e w'=>e = .returned (.int .u64 r)∧w'=w))
  (q1:s % 4294967296=f) (q2:r % 4294967296=g) (o1:bits .andNot .u32 x f=z) (o2:bits .or .u32 z g=y) (k0:-64≤k) (k1:k≤96) :
  Calls Tryz.prog 94 #[.int .u32 x,.pointer (some ⟨N,0,none⟩),.pointer (some ⟨At,0,none⟩),.pointer (some ⟨V,0,none⟩)] w fun e w'=>e = .returned (.int .u32 y)∧Acc w w' At (zI (k - 32)):=by
 have hA:Acc w w At (zI k):=Acc.refl hat hf;have HA:Hid (Acc w w At (zI k)):=hA;clear hA;go_enter Tryz.func94,Tryz.ntmps94;go_wp2_with fail
 go_quiet (first
  | (go_at_call 61;exact (HO.o _).mono fun _ _ h=>⟨h.1,_,h.2⟩)
  | (go_at_call_of 60 (Value.int .u64 M);exact (HS.o _).mono fun _ _ h=>⟨h.1,_,h.2⟩)
  | (go_at_call_of 60 (Value.int .u64 v);exact (HT.o _).mono fun _ _ h=>⟨h.1,_,h.2⟩))
 go_wp2_with fail;go_ret;exact ⟨rfl,(HA.o.drewN _).set _⟩
theorem putStep_any (N At V:Nat) (x v n:Nat) (k:Int) (w:World) (hn:w.cell? ⟨N,0,none⟩=some (zI (n:Int))) (hat:w.cell? ⟨At,0,none⟩=some (zI k)) (hf:w.frozen? ⟨At,0,none⟩=false) (hv:w.cell? ⟨V,0,none⟩=some (.int .u64 (v:Int)))
  (x1:x<2 ^ 32) (v1:v<2 ^ 64) (n0:1≤n) (n1:n≤64) (k0:-64≤k) (k1:k≤96) :
  Calls Tryz.prog 94 #[.int .u32 (x:Int),.pointer (some ⟨N,0,none⟩),.pointer (some ⟨At,0,none⟩),.pointer (some ⟨V,0,none⟩)] w fun e w'=>e = .returned (.int .u32 (putN x v n k:Nat))∧Acc w w' At (zI (k - 32)):=by
 have l1:sh (onesN n) k % 2 ^ 32<2 ^ 32:=Nat.mod_lt _ (by decide);have l2:sh v k % 2 ^ 32<2 ^ 32:=Nat.mod_lt _ (by decide);have l3:x &&& (2 ^ 32 - 1 - sh (onesN n) k % 2 ^ 32)<2 ^ 32:=Nat.lt_of_le_of_lt Nat.and_le_left x1
 exact putStep_abs N At V x v n k (onesN n:Nat) (sh (onesN n) k:Nat) (sh v k:Nat) _ _ _ _ w hn hat hf hv
  (fun w=>ones_any n w n0 n1) (fun w=>shift_any _ _ w (ones_lt n n1) (by omega) k1) (fun w=>shift_any _ _ w v1 (by omega) k1)
  (low32 _) (low32 _) (andNot32 x _ x1 l1) (or32 _ _ l3 l2) k0 k1
theorem five (w:World) (cs:Array Value) (T1 T2 T3 T5:TypeId) (m v x y z u:Value) (q:Nat) :
  (((((((w.alloc (.cells cs T1)).alloc (.cells #[m] T2)).alloc (.cells #[v] T3)).alloc (.cells #[x,y,z] 89)).drewN q).alloc (.cells #[u] T5)).cell? ⟨w.heap.size+1,0,none⟩=some m) ∧
  (((((((w.alloc (.cells cs T1)).alloc (.cells #[m] T2)).alloc (.cells #[v] T3)).alloc (.cells #[x,y,z] 89)).drewN q).alloc (.cells #[u] T5)).cell? ⟨w.heap.size+1+1,0,none⟩=some v) ∧
  Trio ((((((w.alloc (.cells cs T1)).alloc (.cells #[m] T2)).alloc (.cells #[v] T3)).alloc (.cells #[x,y,z] 89)).drewN q).alloc (.cells #[u] T5)) (w.heap.size+1+1+1) x y z ∧
  (((((((w.alloc (.cells cs T1)).alloc (.cells #[m] T2)).alloc (.cells #[v] T3)).alloc (.cells #[x,y,z] 89)).drewN q).alloc (.cells #[u] T5)).cell? ⟨w.heap.size+1+1+1+1,0,none⟩=some u) ∧
  (((((((w.alloc (.cells cs T1)).alloc (.cells #[m] T2)).alloc (.cells #[v] T3)).alloc (.cells #[x,y,z] 89)).drewN q).alloc (.cells #[u] T5)).frozen? ⟨w.heap.size+1+1+1+1,0,none⟩=false):=by
 have hh:((((((w.alloc (.cells cs T1)).alloc (.cells #[m] T2)).alloc (.cells #[v] T3)).alloc (.cells #[x,y,z] 89)).drewN q).alloc (.cells #[u] T5)).heap=((((w.heap.push (.cells cs T1)).push (.cells #[m] T2)).push (.cells #[v] T3)).push (.cells #[x,y,z] 89)).push (.cells #[u] T5):=rfl;have s1:w.heap.size+1=(w.heap.push (.cells cs T1)).size:=by simp
 have s2:w.heap.size+1+1=((w.heap.push (.cells cs T1)).push (.cells #[m] T2)).size:=by simp
 have s3:w.heap.size+1+1+1=(((w.heap.push (.cells cs T1)).push (.cells #[m] T2)).push (.cells #[v] T3)).size:=by simp
 have s4:w.heap.size+1+1+1+1=((((w.heap.push (.cells cs T1)).push (.cells #[m] T2)).push (.cells #[v] T3)).push (.cells #[x,y,z] 89)).size:=by simp
 generalize ((((((w.alloc (.cells cs T1)).alloc (.cells #[m] T2)).alloc (.cells #[v] T3)).alloc (.cells #[x,y,z] 89)).drewN q).alloc (.cells #[u] T5))=W at *
 have e1:W.heap[w.heap.size+1]?=some (.cells #[m] T2):=by
  rw [hh,Array.getElem?_push,if_neg (by simp),Array.getElem?_push,if_neg (by simp),Array.getElem?_push,if_neg (by simp),s1,Array.getElem?_push_size]
 have e2:W.heap[w.heap.size+1+1]?=some (.cells #[v] T3):=by
  rw [hh,Array.getElem?_push,if_neg (by simp),Array.getElem?_push,if_neg (by simp),s2,Array.getElem?_push_size]
 have e3:W.heap[w.heap.size+1+1+1]?=some (.cells #[x,y,z] 89):=by
  rw [hh,Array.getElem?_push,if_neg (by simp),s3,Array.getElem?_push_size]
 have e4:W.heap[w.heap.size+1+1+1+1]?=some (.cells #[u] T5):=by
  rw [hh,s4,Array.getElem?_push_size]
 refine ⟨?_,?_,e3,?_,?_⟩
 ·simp only [World.cell?,e1];rfl
 ·simp only [World.cell?,e2];rfl
 ·simp only [World.cell?,e4];rfl
 ·simp only [World.frozen?,e4];rfl
theorem bel5 (w:World) (o1 o2 o3 o4 o5:Obj) (q:Nat):Below w.heap.size w (((((w.alloc o1).alloc o2).alloc o3).alloc o4).drewN q |>.alloc o5):=
 (below_drewN (bel4 w o1 o2 o3 o4) q).alloc (by show _≤((((w.heap.push o1).push o2).push o3).push o4).size;simp;omega) _
theorem put_any (a b c v lo n:Nat) (w:World) (ha:a<2 ^ 32) (hb:b<2 ^ 32) (hc:c<2 ^ 32) (hv:v<2 ^ n) (n0:1≤n) (n1:n≤64) (hl:lo+n≤96) :
  Calls Tryz.prog 62 #[.agg #[.int .u32 (a:Int),.int .u32 (b:Int),.int .u32 (c:Int)],zI (lo:Int),zI (n:Int),.int .u64 (v:Int)] w fun e w'=>
   e = .returned (.tuple #[.agg #[.int .u32 (putN a v n lo:Nat),.int .u32 (putN b v n ((lo:Int) - 32):Nat),.int .u32 (putN c v n ((lo:Int) - 64):Nat)],zI 0])∧Below w.heap.size w w':=by
 have v1:v<2 ^ 64:=Nat.lt_of_lt_of_le hv (Nat.pow_le_pow_right (by decide) n1);have HI:Hid (∀ w,Calls Tryz.prog 59 #[zI (lo:Int),zI (n:Int)] w fun e w'=>e = .returned (.bool true)∧w'=w):=fun w=>isField_yes _ _ w (by omega) (by omega) (by omega) (by omega);have HO:Hid (∀ w,Calls Tryz.prog 61 #[zI (n:Int)] w fun e w'=>e = .returned (.int .u64 (onesN n:Nat))∧w'=w):=fun w=>ones_any n w n0 n1;have hd:decide (((onesN n:Nat):Int)<(v:Int))=false:=decide_eq_false (by unfold onesN;omega);have e64:(lo:Int) - 32 - 32=(lo:Int) - 64:=by omega
 generalize ((onesN n:Nat):Int)=M at *;rw [← e64];go_enter Tryz.func62,Tryz.ntmps62;go_wp2_with fail
 go_quiet (first
  | (go_at_call 59;exact (HI.o _).mono fun _ _ h=>⟨h.1,_,h.2⟩)
  | (go_at_call 61;exact (HO.o _).mono fun _ _ h=>⟨h.1,_,h.2⟩))
 go_wp2_with fail;obtain ⟨f1,f2,f3,f4,f5⟩:=five w #[.int .u32 (a:Int),.int .u32 (b:Int),.int .u32 (c:Int)] 89 3 97 3 (zI (n:Int)) (.int .u64 (v:Int)) (.int .u32 0) (.int .u32 0) (.int .u32 0) (zI (lo:Int)) nq;have hb5:=bel5 w (.cells #[.int .u32 (a:Int),.int .u32 (b:Int),.int .u32 (c:Int)] 89) (.cells #[zI (n:Int)] 3) (.cells #[.int .u64 (v:Int)] 97) (.cells #[.int .u32 0,.int .u32 0,.int .u32 0] 89) (.cells #[zI (lo:Int)] 3) nq
 refine (upward_any 94 #[.pointer (some ⟨w.heap.size+1,0,none⟩),.pointer (some ⟨w.heap.size+1+1+1+1,0,none⟩),.pointer (some ⟨w.heap.size+1+1,0,none⟩)] (w.heap.size+1+1+1+1) (zI (lo:Int)) (zI ((lo:Int) - 32)) (zI ((lo:Int) - 32 - 32)) (zI ((lo:Int) - 32 - 32 - 32)) a b c
  (putN a v n lo:Nat) (putN b v n ((lo:Int) - 32):Nat) (putN c v n ((lo:Int) - 32 - 32):Nat) _ (Acc.refl f4 f5) run_putStep
  (fun w' h=>putStep_any _ _ _ _ _ _ _ w' (h.keep f1 (by omega)) h.cell h.free (h.keep f2 (by omega)) ha v1 n0 n1 (by omega) (by omega))
  (fun w' h=>putStep_any _ _ _ _ _ _ _ w' (h.keep f1 (by omega)) h.cell h.free (h.keep f2 (by omega)) hb v1 n0 n1 (by omega) (by omega))
  (fun w' h=>putStep_any _ _ _ _ _ _ _ w' (h.keep f1 (by omega)) h.cell h.free (h.keep f2 (by omega)) hc v1 n0 n1 (by omega) (by omega))).mono ?_
 rintro e w1 ⟨he,hA⟩;have hR:=f3.acc hA (by omega);have HB:Hid (Below w.heap.size w w1):=hA.below hb5 (by omega);clear hA f1 f2 f3 f4 f5 hb5;have HE2:Hid (e = .returned (.agg #[.int .u32 (putN a v n lo:Nat),.int .u32 (putN b v n ((lo:Int) - 32):Nat),.int .u32 (putN c v n ((lo:Int) - 32 - 32):Nat)])):=he;clear he;obtain ⟨y0,h0⟩:∃ y0:Int,y0=(putN a v n lo:Nat):=⟨_,rfl⟩
 obtain ⟨y1,h1⟩:∃ y1:Int,y1=(putN b v n ((lo:Int) - 32):Nat):=⟨_,rfl⟩
 obtain ⟨y2,h2⟩:∃ y2:Int,y2=(putN c v n ((lo:Int) - 32 - 32):Nat):=⟨_,rfl⟩
 have HH:Hid (y0=(putN a v n lo:Nat)∧y1=(putN b v n ((lo:Int) - 32):Nat)∧y2=(putN c v n ((lo:Int) - 32 - 32):Nat)):=⟨h0,h1,h2⟩
 rw [← h0,← h1,← h2] at HE2;obtain rfl:=HE2.o;clear HE2 h0 h1 h2;have r0:=hR.c0;have r1:=hR.c1;have r2:=hR.c2;have g0:=hR.free 0;have g1:=hR.free 1;have g2:=hR.free 2;have HR:Hid (Trio w1 (w.heap.size+1+1+1) (.int .u32 0) (.int .u32 0) (.int .u32 0)):=hR;clear hR;go_wp2_with fail;have RR:=HR.o.put (.int .u32 y0) (.int .u32 y1) (.int .u32 y2);refine bodyPost_ret (v:= .tuple #[.agg #[.int .u32 y0,.int .u32 y1,.int .u32 y2],zI 0]) (by simp [results,Tryz.results62,RR.c0,RR.c1,RR.c2,go_sem]) rfl ⟨?_,?_⟩
 ·rw [HH.o.1,HH.o.2.1,HH.o.2.2]
 ·exact below_put3 HB.o _ _ _ _ (by omega)
end words
namespace acc
open tar (Du du0 Came RowD Ld PairT)
open Go.RowKit
theorem wp_copyD {P:Program} {T S:TypeId} (hP:PairT P T S) {w:World} {ops:Array Oper} {rest:List Oper} {o:Oper} {a:Act} {Q:Exit→Act→World→Prop} (hgd:o.guard=none) (s x:Operand)
  (ho:o.op = .call { callee:= .builtin .append,args:=#[s,x],argTypes:=#[S,S] })
  (base:Nat) (p:Option Addr) (len cap:Nat) (zs:List Du) (hs:a.eval s=zS) (hx:a.eval x = .slice p len cap) (hc:Came w p len cap zs) (hbase:base≤w.heap.size)
  (h:∀ v' w',Ld T w' base v' zs→w.grownBy w' none→wpList P ops Q rest (a.put o.dst v') w'):wpList P ops Q (o :: rest) a w:=by
 cases p with
 | some A=>exact tar.wp_pairs hP hgd s x ho base A len cap zs hs hx hc.row hc.bytes hbase h
 | none=>
  have h0:=hc.nil rfl;have h1:len=0:=by have:=hc.room;omega
  have h2:zs=[]:=List.eq_nil_of_length_eq_zero (by have:=hc.row.1;omega);subst h0 h1 h2;have hu:=hP.under;have hi0:=hP.info;cases hq:P.info? T with
  | none=>rw [hq] at hi0;cases hi0
  | some i=>
   refine wpList_append_own_none hgd s x S ho base T i 2 hu hq (zS) 0 [] hs (World.ownsRow_nil _ _ _ _) hx ?_;exact h _ _ (tar.Ld.zero _ _ _) ⟨rfl,rfl,rfl,Nat.le_refl _,fun _ _ _=>rfl⟩
theorem pwork (F:Nat) (caps:Array Value) (Is:Ac→Bi→Int→Prop) (x:Ac) (p:Option Addr) (len cap:Nat) (w:World) (hc:Came w p len cap x.ds) (h5:¬ AMay x→Is ac0 bi0 5) (hK:∀ args w,(callFunc F args).run Tryz.prog w = .ok (.enter F args) w)
  (hf:AMay x→∀ (W:World) (g:Nat) (p':Option Addr) (cap':Nat),Below w.heap.size w W→w.heap.size≤g→Blk W g (wcs x bi0 p' len cap') 233→Ld 83 W (g+1) (.slice p' len cap') x.ds→Calls Tryz.prog F (#[.pointer (some ⟨g,0,none⟩)]++caps) W fun e w'=>WPost W g (Or0 Is) e w') :
  Calls Tryz.prog 78 #[.agg #[zI x.me,zI x.rv,zI x.nx,zI x.mo,zI x.bo,zI x.fr,.slice p len cap],.func (.func F) #[] caps] w fun e w'=>BPost w Is e w':=by
 have HFU:Hid (AMay x→∀ (W:World) (g:Nat) (p':Option Addr) (cap':Nat),Below w.heap.size w W→w.heap.size≤g→Blk W g (wcs x bi0 p' len cap') 233→Ld 83 W (g+1) (.slice p' len cap') x.ds→Calls Tryz.prog F (#[.pointer (some ⟨g,0,none⟩)]++caps) W fun e w'=>WPost W g (Or0 Is) e w'):=hf;have HLEN:Hid (x.ds.length=len):=hc.row.1;have H5:Hid (¬ AMay x→Is ac0 bi0 5):=h5;clear hf h5;obtain ⟨W0,HWW,H0d,H0r,H0l,H0B,hs0⟩:=sh3 w #[zI x.me,zI x.rv,zI x.nx,zI x.mo,zI x.bo,zI x.fr,.slice p len cap] 61 #[zI 0,zI 0,zI 0,zI 0,zI 0,zI 0,zS] 61 #[zI 0,zI 0,zI 0,zI 0,zI 0,zI 0,zI 0] 48;have H0R:Hid (Came W0 p len cap x.ds):=hc.below H0B.o;go_enter Tryz.func78,Tryz.ntmps78;go_upto_region 1 with fail
 rw [HWW.o];clear HWW;clear hc;have HPM:Hid (Calls Tryz.prog 119 #[.agg #[zI x.me,zI x.rv,zI x.nx,zI x.mo,zI x.bo,zI x.fr,.slice p len cap]] W0 fun e w'=>MayPost W0 x e w'):=pmay x p len cap W0 H0R.o
 go_wp2_with (first
  | (refine zqw rfl rfl rfl H0d zqu61 ?_)
  | (refine zqw rfl rfl rfl H0r zqu61 ?_)
  | (refine zqw rfl rfl rfl H0l zqu48 ?_)
  | fail)
 refine HPM.o.mono ?_;rintro e w1 ⟨r,rfl,hr,hb1⟩;have H1d:=shN H0d hb1;have H1r:=shN H0r hb1;have H1l:=shN H0l hb1;have H1R:Hid (Came w1 p len cap x.ds):=H0R.o.below hb1;have H1B:=shB H0B hb1;have hsw1:W0.heap.size≤w1.heap.size:=hb1.size;clear hb1 H0d H0r H0l H0R H0B;clear HPM;cases r with
 | false=>
  have HV:Hid (Is ac0 bi0 5):=H5.o fun h=>Bool.noConfusion (hr.2 h);clear hr H5 HFU hK
  go_wp2_with (first
   | (refine zql rfl rfl rfl rfl zqu61 (by simp [Value.oneCell']) H1r rfl ?_)
   | (refine zqw rfl rfl rfl H1d zqu61 ?_)
   | (refine zqw rfl rfl rfl H1r zqu61 ?_)
   | (refine zqw rfl rfl rfl H1l zqu48 ?_)
   | fail)
  intro w1a hU;have H2d:=shK hU H1d (by omega);have H2r:Hid (Blk w1a (w.heap.size+1) #[zI 0,zI 0,zI 0,zI 0,zI 0,zI 0,zS] 61):=hU.blk;have H2l:=shK hU H1l (by omega);have H2B:=shV hU H1B (by omega);have hsw1a:w1a.heap.size=w1.heap.size:=hU.size;clear hU H1d H1r H1l H1R H1B
  go_wp2_with (first
   | (refine zql rfl rfl rfl rfl zqu48 (by simp [Value.oneCell']) H2l rfl ?_)
   | (refine zqw rfl rfl rfl H2d zqu61 ?_)
   | (refine zqw rfl rfl rfl H2r zqu61 ?_)
   | (refine zqw rfl rfl rfl H2l zqu48 ?_)
   | fail)
  intro w1ab hU;have H3d:=shK hU H2d (by omega);have H3r:=shK hU H2r (by omega);have H3l:Hid (Blk w1ab (w.heap.size+1+1) #[zI 0,zI 0,zI 0,zI 0,zI 0,zI 0,zI 0] 48):=hU.blk;have H3B:=shV hU H2B (by omega);have hsw1ab:w1ab.heap.size=w1a.heap.size:=hU.size;clear hU H2d H2r H2l H2B;obtain ⟨Rr0,Rr1,Rr2,Rr3,Rr4,Rr5,Rr6⟩:=shc7 H3r;obtain ⟨Rl0,Rl1,Rl2,Rl3,Rl4,Rl5,Rl6⟩:=shc7 H3l;go_wp2_with fail;exact bodyPost_ret (v:= .tuple #[.agg #[zI 0,zI 0,zI 0,zI 0,zI 0,zI 0,zS],.agg #[zI 0,zI 0,zI 0,zI 0,zI 0,zI 0,zI 0],zI 5]) (by simp [results,Tryz.results78,Rr0.o,Rr1.o,Rr2.o,Rr3.o,Rr4.o,Rr5.o,Rr6.o,Rl0.o,Rl1.o,Rl2.o,Rl3.o,Rl4.o,Rl5.o,Rl6.o,go_sem]) rfl ⟨ac0,bi0,none,0,0,_,rfl,HV.o,deb.fresh_nil _ _,H3B.o⟩
 | true=>
  have HM:Hid (AMay x):=hr.1 rfl;clear hr H5;have HSV:Hid (Blk w1 (w.heap.size) #[zI x.me,zI x.rv,zI x.nx,zI x.mo,zI x.bo,zI x.fr,.slice p len cap] 61):=H1d.o;have H2d:Hid (Blk (w1.alloc (.cells #[zI x.me,zI x.rv,zI x.nx,zI x.mo,zI x.bo,zI x.fr,.slice p len cap,zI 0,zI 0,zI 0,zI 0,zI 0,zI 0,zI 0] 233)) (w.heap.size) #[zI x.me,zI x.rv,zI x.nx,zI x.mo,zI x.bo,zI x.fr,.slice p len cap] 61):=H1d.o.alloc _;have H2r:Hid (Blk (w1.alloc (.cells #[zI x.me,zI x.rv,zI x.nx,zI x.mo,zI x.bo,zI x.fr,.slice p len cap,zI 0,zI 0,zI 0,zI 0,zI 0,zI 0,zI 0] 233)) (w.heap.size+1) #[zI 0,zI 0,zI 0,zI 0,zI 0,zI 0,zS] 61):=H1r.o.alloc _;have H2l:Hid (Blk (w1.alloc (.cells #[zI x.me,zI x.rv,zI x.nx,zI x.mo,zI x.bo,zI x.fr,.slice p len cap,zI 0,zI 0,zI 0,zI 0,zI 0,zI 0,zI 0] 233)) (w.heap.size+1+1) #[zI 0,zI 0,zI 0,zI 0,zI 0,zI 0,zI 0] 48):=H1l.o.alloc _;have H2R:Hid (Came (w1.alloc (.cells #[zI x.me,zI x.rv,zI x.nx,zI x.mo,zI x.bo,zI x.fr,.slice p len cap,zI 0,zI 0,zI 0,zI 0,zI 0,zI 0,zI 0] 233)) p len cap x.ds):=H1R.o.below ((Below.refl _ _).alloc (Nat.le_refl _) _);have H2n:Hid (Blk (w1.alloc (.cells #[zI x.me,zI x.rv,zI x.nx,zI x.mo,zI x.bo,zI x.fr,.slice p len cap,zI 0,zI 0,zI 0,zI 0,zI 0,zI 0,zI 0] 233)) (w1.heap.size) #[zI x.me,zI x.rv,zI x.nx,zI x.mo,zI x.bo,zI x.fr,.slice p len cap,zI 0,zI 0,zI 0,zI 0,zI 0,zI 0,zI 0] 233):=Blk.new w1 _ _;have H2B:Hid (Below w.heap.size w (w1.alloc (.cells #[zI x.me,zI x.rv,zI x.nx,zI x.mo,zI x.bo,zI x.fr,.slice p len cap,zI 0,zI 0,zI 0,zI 0,zI 0,zI 0,zI 0] 233))):=H1B.o.alloc H1B.o.size _;have hsW2:(w1.alloc (.cells #[zI x.me,zI x.rv,zI x.nx,zI x.mo,zI x.bo,zI x.fr,.slice p len cap,zI 0,zI 0,zI 0,zI 0,zI 0,zI 0,zI 0] 233)).heap.size=w1.heap.size+1:=by simp
  clear H1d H1r H1l H1R H1B;go_upto_region 4 with (first | (refine zqw rfl rfl rfl HSV zqu61 ?_) | fail)
  generalize (w1.alloc (.cells #[zI x.me,zI x.rv,zI x.nx,zI x.mo,zI x.bo,zI x.fr,.slice p len cap,zI 0,zI 0,zI 0,zI 0,zI 0,zI 0,zI 0] 233))=W2 at *;clear HSV;have qd6:W2.cell? ⟨w.heap.size,6,none⟩=some (.slice p len cap):=H2d.o.cell 6
  go_wp2_with (first
   | (at_builtin;refine wp_copyD deb.debtT rfl _ _ rfl (w1.heap.size+1) p len cap x.ds rfl rfl H2R.o (by omega) ?_)
   | (refine zqw rfl rfl rfl H2d zqu61 ?_)
   | (refine zqw rfl rfl rfl H2r zqu61 ?_)
   | (refine zqw rfl rfl rfl H2l zqu48 ?_)
   | (refine zqw rfl rfl rfl H2n zqu233 ?_)
   | fail)
  intro v3 w3 hl3 hg3;have hb3:Below W2.heap.size W2 w3:=(Below.refl _ _).grown hg3 (Nat.le_refl _) (fun k hk=>by cases hk);obtain ⟨p3,cap3,hv3,hf3⟩:=deb.ld_fresh hl3 HM.o.1;rw [HLEN.o] at hv3 hf3;subst hv3;have H3d:=shN H2d hb3;have H3r:=shN H2r hb3;have H3l:=shN H2l hb3;have H3n:=shN H2n hb3;have H3B:=shB H2B hb3;have HL3:Hid (Ld 83 w3 (w1.heap.size+1) (.slice p3 len cap3) x.ds):=hl3;have hsw3:W2.heap.size≤w3.heap.size:=hb3.size;clear hl3 hg3 hb3 hf3 qd6 H2d H2r H2l H2n H2B
  go_wp2_with (first
   | (refine wp_letS rfl 59 _ _ rfl (w1.heap.size) 6 rfl p3 len cap3 rfl (by kernel_rfl) #[zI x.me,zI x.rv,zI x.nx,zI x.mo,zI x.bo,zI x.fr,.slice p len cap,zI 0,zI 0,zI 0,zI 0,zI 0,zI 0,zI 0] 233 H3n.o (by simp) ?_)
   | (refine zqw rfl rfl rfl H3d zqu61 ?_)
   | (refine zqw rfl rfl rfl H3r zqu61 ?_)
   | (refine zqw rfl rfl rfl H3l zqu48 ?_)
   | (refine zqw rfl rfl rfl H3n zqu233 ?_)
   | fail)
  intro W4 hU;have H4d:=shK hU H3d (by omega);have H4r:=shK hU H3r (by omega);have H4l:=shK hU H3l (by omega);have H4n:Hid (Blk W4 (w1.heap.size) #[zI x.me,zI x.rv,zI x.nx,zI x.mo,zI x.bo,zI x.fr,.slice p3 len cap3,zI 0,zI 0,zI 0,zI 0,zI 0,zI 0,zI 0] 233):=hU.blk;have H4B:=shV hU H3B (by omega);have HL4:Hid (Ld 83 W4 (w1.heap.size+1) (.slice p3 len cap3) x.ds):=ld_upd HL3.o hU (by omega);have HCA:Hid (Calls Tryz.prog F (#[.pointer (some ⟨w1.heap.size,0,none⟩)]++caps) W4 fun e w'=>WPost W4 w1.heap.size (Or0 Is) e w'):=HFU.o HM.o W4 w1.heap.size p3 cap3 H4B.o (by omega) H4n.o HL4.o;have hsW4:W4.heap.size=w3.heap.size:=hU.size;clear hU HL3 HL4 HFU H3d H3r H3l H3n H3B;go_wp2_with fail;refine HCA.o.mono ?_;rintro e w5 ⟨y,b,q,n,c,f,rfl,hor,hi5,hf5,hb5⟩;have H5d:Hid (Blk w5 (w.heap.size) #[zI x.me,zI x.rv,zI x.nx,zI x.mo,zI x.bo,zI x.fr,.slice p len cap] 61):=H4d.o.below hb5 (by omega);have H5r:Hid (Blk w5 (w.heap.size+1) #[zI 0,zI 0,zI 0,zI 0,zI 0,zI 0,zS] 61):=H4r.o.below hb5 (by omega);have H5l:Hid (Blk w5 (w.heap.size+1+1) #[zI 0,zI 0,zI 0,zI 0,zI 0,zI 0,zI 0] 48):=H4l.o.below hb5 (by omega);have H5n:Hid (Blk w5 (w1.heap.size) #[zI y.me,zI y.rv,zI y.nx,zI y.mo,zI y.bo,zI y.fr,.slice q n c,zI b.id,zI b.te,zI b.de,zI b.fe,zI b.pr,zI b.ch,zI b.un] 233):=hi5;have H5B:Hid (Below w.heap.size w w5):=H4B.o.trans (hb5.mono (by omega));have hsw5:W4.heap.size≤w5.heap.size:=hb5.size;have H6F:Hid (deb.Fresh w5 (w1.heap.size+1) q n c y.ds):=hf5;have HUPF:Hid (0<n→∀ y,q=some y→y.block<w5.heap.size):=came_lt H6F.o.came;have HOR:Hid (Or0 Is y b f):=hor;clear hor hi5 hf5 hb5 HCA hK H4d H4r H4l H4n H4B;by_cases h0:f=0
  ·subst h0
   have HV:Hid (Is y b 0):=by
    rcases HOR.o with ⟨h,_⟩ | ⟨_,h⟩
    ·exact absurd rfl h
    ·exact h
   clear HOR;go_wp2_with fail;refine wp_region_held_drew (S:=fun v=>Blk v (w1.heap.size) #[zI y.me,zI y.rv,zI y.nx,zI y.mo,zI y.bo,zI y.fr,.slice q n c,zI b.id,zI b.te,zI b.de,zI b.fe,zI b.pr,zI b.ch,zI b.un] 233) (by kernel_rfl) (Blk.drew H5n.o 1) (fun hHeld=>?_);refine zqs 0 28 (.pointer (some ⟨w1.heap.size,0,none⟩)) rfl rfl (by kernel_rfl) zid rfl (fun v hv=>by clear hv;go_simp) hHeld ?_;simp only [zq];refine zqt 1 29 (.agg #[zI y.me,zI y.rv,zI y.nx,zI y.mo,zI y.bo,zI y.fr,.slice q n c]) rfl rfl (by kernel_rfl) zid (Or.inl ⟨by rfl,fun v hv=>by have g0:=hv.cell 0;have g1:=hv.cell 1;have g2:=hv.cell 2;have g3:=hv.cell 3;have g4:=hv.cell 4;have g5:=hv.cell 5;have g6:=hv.cell 6;clear hv;go_simp⟩) hHeld ?_;simp only [zq];refine zqs 2 30 (.pointer (some ⟨w1.heap.size,7,none⟩)) rfl rfl (by kernel_rfl) zid rfl (fun v hv=>by clear hv;go_simp) hHeld ?_;simp only [zq];refine zqt 3 31 (.agg #[zI b.id,zI b.te,zI b.de,zI b.fe,zI b.pr,zI b.ch,zI b.un]) rfl rfl (by kernel_rfl) zid (Or.inl ⟨by rfl,fun v hv=>by have g0:=hv.cell 7;have g1:=hv.cell 8;have g2:=hv.cell 9;have g3:=hv.cell 10;have g4:=hv.cell 11;have g5:=hv.cell 12;have g6:=hv.cell 13;clear hv;go_simp⟩) hHeld ?_;simp only [zq];refine zqo 4 (by kernel_rfl) rfl (fun K hK=>?_);rw [if_pos (by rfl)];refine wp_letOp 61 _ _ rfl (w.heap.size+1) rfl #[zI y.me,zI y.rv,zI y.nx,zI y.mo,zI y.bo,zI y.fr,.slice q n c] rfl (by kernel_rfl) (by simp [Value.oneCell']) #[zI 0,zI 0,zI 0,zI 0,zI 0,zI 0,zS] 61 (Blk.drew H5r.o 1) rfl rfl ?_;intro V1 hU;have H7d:Hid (Blk V1 (w.heap.size) #[zI x.me,zI x.rv,zI x.nx,zI x.mo,zI x.bo,zI x.fr,.slice p len cap] 61):=hU.keep (Blk.drew H5d.o 1) (by omega);have H7r:Hid (Blk V1 (w.heap.size+1) #[zI y.me,zI y.rv,zI y.nx,zI y.mo,zI y.bo,zI y.fr,.slice q n c] 61):=hU.blk;have H7l:Hid (Blk V1 (w.heap.size+1+1) #[zI 0,zI 0,zI 0,zI 0,zI 0,zI 0,zI 0] 48):=hU.keep (Blk.drew H5l.o 1) (by omega)
   have H7n:Hid (Blk V1 (w1.heap.size) #[zI y.me,zI y.rv,zI y.nx,zI y.mo,zI y.bo,zI y.fr,.slice q n c,zI b.id,zI b.te,zI b.de,zI b.fe,zI b.pr,zI b.ch,zI b.un] 233):=hU.keep (Blk.drew H5n.o 1) (by omega);have H7F:Hid (deb.Fresh V1 (w1.heap.size+1) q n c y.ds):=fresh_updN (fresh_drew H6F.o) hU (fun hn y hy=>by have f1:=H6F.o.new hn y hy;have f2:=HUPF.o hn y hy;omega);have H7B:Hid (Below w.heap.size w V1):=hU.bel _ _ (by omega) H5B.o.drew;clear hU H5d H5r H5l H5n H6F H5B;refine hK.o _ _ H7n.o (fun hHeld=>?_);clear hK K;refine zqo 5 (by kernel_rfl) rfl (fun K hK=>?_);rw [if_pos (by rfl)];refine wp_letOp 48 _ _ rfl (w.heap.size+1+1) rfl #[zI b.id,zI b.te,zI b.de,zI b.fe,zI b.pr,zI b.ch,zI b.un] rfl (by kernel_rfl) (by simp [Value.oneCell']) #[zI 0,zI 0,zI 0,zI 0,zI 0,zI 0,zI 0] 48 H7l.o rfl rfl ?_;intro V2 hU;have H8d:=shK hU H7d (by omega);have H8r:=shK hU H7r (by omega);have H8l:Hid (Blk V2 (w.heap.size+1+1) #[zI b.id,zI b.te,zI b.de,zI b.fe,zI b.pr,zI b.ch,zI b.un] 48):=hU.blk;have H8n:=shK hU H7n (by omega);have H8F:Hid (deb.Fresh V2 (w1.heap.size+1) q n c y.ds):=fresh_updN H7F.o hU (fun hn y hy=>by have f1:=H7F.o.new hn y hy;have f2:=HUPF.o hn y hy;omega);have H8B:=shV hU H7B (by omega);clear hU H7d H7r H7l H7n H7F H7B;refine hK.o _ _ H8n.o (fun hHeld=>?_);clear hK K;refine zqs 6 6 (zI 0) rfl rfl (by kernel_rfl) zid rfl (fun v hv=>by clear hv;go_simp) hHeld ?_;simp only [zq];refine wpAnyH_done (by kernel_rfl) ?_ _;clear hHeld;have Rr0:Hid (V2.cell? ⟨w.heap.size+1,0,none⟩=some (zI y.me)):=H8r.o.cell 0;have Rr1:Hid (V2.cell? ⟨w.heap.size+1,1,none⟩=some (zI y.rv)):=H8r.o.cell 1;have Rr2:Hid (V2.cell? ⟨w.heap.size+1,2,none⟩=some (zI y.nx)):=H8r.o.cell 2;have Rr3:Hid (V2.cell? ⟨w.heap.size+1,3,none⟩=some (zI y.mo)):=H8r.o.cell 3;have Rr4:Hid (V2.cell? ⟨w.heap.size+1,4,none⟩=some (zI y.bo)):=H8r.o.cell 4;have Rr5:Hid (V2.cell? ⟨w.heap.size+1,5,none⟩=some (zI y.fr)):=H8r.o.cell 5
   have Rr6:Hid (V2.cell? ⟨w.heap.size+1,6,none⟩=some (.slice q n c)):=H8r.o.cell 6;have Rl0:Hid (V2.cell? ⟨w.heap.size+1+1,0,none⟩=some (zI b.id)):=H8l.o.cell 0;have Rl1:Hid (V2.cell? ⟨w.heap.size+1+1,1,none⟩=some (zI b.te)):=H8l.o.cell 1;have Rl2:Hid (V2.cell? ⟨w.heap.size+1+1,2,none⟩=some (zI b.de)):=H8l.o.cell 2;have Rl3:Hid (V2.cell? ⟨w.heap.size+1+1,3,none⟩=some (zI b.fe)):=H8l.o.cell 3;have Rl4:Hid (V2.cell? ⟨w.heap.size+1+1,4,none⟩=some (zI b.pr)):=H8l.o.cell 4;have Rl5:Hid (V2.cell? ⟨w.heap.size+1+1,5,none⟩=some (zI b.ch)):=H8l.o.cell 5;have Rl6:Hid (V2.cell? ⟨w.heap.size+1+1,6,none⟩=some (zI b.un)):=H8l.o.cell 6;go_wp2_with fail;exact bodyPost_ret (v:= .tuple #[.agg #[zI y.me,zI y.rv,zI y.nx,zI y.mo,zI y.bo,zI y.fr,.slice q n c],.agg #[zI b.id,zI b.te,zI b.de,zI b.fe,zI b.pr,zI b.ch,zI b.un],zI 0]) (by simp [results,Tryz.results78,Rr0.o,Rr1.o,Rr2.o,Rr3.o,Rr4.o,Rr5.o,Rr6.o,Rl0.o,Rl1.o,Rl2.o,Rl3.o,Rl4.o,Rl5.o,Rl6.o,go_sem]) rfl ⟨y,b,q,n,c,0,rfl,HV.o,H8F.o.low (by omega),H8B.o⟩
  ·have d0:(f != 0)=true:=by simpa using h0
   have HV:Hid (Is ac0 bi0 f):=by
    rcases HOR.o with ⟨_,h⟩ | ⟨h,_⟩
    ·exact h
    ·exact absurd h h0
   clear HOR h0
   go_wp2_with (first
    | (refine zql rfl rfl rfl rfl zqu61 (by simp [Value.oneCell']) H5r rfl ?_)
    | (refine zqw rfl rfl rfl H5d zqu61 ?_)
    | (refine zqw rfl rfl rfl H5r zqu61 ?_)
    | (refine zqw rfl rfl rfl H5l zqu48 ?_)
    | (refine zqw rfl rfl rfl H5n zqu233 ?_)
    | fail)
   intro w5a hU;have H7d:=shK hU H5d (by omega);have H7r:Hid (Blk w5a (w.heap.size+1) #[zI 0,zI 0,zI 0,zI 0,zI 0,zI 0,zS] 61):=hU.blk;have H7l:=shK hU H5l (by omega);have H7n:=shK hU H5n (by omega);have H7B:=shV hU H5B (by omega);have hsw5a:w5a.heap.size=w5.heap.size:=hU.size;clear hU H5d H5r H5l H5n H5B
   go_wp2_with (first
    | (refine zql rfl rfl rfl rfl zqu48 (by simp [Value.oneCell']) H7l rfl ?_)
    | (refine zqw rfl rfl rfl H7d zqu61 ?_)
    | (refine zqw rfl rfl rfl H7r zqu61 ?_)
    | (refine zqw rfl rfl rfl H7l zqu48 ?_)
    | (refine zqw rfl rfl rfl H7n zqu233 ?_)
    | fail)
   intro w5ab hU;have H8d:=shK hU H7d (by omega);have H8r:=shK hU H7r (by omega);have H8l:Hid (Blk w5ab (w.heap.size+1+1) #[zI 0,zI 0,zI 0,zI 0,zI 0,zI 0,zI 0] 48):=hU.blk;have H8n:=shK hU H7n (by omega);have H8B:=shV hU H7B (by omega);have hsw5ab:w5ab.heap.size=w5a.heap.size:=hU.size;clear hU H7d H7r H7l H7n H7B;obtain ⟨Rr0,Rr1,Rr2,Rr3,Rr4,Rr5,Rr6⟩:=shc7 H8r;obtain ⟨Rl0,Rl1,Rl2,Rl3,Rl4,Rl5,Rl6⟩:=shc7 H8l;go_wp2_with fail;exact bodyPost_ret (v:= .tuple #[.agg #[zI 0,zI 0,zI 0,zI 0,zI 0,zI 0,zS],.agg #[zI 0,zI 0,zI 0,zI 0,zI 0,zI 0,zI 0],zI f]) (by simp [results,Tryz.results78,Rr0.o,Rr1.o,Rr2.o,Rr3.o,Rr4.o,Rr5.o,Rr6.o,Rl0.o,Rl1.o,Rl2.o,Rl3.o,Rl4.o,Rl5.o,Rl6.o,go_sem]) rfl ⟨ac0,bi0,none,0,0,_,rfl,HV.o,deb.fresh_nil _ _,H8B.o⟩
end acc
section
open Go.RowKit
theorem wp_letOpN {P:Program} {o:Oper} {a:Act} {w:World} {K:Act→World→Prop} {Q:Exit→Act→World→Prop} (ty:TypeId) (x y:Operand) (ho:o.op = .store ty x y)
  (g off:Nat) (hx:a.eval x = .pointer (some ⟨g,off,none⟩)) (v:Value) (hy:a.eval y=v) (cells:Array Value) (hv:v.cells=cells) (hi:(P.info? ty).map (·.size)=some cells.size) (h1:cells.all (·.oneCell')=true)
  (cs:Array Value) (t:TypeId) (hB:Blk w g cs t) (hin:off+cells.size≤cs.size) (new:Array Value) (hnew:putAll cs off cells.toList=new) (hd:o.dst=none)
  (h:∀ W,Upd w W g new t→K a W):o.wp P a w K Q:=by
 have hs:=run_storeVar_let (P:=P) (w:=w) (g:=g) (off:=off) (ty:=ty) (t:=t) (v:=v) (cells:=cells) (cs:=cs) hv hi h1 hB hin;have hu:=upd_cells g t cells.toList off w cs hB;rw [hnew] at hu;unfold Oper.wp execOp;simp only [ho,hx,hy,Instr.storeAt,Instr.sureAddr,Sem.run_bind,Sem.run_pure,Result.andThen_ok,hs];have:=h _ hu;have e:a.put o.dst undef=a:=by rw [hd];rfl
 rw [← e] at this;exact this
theorem wp_callOpP {P:Program} {o:Oper} {a:Act} {w:World} {f:FuncId} {args:Array Value} {R:Ending→World→Prop} {K:Act→World→Prop} {Q:Exit→Act→World→Prop} (d:Nat) (hd:o.dst=some d) (hrun:(execOp a.eval o).run P w = .ok (.enter f args) w) (hc:Calls P f args w R)
  (h:∀ e w',R e w'→(∃ v,e = .returned v∧K (a.put (some d) v) w')∨∃ c,e = .panicked c∧Q (.panic c) a w'):o.wp P a w K Q:=by
 rw [← hd] at h;unfold Oper.wp;rw [hrun,Oper.upon_enter];refine hc.mono fun e w' hr=>?_;rcases h e w' hr with ⟨v,rfl,hk⟩ | ⟨c,rfl,hk⟩
 ·exact hk
 ·exact hk
theorem wp_mapOp {P:Program} {o:Oper} {a:Act} {w W:World} {K:Act→World→Prop} {Q:Exit→Act→World→Prop} (ty:TypeId) (x y z:Operand) (ho:o.op = .mapUpdate ty x y z) (vx vy vz:Value) (hx:a.eval x=vx) (hy:a.eval y=vy) (hz:a.eval z=vz)
  (hr:(Instr.mapUpdate ty vx vy vz).run P w = .ok () W) (hd:o.dst=none) (h:K a W):o.wp P a w K Q:=by
 unfold Oper.wp execOp;simp only [ho,hx,hy,hz,Sem.run_bind,Sem.run_pure,Result.andThen_ok,hr];have e:a.put o.dst undef=a:=by rw [hd];rfl
 rw [← e] at h;exact h
end
end Go.Proofs.YtdpfnedfakgolaaGreatDoor
