import Derived.Test.YtnpblpbohcegoaaGreatDoorVBGws28
import Derived.Test.YtnpblpbohcegoaaGreatDoorVBGws29
set_option linter.unusedVariables false
set_option linter.unusedSimpArgs false
set_option maxHeartbeats 4000000
set_option maxRecDepth 100000
namespace Go.Proofs.YtnpblpbohcegoaaGreatDoor
namespace disk
open Go.RowKit cell
def JR (w:World) (c:List Int) (k:Nat) (W:World):Prop:=∃ V sl,Box w w.heap.size V sl (itD c k).1 W
theorem kreplay:KReplay:=by
 intro w a n cap c h hnil hcap hby hw;have H0:JR w c 0 (w.alloc (.cells #[zS] 104)):=⟨zS,[],Blk.new _ _ _,Lr.zero _ _ _,Recs.nil _ _,(fun i hi=>by cases hi),(Below.refl _ _).alloc (Nat.le_refl _) _⟩
 have HE:Hid (Calls Tryz.prog 62 #[.slice a n cap,.func (.func 63) #[] #[.pointer (some ⟨w.heap.size,0,none⟩)]] (w.alloc (.cells #[zS] 104)) fun e w'=>EPost (JR w c) c e w'):=by
  refine each_any 63 #[.pointer (some ⟨w.heap.size,0,none⟩)] (JR w c) a n cap c _ (fun k W hj=>?_) H0 hcap hw (fun _ _=>by kernel_rfl) ?_
  ·obtain ⟨V,sl,hb⟩:=hj;exact h.below hb.bel
  ·intro k p m b o W hj hp hit hr h1 h2 h3;obtain ⟨V,sl,hb⟩:=hj;have hs:sl.length≤1000000:=by have:=hb.recs.1;have:=it_count c k;omega
   refine (put_record w w.heap.size V sl _ (recAt c p) b o m W hb hr h1 h2 hs).mono ?_;rintro e w' ⟨rfl,V',sl',hb'⟩;refine ⟨rfl,V',sl',?_⟩;rw [hit];exact hb'
 clear H0 h hnil hcap hby hw;go_enter Tryz.func35,Tryz.ntmps35;go_wp2_with fail;refine HE.o.mono ?_;rintro e w1 ⟨x,f,k,rfl,⟨V,sl,hb⟩,hi⟩;have HB:Hid (Box w w.heap.size V sl (itD c k).1 w1):=hb;have HI:Hid ((¬ May c∧x=0∧f=1)∨(May c∧lenAt c (repD c).2<0∧x=0∧f=3)∨(May c∧lenAt c (repD c).2=0∧repD c=itD c k∧x=((repD c).2:Int)∧f=0)):=hi;clear hb hi HE;by_cases hf:f=0
 ·have HR:Hid (RepIs c (itD c k).1 x 0):=by
   rcases HI.o with ⟨_,_,e⟩ | ⟨_,_,_,e⟩ | ⟨q1,q2,q3,q4,_⟩
   ·rw [hf] at e;exact absurd e (by decide)
   ·rw [hf] at e;exact absurd e (by decide)
   ·exact .inr (.inr ⟨q1,q2,by rw [q3],q4,rfl⟩)
  have q0:w1.cell? ⟨w.heap.size,0,none⟩=some V:=HB.o.blk.cell 0;obtain ⟨va,vc,hV,hrd⟩:=HB.o.reads;have HRD:Hid (ReadsF w1 w.heap.size va (itD c k).1.length (itD c k).1):=hrd;have HBL:Hid (Below w.heap.size w w1):=HB.o.bel;subst hf;subst hV;clear hrd HB HI;generalize (itD c k).1=zs at *;have HFW:Hid (zs.length≤100000):=Nat.le_trans (rep_few HR.o).1 (by decide);generalize hzl:zs.length=zl at *;clear hzl;go_wp2_with fail;go_ret3;exact ⟨va,_,vc,zs,x,0,rfl,HRD.o,HFW.o,HR.o,HBL.o⟩
 ·have HR:Hid (RepIs c [] 0 f):=by
   rcases HI.o with ⟨q1,_,e⟩ | ⟨q1,q2,_,e⟩ | ⟨_,_,_,_,e⟩
   ·exact .inl ⟨q1,rfl,rfl,e⟩
   ·exact .inr (.inl ⟨q1,q2,rfl,rfl,e⟩)
   ·exact absurd e hf
  have HBL:Hid (Below w.heap.size w w1):=HB.o.bel;have hne:(f != 0)=true:=by simpa using hf
  clear HB HI hf;go_wp2_with fail;go_ret3;exact ⟨none,0,0,[],0,f,rfl,⟨rfl,.inl rfl⟩,Nat.zero_le _,HR.o,HBL.o⟩
end disk
namespace words
open Go.RowKit
theorem run_putStep (args:Array Value) (w:World):(callFunc 169 args).run Tryz.prog w = .ok (.enter 169 args) w:=by kernel_rfl
theorem low32 (s:Nat):((s:Nat):Int) % 4294967296=((s % 2 ^ 32:Nat):Int):=by omega
theorem putStep_abs (N At V:Nat) (x v n k M s r f g z y:Int) (w:World) (hn:w.cell? ⟨N,0,none⟩=some (zI n)) (hat:w.cell? ⟨At,0,none⟩=some (zI k)) (hf:w.frozen? ⟨At,0,none⟩=false) (hv:w.cell? ⟨V,0,none⟩=some (.int .u64 v))
  (HO:Hid (∀ w,Calls Tryz.prog 168 #[zI n] w fun e w'=>e = .returned (.int .u64 M)∧w'=w))
  (HS:Hid (∀ w,Calls Tryz.prog 170 #[.int .u64 M,zI k] w fun e w'=>e = .returned (.int .u64 s)∧w'=w))
  (HT:Hid (∀ w,Calls Tryz.prog 170 #[.int .u64 v,zI k] w fun e w'=>e = .returned (.int .u64 r)∧w'=w))
  (q1:s % 4294967296=f) (q2:r % 4294967296=g) (o1:bits .andNot .u32 x f=z) (o2:bits .or .u32 z g=y) (k0:-64≤k) (k1:k≤96) :
  Calls Tryz.prog 169 #[.int .u32 x,.pointer (some ⟨N,0,none⟩),.pointer (some ⟨At,0,none⟩),.pointer (some ⟨V,0,none⟩)] w fun e w'=>e = .returned (.int .u32 y)∧Acc w w' At (zI (k - 32)):=by
 have hA:Acc w w At (zI k):=Acc.refl hat hf;have HA:Hid (Acc w w At (zI k)):=hA;clear hA;go_enter Tryz.func169,Tryz.ntmps169;go_wp2_with fail
 go_quiet (first
  | (go_at_call 168;exact (HO.o _).mono fun _ _ h=>⟨h.1,_,h.2⟩)
  | (go_at_call_of 170 (Value.int .u64 M);exact (HS.o _).mono fun _ _ h=>⟨h.1,_,h.2⟩)
  | (go_at_call_of 170 (Value.int .u64 v);exact (HT.o _).mono fun _ _ h=>⟨h.1,_,h.2⟩))
 go_wp2_with fail;go_ret;exact ⟨rfl,(HA.o.drewN _).set _⟩
theorem putStep_any (N At V:Nat) (x v n:Nat) (k:Int) (w:World) (hn:w.cell? ⟨N,0,none⟩=some (zI (n:Int))) (hat:w.cell? ⟨At,0,none⟩=some (zI k)) (hf:w.frozen? ⟨At,0,none⟩=false) (hv:w.cell? ⟨V,0,none⟩=some (.int .u64 (v:Int)))
  (x1:x<2 ^ 32) (v1:v<2 ^ 64) (n0:1≤n) (n1:n≤64) (k0:-64≤k) (k1:k≤96) :
  Calls Tryz.prog 169 #[.int .u32 (x:Int),.pointer (some ⟨N,0,none⟩),.pointer (some ⟨At,0,none⟩),.pointer (some ⟨V,0,none⟩)] w fun e w'=>e = .returned (.int .u32 (putN x v n k:Nat))∧Acc w w' At (zI (k - 32)):=by
 have l1:sh (onesN n) k % 2 ^ 32<2 ^ 32:=Nat.mod_lt _ (by decide);have l2:sh v k % 2 ^ 32<2 ^ 32:=Nat.mod_lt _ (by decide);have l3:x &&& (2 ^ 32 - 1 - sh (onesN n) k % 2 ^ 32)<2 ^ 32:=Nat.lt_of_le_of_lt Nat.and_le_left x1
 exact putStep_abs N At V x v n k (onesN n:Nat) (sh (onesN n) k:Nat) (sh v k:Nat) _ _ _ _ w hn hat hf hv
  (fun w=>ones_any n w n0 n1) (fun w=>shift_any _ _ w (ones_lt n n1) (by omega) k1) (fun w=>shift_any _ _ w v1 (by omega) k1)
  (low32 _) (low32 _) (andNot32 x _ x1 l1) (or32 _ _ l3 l2) k0 k1
theorem five (w:World) (cs:Array Value) (T1 T2 T3 T5:TypeId) (m v x y z u:Value) (q:Nat) :
  (((((((w.alloc (.cells cs T1)).alloc (.cells #[m] T2)).alloc (.cells #[v] T3)).alloc (.cells #[x,y,z] 131)).drewN q).alloc (.cells #[u] T5)).cell? ⟨w.heap.size+1,0,none⟩=some m) ∧
  (((((((w.alloc (.cells cs T1)).alloc (.cells #[m] T2)).alloc (.cells #[v] T3)).alloc (.cells #[x,y,z] 131)).drewN q).alloc (.cells #[u] T5)).cell? ⟨w.heap.size+1+1,0,none⟩=some v) ∧
  Trio ((((((w.alloc (.cells cs T1)).alloc (.cells #[m] T2)).alloc (.cells #[v] T3)).alloc (.cells #[x,y,z] 131)).drewN q).alloc (.cells #[u] T5)) (w.heap.size+1+1+1) x y z ∧
  (((((((w.alloc (.cells cs T1)).alloc (.cells #[m] T2)).alloc (.cells #[v] T3)).alloc (.cells #[x,y,z] 131)).drewN q).alloc (.cells #[u] T5)).cell? ⟨w.heap.size+1+1+1+1,0,none⟩=some u) ∧
  (((((((w.alloc (.cells cs T1)).alloc (.cells #[m] T2)).alloc (.cells #[v] T3)).alloc (.cells #[x,y,z] 131)).drewN q).alloc (.cells #[u] T5)).frozen? ⟨w.heap.size+1+1+1+1,0,none⟩=false):=by
 have hh:((((((w.alloc (.cells cs T1)).alloc (.cells #[m] T2)).alloc (.cells #[v] T3)).alloc (.cells #[x,y,z] 131)).drewN q).alloc (.cells #[u] T5)).heap=((((w.heap.push (.cells cs T1)).push (.cells #[m] T2)).push (.cells #[v] T3)).push (.cells #[x,y,z] 131)).push (.cells #[u] T5):=rfl;have s1:w.heap.size+1=(w.heap.push (.cells cs T1)).size:=by simp
 have s2:w.heap.size+1+1=((w.heap.push (.cells cs T1)).push (.cells #[m] T2)).size:=by simp
 have s3:w.heap.size+1+1+1=(((w.heap.push (.cells cs T1)).push (.cells #[m] T2)).push (.cells #[v] T3)).size:=by simp
 have s4:w.heap.size+1+1+1+1=((((w.heap.push (.cells cs T1)).push (.cells #[m] T2)).push (.cells #[v] T3)).push (.cells #[x,y,z] 131)).size:=by simp
 generalize ((((((w.alloc (.cells cs T1)).alloc (.cells #[m] T2)).alloc (.cells #[v] T3)).alloc (.cells #[x,y,z] 131)).drewN q).alloc (.cells #[u] T5))=W at *
 have e1:W.heap[w.heap.size+1]?=some (.cells #[m] T2):=by
  rw [hh,Array.getElem?_push,if_neg (by simp),Array.getElem?_push,if_neg (by simp),Array.getElem?_push,if_neg (by simp),s1,Array.getElem?_push_size]
 have e2:W.heap[w.heap.size+1+1]?=some (.cells #[v] T3):=by
  rw [hh,Array.getElem?_push,if_neg (by simp),Array.getElem?_push,if_neg (by simp),s2,Array.getElem?_push_size]
 have e3:W.heap[w.heap.size+1+1+1]?=some (.cells #[x,y,z] 131):=by
  rw [hh,Array.getElem?_push,if_neg (by simp),s3,Array.getElem?_push_size]
 have e4:W.heap[w.heap.size+1+1+1+1]?=some (.cells #[u] T5):=by
  rw [hh,s4,Array.getElem?_push_size]
 refine ⟨?_,?_,e3,?_,?_⟩
 ·simp only [World.cell?,e1];rfl
 ·simp only [World.cell?,e2];rfl
 ·simp only [World.cell?,e4];rfl
 ·simp only [World.frozen?,e4];rfl
theorem bel5 (w:World) (o1 o2 o3 o4 o5:Obj) (q:Nat):Below w.heap.size w (((((w.alloc o1).alloc o2).alloc o3).alloc o4).drewN q |>.alloc o5):=
 (below_drewN (bel4 w o1 o2 o3 o4) q).alloc (by show _≤((((w.heap.push o1).push o2).push o3).push o4).size;simp;omega) _
theorem put_any (a b c v lo n:Nat) (w:World) (ha:a<2 ^ 32) (hb:b<2 ^ 32) (hc:c<2 ^ 32) (hv:v<2 ^ n) (n0:1≤n) (n1:n≤64) (hl:lo+n≤96) :
  Calls Tryz.prog 132 #[.agg #[.int .u32 (a:Int),.int .u32 (b:Int),.int .u32 (c:Int)],zI (lo:Int),zI (n:Int),.int .u64 (v:Int)] w fun e w'=>
   e = .returned (.tuple #[.agg #[.int .u32 (putN a v n lo:Nat),.int .u32 (putN b v n ((lo:Int) - 32):Nat),.int .u32 (putN c v n ((lo:Int) - 64):Nat)],zI 0])∧Below w.heap.size w w':=by
 have v1:v<2 ^ 64:=Nat.lt_of_lt_of_le hv (Nat.pow_le_pow_right (by decide) n1);have HI:Hid (∀ w,Calls Tryz.prog 167 #[zI (lo:Int),zI (n:Int)] w fun e w'=>e = .returned (.bool true)∧w'=w):=fun w=>isField_yes _ _ w (by omega) (by omega) (by omega) (by omega);have HO:Hid (∀ w,Calls Tryz.prog 168 #[zI (n:Int)] w fun e w'=>e = .returned (.int .u64 (onesN n:Nat))∧w'=w):=fun w=>ones_any n w n0 n1;have hd:decide (((onesN n:Nat):Int)<(v:Int))=false:=decide_eq_false (by unfold onesN;omega);have e64:(lo:Int) - 32 - 32=(lo:Int) - 64:=by omega
 generalize ((onesN n:Nat):Int)=M at *;rw [← e64];go_enter Tryz.func132,Tryz.ntmps132;go_wp2_with fail
 go_quiet (first
  | (go_at_call 167;exact (HI.o _).mono fun _ _ h=>⟨h.1,_,h.2⟩)
  | (go_at_call 168;exact (HO.o _).mono fun _ _ h=>⟨h.1,_,h.2⟩))
 go_wp2_with fail;obtain ⟨f1,f2,f3,f4,f5⟩:=five w #[.int .u32 (a:Int),.int .u32 (b:Int),.int .u32 (c:Int)] 131 3 223 3 (zI (n:Int)) (.int .u64 (v:Int)) (.int .u32 0) (.int .u32 0) (.int .u32 0) (zI (lo:Int)) nq;have hb5:=bel5 w (.cells #[.int .u32 (a:Int),.int .u32 (b:Int),.int .u32 (c:Int)] 131) (.cells #[zI (n:Int)] 3) (.cells #[.int .u64 (v:Int)] 223) (.cells #[.int .u32 0,.int .u32 0,.int .u32 0] 131) (.cells #[zI (lo:Int)] 3) nq
 refine (upward_any 169 #[.pointer (some ⟨w.heap.size+1,0,none⟩),.pointer (some ⟨w.heap.size+1+1+1+1,0,none⟩),.pointer (some ⟨w.heap.size+1+1,0,none⟩)] (w.heap.size+1+1+1+1) (zI (lo:Int)) (zI ((lo:Int) - 32)) (zI ((lo:Int) - 32 - 32)) (zI ((lo:Int) - 32 - 32 - 32)) a b c
  (putN a v n lo:Nat) (putN b v n ((lo:Int) - 32):Nat) (putN c v n ((lo:Int) - 32 - 32):Nat) _ (Acc.refl f4 f5) run_putStep
  (fun w' h=>putStep_any _ _ _ _ _ _ _ w' (h.keep f1 (by omega)) h.cell h.free (h.keep f2 (by omega)) ha v1 n0 n1 (by omega) (by omega))
  (fun w' h=>putStep_any _ _ _ _ _ _ _ w' (h.keep f1 (by omega)) h.cell h.free (h.keep f2 (by omega)) hb v1 n0 n1 (by omega) (by omega))
  (fun w' h=>putStep_any _ _ _ _ _ _ _ w' (h.keep f1 (by omega)) h.cell h.free (h.keep f2 (by omega)) hc v1 n0 n1 (by omega) (by omega))).mono ?_
 rintro e w1 ⟨he,hA⟩;have hR:=f3.acc hA (by omega);have HB:Hid (Below w.heap.size w w1):=hA.below hb5 (by omega);clear hA f1 f2 f3 f4 f5 hb5;have HE2:Hid (e = .returned (.agg #[.int .u32 (putN a v n lo:Nat),.int .u32 (putN b v n ((lo:Int) - 32):Nat),.int .u32 (putN c v n ((lo:Int) - 32 - 32):Nat)])):=he;clear he;obtain ⟨y0,h0⟩:∃ y0:Int,y0=(putN a v n lo:Nat):=⟨_,rfl⟩
 obtain ⟨y1,h1⟩:∃ y1:Int,y1=(putN b v n ((lo:Int) - 32):Nat):=⟨_,rfl⟩
 obtain ⟨y2,h2⟩:∃ y2:Int,y2=(putN c v n ((lo:Int) - 32 - 32):Nat):=⟨_,rfl⟩
 have HH:Hid (y0=(putN a v n lo:Nat)∧y1=(putN b v n ((lo:Int) - 32):Nat)∧y2=(putN c v n ((lo:Int) - 32 - 32):Nat)):=⟨h0,h1,h2⟩
 rw [← h0,← h1,← h2] at HE2;obtain rfl:=HE2.o;clear HE2 h0 h1 h2;have r0:=hR.c0;have r1:=hR.c1;have r2:=hR.c2;have g0:=hR.free 0;have g1:=hR.free 1;have g2:=hR.free 2;have HR:Hid (Trio w1 (w.heap.size+1+1+1) (.int .u32 0) (.int .u32 0) (.int .u32 0)):=hR;clear hR;go_wp2_with fail;have RR:=HR.o.put (.int .u32 y0) (.int .u32 y1) (.int .u32 y2);refine bodyPost_ret (v:= .tuple #[.agg #[.int .u32 y0,.int .u32 y1,.int .u32 y2],zI 0]) (by simp [results,Tryz.results132,RR.c0,RR.c1,RR.c2,go_sem]) rfl ⟨?_,?_⟩
 ·rw [HH.o.1,HH.o.2.1,HH.o.2.2]
 ·exact below_put3 HB.o _ _ _ _ (by omega)
end words
namespace ora
open Go.RowKit
def GaveV (w:World) (l:List Pr) (e:Ending) (w':World):Prop:=∃ v,e = .returned v∧Pw w' w.heap.size v l∧Below w.heap.size w w'
theorem pclone_some (x:Addr) (len cap:Nat) (l:List Pr) (w:World) (hr:RowP w (some x) len l) (hl:len≤1000) :
  Calls Tryz.prog 190 #[.slice (some x) len cap] w fun e w'=>GaveV w l e w':=by
 obtain ⟨i0,hi,hz0,hz1,hz2⟩:=info_parts info_pr;obtain ⟨hz,hr⟩:=hr;have HO:Hid ((w.alloc (.cells #[] 279)).ownsRow w.heap.size 279 4 (.slice (some ⟨w.heap.size,0,none⟩) 0 0) 0 []):=World.ownsRow_lit w #[] 0 (Nat.le_refl _) (by unfold maxLen;omega) rfl;have HSZ:Hid (w.heap.size≤(w.alloc (.cells #[] 279)).heap.size):=palloc_le (Nat.le_refl _) _;have heq:∀ W:World,(binOp BinOp.eql 37 (.slice (some x) len cap) (zS)).run Tryz.prog W = .ok (.bool false) W:=fun W=>by kernel_rfl
 go_enter Tryz.func190,Tryz.ntmps190
 go_wp2_with (first
  | (at_builtin;refine wpList_append_own _ rfl _ _ 37 rfl w.heap.size 279 i0 (.agg #[zI 0,zI 0,zI 0,zI 0]) 4 32 Tryz.underlying37 hi hz0 hz1 hz2 rfl (by decide) _ _ _ rfl HO.o x len cap (cellsP l) rfl ?c0 ?c1 ?c2 ?c3 ?c4 HSZ.o ?_)
  | go_in)
 case c0=>rw [cellsP_len,hz]
 case c1=>
  intro j u hu;rcases hr with h | ⟨b,off,h,hc⟩
  ·have:l=[]:=List.length_eq_zero_iff.1 (by omega);subst this;simp [cellsP] at hu
  ·obtain rfl:=Option.some.inj h;have:=cellsP_get hz hc j u hu;rw [Addr.add_lit,World.cell?_alloc_lt w _ _ (World.block_lt_of_cell? w _ this)];exact this
 case c2=>exact oneP l
 case c3=>unfold maxLen;omega
 case c4=>omega
 intro v' w' hown hg _;have HW:Hid (Pw w' w.heap.size v' l):=by show w'.ownsRow _ _ _ _ _ _;rw [hz];simpa using hown
 have HG:Hid (Below w.heap.size w w'):=pown_bel HO.o hg ((Below.refl _ _).alloc (Nat.le_refl _) _) (Nat.le_refl _) HSZ.o;clear hown hg;go_wp2;go_ret;exact ⟨v',rfl,HW.o,HG.o⟩
theorem pclone_none (cap:Nat) (w:World) :
  Calls Tryz.prog 190 #[.slice none 0 cap] w fun e w'=>GaveV w [] e w':=by
 have heq:∀ W:World,(binOp BinOp.eql 37 (.slice none 0 cap) (zS)).run Tryz.prog W = .ok (.bool true) W:=fun W=>by kernel_rfl
 go_enter Tryz.func190,Tryz.ntmps190;go_wp2_with fail;go_ret;exact ⟨_,rfl,Pw.zero _ _,Below.refl _ _⟩
theorem pclone_any (a:Option Addr) (len cap:Nat) (l:List Pr) (w:World) (hr:RowP w a len l) (hl:len≤1000) :
  Calls Tryz.prog 190 #[.slice a len cap] w fun e w'=>GaveV w l e w':=by
 cases a with
 | some x=>exact pclone_some x len cap l w hr hl
 | none=>
  have h0:len=0:=by
   rcases hr.2 with h | ⟨_,_,h,_⟩
   ·exact h
   ·cases h
  subst h0;have:l=[]:=List.length_eq_zero_iff.1 hr.1;subst this;exact pclone_none cap w
end ora
namespace words
open Go.RowKit
theorem overStep_any (B M:Nat) (n x d:Int) (w:World) (hc:w.cell? ⟨B,0,none⟩=some (.int .u64 n)) (hf:w.frozen? ⟨B,0,none⟩=false) (hm:w.cell? ⟨M,0,none⟩=some (.int .u32 d)) (hBM:M≠B) (n0:0≤n) (n1:n<d) (x0:0≤x) (x1:x<4294967296) (d0:0<d) (d1:d<4294967296) :
  Calls Tryz.prog 134 #[.int .u32 x,.pointer (some ⟨B,0,none⟩),.pointer (some ⟨M,0,none⟩)] w fun e w'=>e = .returned (.int .u32 ((n*4294967296+x) / d))∧Acc w w' B (.int .u64 ((n*4294967296+x) % d)):=by
 have hA:Acc w w B (.int .u64 n):=Acc.refl hc hf;have HA:Hid (Acc w w B (.int .u64 n)):=hA;have hor:=or_words n x n0 (by omega) x0 x1;have q:=word_div d0 n0 n1 x0 x1;obtain ⟨q0,q1⟩:=q;have r0:0≤(n*4294967296+x) % d:=Int.emod_nonneg _ (by omega);have r1:(n*4294967296+x) % d<d:=Int.emod_lt_of_pos _ d0;clear hA;go_enter Tryz.func134,Tryz.ntmps134;go_wp2_with fail;go_ret;exact ⟨rfl,HA.o.set _⟩
theorem run_overStep (args:Array Value) (w:World):(callFunc 134 args).run Tryz.prog w = .ok (.enter 134 args) w:=by kernel_rfl
theorem over_any (x:W3) (d:Int) (w:World) (hx:x.ok) (d0:0<d) (d1:d<4294967296) :
  Calls Tryz.prog 88 #[wv x,.int .u32 d] w fun e w'=>e = .returned (.tuple #[wv (overW x d),.int .u32 (overR x d),zI 0])∧Below w.heap.size w w':=by
 obtain ⟨x0,x1,x2⟩:=x;obtain ⟨⟨h0,h0'⟩,⟨h1,h1'⟩,h2,h2'⟩:=hx;simp only at h0 h0' h1 h1' h2 h2';have hd0:(d == 0)=false:=by simp;omega
 go_enter Tryz.func88,Tryz.ntmps88;go_wp2_with fail;have hc:=trio_d w #[.int .u32 x0,.int .u32 x1,.int .u32 x2] (.int .u32 d) 99 (.int .u32 0) (.int .u32 0) (.int .u32 0) (.int .u64 0) 223;have hb3:=bel4 w (.cells #[.int .u32 x0,.int .u32 x1,.int .u32 x2] 131) (.cells #[.int .u32 d] 99) (.cells #[.int .u32 0,.int .u32 0,.int .u32 0] 131) (.cells #[.int .u64 0] 223);have e0:(0:Int)*4294967296+x2=x2:=by omega
 have r2:0≤x2 % d:=Int.emod_nonneg _ (by omega);have r2':x2 % d<d:=Int.emod_lt_of_pos _ d0;have r1:0≤((x2 % d)*4294967296+x1) % d:=Int.emod_nonneg _ (by omega);have r1':((x2 % d)*4294967296+x1) % d<d:=Int.emod_lt_of_pos _ d0
 refine (downward_any 134 #[.pointer (some ⟨w.heap.size+1+1+1,0,none⟩),.pointer (some ⟨w.heap.size+1,0,none⟩)] (w.heap.size+1+1+1) (.int .u64 0) (.int .u64 (x2 % d)) (.int .u64 (((x2 % d)*4294967296+x1) % d)) (.int .u64 (((((x2 % d)*4294967296+x1) % d)*4294967296+x0) % d)) x0 x1 x2
  (((((x2 % d)*4294967296+x1) % d)*4294967296+x0) / d) (((x2 % d)*4294967296+x1) / d) (x2 / d) _ (Acc.refl hc.1 hc.2.1) run_overStep
  (fun w' h=>by have:=overStep_any (w.heap.size+1+1+1) (w.heap.size+1) 0 x2 d w' h.cell h.free (h.keep hc.2.2.2 (by omega)) (by omega) (by omega) (by omega) h2 h2' d0 d1;rw [e0] at this;exact this)
  (fun w' h=>overStep_any _ _ _ _ _ w' h.cell h.free (h.keep hc.2.2.2 (by omega)) (by omega) r2 r2' h1 h1' d0 d1)
  (fun w' h=>overStep_any _ _ _ _ _ w' h.cell h.free (h.keep hc.2.2.2 (by omega)) (by omega) r1 r1' h0 h0' d0 d1)).mono ?_
 rintro e w1 ⟨he,hA⟩;have hR:Trio w1 (w.heap.size+1+1) (.int .u32 0) (.int .u32 0) (.int .u32 0):=hc.2.2.1.acc hA (by omega);have HB:Hid (Below w.heap.size w w1):=hA.below hb3 (by omega);have hcell:=hA.cell;have hsz:w.heap.size+1+1+1<w1.heap.size:=Nat.lt_of_lt_of_le hA.old hA.size;have z0:0≤((((x2 % d)*4294967296+x1) % d)*4294967296+x0) % d:=Int.emod_nonneg _ (by omega);have z1:((((x2 % d)*4294967296+x1) % d)*4294967296+x0) % d<d:=Int.emod_lt_of_pos _ d0
 have HE:Hid (Ending.returned (.tuple #[wv (overW ⟨x0,x1,x2⟩ d),.int .u32 (overR ⟨x0,x1,x2⟩ d),zI 0])=Ending.returned (.tuple #[.agg #[.int .u32 (((((x2 % d)*4294967296+x1) % d)*4294967296+x0) / d),.int .u32 (((x2 % d)*4294967296+x1) / d),.int .u32 (x2 / d)],.int .u32 (((((x2 % d)*4294967296+x1) % d)*4294967296+x0) % d),zI 0])):=by
  have:Ending.returned (.tuple #[wv (overW ⟨x0,x1,x2⟩ d),.int .u32 (overR ⟨x0,x1,x2⟩ d),zI 0])=Ending.returned (.tuple #[.agg #[.int .u32 (((((x2 % d)*4294967296+x1) % d)*4294967296+x0) / d),.int .u32 (((x2 % d)*4294967296+x1) / d),.int .u32 (x2 / d)],.int .u32 (((((x2 % d)*4294967296+x1) % d)*4294967296+x0) % d),zI 0]):=rfl;exact this
 clear hA hc hb3 e0 r1 r1' r2 r2';have HE2:Hid (e = .returned (.agg #[.int .u32 (((((x2 % d)*4294967296+x1) % d)*4294967296+x0) / d),.int .u32 (((x2 % d)*4294967296+x1) / d),.int .u32 (x2 / d)])):=he;clear he;generalize hz:((((x2 % d)*4294967296+x1) % d)*4294967296+x0) % d=z at hcell z0 z1 HE HE2;generalize hy0:((((x2 % d)*4294967296+x1) % d)*4294967296+x0) / d=y0 at HE HE2;generalize hy1:((x2 % d)*4294967296+x1) / d=y1 at HE HE2;generalize hy2:x2 / d=y2 at HE HE2;clear hz hy0 hy1 hy2;obtain rfl:=HE2.o;clear HE2;have hR:=hR.alloc (.cells #[.int .u32 y0,.int .u32 y1,.int .u32 y2] 131);have r0:=hR.c0;have r1:=hR.c1;have r2:=hR.c2;have g0:=hR.free 0;have g1:=hR.free 1;have g2:=hR.free 2;have HR:Hid (Trio (w1.alloc (.cells #[.int .u32 y0,.int .u32 y1,.int .u32 y2] 131)) (w.heap.size+1+1) (.int .u32 0) (.int .u32 0) (.int .u32 0)):=hR;clear hR;go_wp2_with fail;go_region
 all_goals go_wp2_with fail
 have RR:=((HR.o.set0 (.int .u32 y0)).set1 (.int .u32 y1)).set2 (.int .u32 y2);refine bodyPost_ret (v:= .tuple #[.agg #[.int .u32 y0,.int .u32 y1,.int .u32 y2],.int .u32 z,zI 0]) (by simp [results,Tryz.results88,RR.c0,RR.c1,RR.c2,go_sem]) rfl ⟨HE.o.symm,?_⟩;exact below_put (HB.o.alloc HB.o.size _) _ _ _ _ _ _ _ (by omega)
end words
end Go.Proofs.YtnpblpbohcegoaaGreatDoor
