import Derived.Test.YtnpblpbohcegoaaGreatDoorVVRry23
import Derived.Test.YtnpblpbohcegoaaGreatDoorVVRry26
set_option linter.unusedVariables false
set_option linter.unusedSimpArgs false
set_option maxHeartbeats 4000000
set_option maxRecDepth 100000
namespace Go.Proofs.YtnpblpbohcegoaaGreatDoor
namespace vnd
open disk (RepIs AppIs May repD lenAt appW Wds)
open book (Ev ev0 EMay evL evOf EncIs DecIs Cm cm0 So so0 BookIs FirstAt NoneAt Tells billOf soldOf StepIs HapIs)
open acc (Ac Tm Bi)
open ora (Pr IssueIs)
open cell (Wr wrt RowU RowW)
open rcp (Rc rc0)
open Go.RowKit
def AppK (w:World) (n:Nat) (z:List Int) (e:Ending) (w':World):Prop:=∃ a cap,e = .returned (.tuple #[.slice a n cap,zI 0])∧Dk w' a n cap z∧Below w.heap.size w w'
theorem step_writes {t:Tm} {c:List Int} {n:Nat} {l:List Ev} {bk bk':List Cm} {v:Ev} {ls:List Wr} (h:Shop t c n l bk) (hs:Stepped t c n l bk v bk' ls) (hn:l.length<120) (hf:14*l.length+13<n):ls=appW c (14*l.length) (evL v):=
 (keep_tape h.tape h.may hs.ev hn (by rw [h.len];exact hf) hs.keep).1
theorem apply_step {t:Tm} {c:List Int} {n:Nat} {l:List Ev} {bk bk':List Cm} {v:Ev} {ls:List Wr} (h:Shop t c n l bk) (hs:Stepped t c n l bk v bk' ls) (hn:l.length<120) (hf:14*l.length+13<n) (a b:Option Addr) (m c1 c2 k:Nat) (w:World) (hd:Dk w a n c1 c) (hw:RowW w b m ls) (hc:m≤c2) (hk:k≤m) :
  Calls Tryz.prog 22 #[.slice a n c1,.slice b m c2,zI (k:Int)] w fun e w'=>AppK w n (wrt c (ls.take k)) e w':=by
 have hls:=step_writes h hs hn hf;subst hls;have hcl:c.length=n:=h.len;have hm1:=h.tape.1.1;have hm2:=h.tape.1.2
 have hm:m≤4096:=by
  have h1:=hw.1;rw [disk.app_len,book.evL_len] at h1;split at h1 <;> omega
 refine (cell.apply_cap a b n m c1 c2 k c _ w hd.row hw (by omega) (by omega) hm hc (by rw [← hcl];exact disk.app_in c (evL v) _ (by rw [book.evL_len];omega)) hk).mono ?_;rintro e' w' ⟨a',cap',he,hrow,hnil,hroom,hb⟩;rw [cell.wrt_len,hcl] at he hrow hroom;exact ⟨a',cap',he,⟨hrow,hnil,hroom,by omega,disk.wds_wrt hd.wd _ (disk.wrs_take (disk.wrs_app (book.may_word hs.ev) (rmay_ev v) _) k)⟩,hb⟩
theorem some_writes {t:Tm} {c:List Int} {n:Nat} {l:List Ev} {bk bk':List Cm} {v:Ev} {ls:List Wr} (hs:Stepped t c n l bk v bk' ls) {w:World} {b:Option Addr} {m:Nat} (hw:RowW w b m ls):1≤m:=by
 have h1:=hs.some;have h2:=hw.1;cases ls with
 | nil=>exact absurd rfl h1
 | cons x l=>simp at h2;omega
theorem all_writes {w:World} {b:Option Addr} {m:Nat} {ls:List Wr} (hw:RowW w b m ls):ls.take m=ls:=List.take_of_length_le (by rw [hw.1];exact Nat.le_refl _)
theorem blank_dk {w:World} {a:Option Addr} {n cap:Nat} (hn:n≤2048) (hr:RowU w a n (List.replicate n 0)) (h0:a=none→cap=0) (h1:n≤cap):Dk w a n cap (List.replicate n 0):=⟨hr,h0,h1,by omega,disk.wds_zero n⟩
theorem dk_far {w:World} {a:Option Addr} {n cap:Nat} {c:List Int} {B:Nat} {cs:Array Value} {T:TypeId} (h:Dk w a n cap c) (hB:Blk w B cs T) (hno:∀ (j:Nat) (z:Int),cs[j]?≠some (Value.int .u32 z)):0<n→∀ y,a=some y→y.block≠B:=fun hn y hy hb=>by
 obtain ⟨b,off,rfl,_,hc⟩:=h.row.at hn;cases hy;have h1:=hc 0 hn;simp only [] at hb;subst hb;rw [hB.cell] at h1;exact hno _ _ h1
theorem dk_upd {w W:World} {a:Option Addr} {n cap:Nat} {c:List Int} {B:Nat} {cs:Array Value} {T:TypeId} (h:Dk w a n cap c) (hU:Upd w W B cs T) (hf:0<n→∀ y,a=some y→y.block≠B):Dk W a n cap c:=by
 refine ⟨⟨h.row.1,?_⟩,h.nil,h.room,h.bytes,h.wd⟩;by_cases h0:n=0
 ·exact .inl h0
 ·obtain ⟨b,off,rfl,_,hc⟩:=h.row.at (by omega);exact .inr ⟨b,off,rfl,fun i hi=>(hU.cell ⟨b,off+i,none⟩ (show b≠B from hf (by omega) ⟨b,off,none⟩ rfl) rfl).trans (hc i hi)⟩
theorem issue_len {l:List Pr} {m r b d:Int} {ls:List Pr} {x c:Int} (h:IssueIs l m r b d ls x c):ls.length≤l.length+1:=by
 rcases h with ⟨_,rfl,_⟩ | ⟨_,_,rfl,_⟩ | ⟨_,_,_,rfl,_⟩ | ⟨_,_,_,_,rfl,_⟩ | ⟨_,_,_,_,rfl,_⟩ <;> simp
theorem tok_len {kd:Int} {t:Tm} {c:List Int} {o:List Pr} {me te mo dr:Int} {ls:List Wr} {o':List Pr} {r:Rc} {f:Int} (h:TokIs kd t c o me te mo dr ls o' r f):o'.length≤o.length+1:=by
 by_cases hf:f=0
 ·obtain ⟨bk,g,_,⟨p,q⟩ | ⟨_,_,q⟩ | ⟨_,k,b,l,x,_,_,⟨p,q⟩ | ⟨_,o2,tg,g2,hi,⟨p,q⟩ | ⟨_,l2,g3,_,⟨p,q⟩ | ⟨_,_,rfl,_,_⟩⟩⟩⟩⟩:=h
  ·rw [q.2.1];simp
  ·rw [q.2.1];simp
  ·rw [q.2.1];simp
  ·rw [q.2.1];simp
  ·rw [q.2.1];simp
  ·exact issue_len hi
 ·rw [(tok_no h hf).2.1];simp
theorem served_len {t:Tm} {c:List Int} {o:List Pr} {x:Od} {ls:List Wr} {o':List Pr} {r:Rc} {f:Int} (hs:ServedIs t c o x ls o' r f):o'.length≤o.length+1:=by
 rcases hs with ⟨_,_,rfl,_⟩ | ⟨_,hc⟩ | ⟨_,hc⟩ | ⟨_,hc⟩
 ·omega
 ·exact tok_len hc
 ·exact tok_len hc
 ·exact tok_len hc
theorem came_of {w:World} {a:Option Addr} {n cap:Nat} {l:List Pr} (h:ora.RowP w a n l) (h0:a=none→cap=0) (h1:n≤cap) (hl:l.length≤100000):ora.Came w a n cap l:=⟨h,h0,h1,by have:=h.1;omega⟩
theorem came_upd {w W:World} {a:Option Addr} {n cap:Nat} {l:List Pr} {B:Nat} {cs:Array Value} {T:TypeId} (h:ora.Came w a n cap l) (hU:Upd w W B cs T) (hf:0<n→∀ y,a=some y→y.block≠B):ora.Came W a n cap l:=⟨rowP_updK h.row hU hf,h.nil,h.le,h.small⟩
end vnd
namespace book
open Go.RowKit
def MustPost (w:World) (v:Ev) (e:Ending) (w':World):Prop:=((EMay v∧e = .returned (.tuple #[]))∨(¬ EMay v∧e = .panicked (thrown 5)))∧Below w.heap.size w w'
theorem eqEv_any (a b:Ev) (w:World):∃ B,(Op.equalIn 10000 72 (.agg a.cs) (.agg b.cs)).run Tryz.prog w = .ok B w∧(B=true↔a=b):=by
 obtain ⟨a0,a1,a2,a3,a4,a5,a6,a7,a8,a9,a10,a11,a12⟩:=a;obtain ⟨b0,b1,b2,b3,b4,b5,b6,b7,b8,b9,b10,b11,b12⟩:=b;refine ⟨_,eqEv 9997 a0 a1 a2 a3 a4 a5 a6 a7 a8 a9 a10 a11 a12 b0 b1 b2 b3 b4 b5 b6 b7 b8 b9 b10 b11 b12 w,?_⟩;rw [decide_eq_true_iff];constructor
 ·rintro ⟨rfl,rfl,rfl,rfl,rfl,rfl,rfl,rfl,rfl,rfl,rfl,rfl,rfl⟩;rfl
 ·intro h;cases h;exact ⟨rfl,rfl,rfl,rfl,rfl,rfl,rfl,rfl,rfl,rfl,rfl,rfl,rfl⟩
theorem bmust (v:Ev) (w:World):Calls Tryz.prog 67 #[.agg #[zI v.kd,zI v.me,zI v.mo,zI v.id,zI v.te,zI v.de,zI v.fe,zI v.pr,zI v.ch,zI v.un,zI v.tg,zI v.ow,zI v.bp]] w fun e w'=>MustPost w v e w':=by
 have HMI:Hid (EMay v↔(0≤v.me∧v.me≤49)∧KindR v∧leftE v=ev0):=may_iff v;obtain ⟨W0,HWW,HX0,HB0,-⟩:=sh1 w #[zI v.kd,zI v.me,zI v.mo,zI v.id,zI v.te,zI v.de,zI v.fe,zI v.pr,zI v.ch,zI v.un,zI v.tg,zI v.ow,zI v.bp] 72;have HNO:Hid (∀ W,Calls Tryz.prog 112 #[zI 5] W fun e w'=>e = .panicked (thrown 5)∧w'=W):=fun W=>insist_no 5 (by decide) W;have HKR:Hid (∀ W,Calls Tryz.prog 110 #[.agg #[zI v.kd,zI v.me,zI v.mo,zI v.id,zI v.te,zI v.de,zI v.fe,zI v.pr,zI v.ch,zI v.un,zI v.tg,zI v.ow,zI v.bp]] W fun e w'=>YN W (KindR v) e w'):=fun W=>bkind v.kd v.me v.mo v.id v.te v.de v.fe v.pr v.ch v.un v.tg v.ow v.bp W;have HLE:Hid (∀ W,Calls Tryz.prog 111 #[.agg #[zI v.kd,zI v.me,zI v.mo,zI v.id,zI v.te,zI v.de,zI v.fe,zI v.pr,zI v.ch,zI v.un,zI v.tg,zI v.ow,zI v.bp]] W fun e w'=>e = .returned (leftE v).v∧Below W.heap.size W w'):=fun W=>bleft v W;go_enter Tryz.func67,Tryz.ntmps67;go_upto_region 1 with fail
 rw [HWW.o];clear HWW;obtain ⟨c0,c1,c2,c3,c4,c5,c6,c7,c8,c9,c10,c11,c12⟩:=scl13 HX0;have HW:Hid (Calls Tryz.prog 109 #[zI 0,zI 49,.slice (some ⟨W0.heap.size,0,none⟩) 1 1] (W0.alloc (.cells #[zI v.me] 3)) fun e w'=>e = .returned (.bool (decide (0≤v.me∧v.me≤49)))∧w'=(W0.alloc (.cells #[zI v.me] 3))):=bki.within_one 0 49 v.me W0 _ rfl;have HB1:Hid (Below w.heap.size w (W0.alloc (.cells #[zI v.me] 3))):=HB0.o.alloc HB0.o.size _;have HX1:Hid (Blk (W0.alloc (.cells #[zI v.me] 3)) w.heap.size #[zI v.kd,zI v.me,zI v.mo,zI v.id,zI v.te,zI v.de,zI v.fe,zI v.pr,zI v.ch,zI v.un,zI v.tg,zI v.ow,zI v.bp] 72):=HX0.o.alloc _;by_cases h0:0≤v.me∧v.me≤49
 case neg=>
  rw [decide_eq_false h0] at HW;have HN:Hid (¬ EMay v):=fun q=>h0 (HMI.o.1 q).1;clear h0;go_wp2_with fail;refine HW.o.mono ?_;rintro e W ⟨rfl,hw⟩;subst hw;clear HW;clear HX0 HB0 c0 c1 c2 c3 c4 c5 c6 c7 c8 c9 c10 c11 c12;generalize (W0.alloc (.cells #[zI v.me] 3))=W1 at *;obtain ⟨c0,c1,c2,c3,c4,c5,c6,c7,c8,c9,c10,c11,c12⟩:=scl13 HX1;go_wp2_with fail;refine (HNO.o _).mono ?_;rintro e W9 ⟨rfl,rfl⟩;exact ⟨rfl,.inr ⟨HN.o,rfl⟩,HB1.o⟩
 rw [decide_eq_true h0] at HW;have H0:Hid (0≤v.me∧v.me≤49):=h0;clear h0;go_wp2_with fail;refine HW.o.mono ?_;rintro e W ⟨rfl,hw⟩;subst hw;clear HW HX0 HB0;clear c0 c1 c2 c3 c4 c5 c6 c7 c8 c9 c10 c11 c12;generalize (W0.alloc (.cells #[zI v.me] 3))=W1 at *;obtain ⟨c0,c1,c2,c3,c4,c5,c6,c7,c8,c9,c10,c11,c12⟩:=scl13 HX1;go_wp2_with fail;refine (HKR.o _).mono ?_;rintro e W2 ⟨B,rfl,hB,hb⟩;have HB2:=shB HB1 hb;have HX2:=shN HX1 hb;clear hb HKR HB1 HX1;clear c0 c1 c2 c3 c4 c5 c6 c7 c8 c9 c10 c11 c12;obtain ⟨c0,c1,c2,c3,c4,c5,c6,c7,c8,c9,c10,c11,c12⟩:=scl13 HX2;cases B
 case false=>
  have HN:Hid (¬ EMay v):=fun q=>absurd (hB.2 (HMI.o.1 q).2.1) (by decide);clear hB;go_wp2_with fail;refine (HNO.o _).mono ?_;rintro e W9 ⟨rfl,rfl⟩;exact ⟨rfl,.inr ⟨HN.o,rfl⟩,HB2.o⟩
 have HK:Hid (KindR v):=hB.1 rfl;clear hB;go_wp2_with fail;refine (HLE.o _).mono ?_;rintro e W3 ⟨rfl,hb⟩;have HB3:=shB HB2 hb;clear hb HLE HB2 HX2;clear c0 c1 c2 c3 c4 c5 c6 c7 c8 c9 c10 c11 c12;obtain ⟨B,hB,hBi⟩:=eqEv_any (leftE v) ev0 W3;have HEQ:Hid ((Op.equalIn 10000 72 (.agg (leftE v).cs) (.agg ev0.cs)).run Tryz.prog W3 = .ok B W3):=hB;have HBI:Hid (B=true↔leftE v=ev0):=hBi;clear hB hBi;unfold Ev.v;cases B
 case false=>
  have HN:Hid (¬ EMay v):=fun q=>absurd (HBI.o.2 (HMI.o.1 q).2.2) (by decide);go_wp2_with (first | (refine wp_neE (by rfl) 72 _ _ _ rfl (leftE v).cs ev0.cs rfl rfl (by kernel_rfl) false HEQ.o _ rfl ?_) | fail)
  go_wp2_with fail;refine (HNO.o _).mono ?_;rintro e W9 ⟨rfl,rfl⟩;exact ⟨rfl,.inr ⟨HN.o,rfl⟩,HB3.o⟩
 case true=>
  have HY:Hid (EMay v):=HMI.o.2 ⟨H0.o,HK.o,HBI.o.1 rfl⟩;go_wp2_with (first | (refine wp_neE (by rfl) 72 _ _ _ rfl (leftE v).cs ev0.cs rfl rfl (by kernel_rfl) true HEQ.o _ rfl ?_) | fail)
  go_end0;exact ⟨.inl ⟨HY.o,rfl⟩,HB3.o⟩
open cell
theorem kdec:KDec:=by
 intro w a n cap l hr hnil hle hbytes hm;have hmf:∀ (fn:Fn) (first cap:Array Value) (w:World),(Instr.makeFunc fn first cap).run Tryz.prog w = .ok (.func fn first cap) w:=fun _ _ _ _=>rfl;have HLN:Hid (l.length=n):=hr.1;have HR1:Hid (Blk ((w.alloc (.cells #[zI 0,zI 0,zI 0,zI 0,zI 0,zI 0,zI 0,zI 0,zI 0,zI 0,zI 0,zI 0,zI 0] 72)).alloc (.cells #[zI 0] 27)) w.heap.size #[zI 0,zI 0,zI 0,zI 0,zI 0,zI 0,zI 0,zI 0,zI 0,zI 0,zI 0,zI 0,zI 0] 72):=(Blk.new _ _ _).alloc _;have HE1:Hid (Blk ((w.alloc (.cells #[zI 0,zI 0,zI 0,zI 0,zI 0,zI 0,zI 0,zI 0,zI 0,zI 0,zI 0,zI 0,zI 0] 72)).alloc (.cells #[zI 0] 27)) (w.heap.size+1) #[zI 0] 27):=Blk.new1 _ _ _ _;have HB1:Hid (Below w.heap.size w ((w.alloc (.cells #[zI 0,zI 0,zI 0,zI 0,zI 0,zI 0,zI 0,zI 0,zI 0,zI 0,zI 0,zI 0,zI 0] 72)).alloc (.cells #[zI 0] 27))):=((Below.refl _ _).alloc (Nat.le_refl _) _).alloc (by simp) _;by_cases hn:n=13
 case neg=>
  have nn:((n:Int) != 13)=true:=by simp;omega
  have HNL:Hid (l.length≠13):=by show _≠_;rw [HLN.o];exact hn
  clear hn hr hm;go_enter_defers Tryz.func36,Tryz.ntmps36;go_upto_region 2 with fail
  generalize ((w.alloc (.cells #[zI 0,zI 0,zI 0,zI 0,zI 0,zI 0,zI 0,zI 0,zI 0,zI 0,zI 0,zI 0,zI 0] 72)).alloc (.cells #[zI 0] 27))=W1 at *;go_wp2_with (first | (refine zql rfl rfl rfl rfl zqu72 (by simp [Value.oneCell']) HR1 rfl ?_) | fail)
  intro W2 hU;have HR2:Hid (Blk W2 w.heap.size #[zI 0,zI 0,zI 0,zI 0,zI 0,zI 0,zI 0,zI 0,zI 0,zI 0,zI 0,zI 0,zI 0] 72):=hU.blk;have HE2:=shK hU HE1 (by omega);have HB2:Hid (Below w.heap.size w W2):=hU.bel _ _ (Nat.le_refl _) HB1.o;clear hU HR1 HE1 HB1;go_wp2_with (first | (refine wp_let1 rfl 27 _ _ rfl (w.heap.size+1) 0 rfl .i64 1 rfl (by kernel_rfl) #[zI 0] 27 HE2.o (by decide) ?_) | fail)
  intro W3 hU;have HR3:=shK hU HR2 (by omega);have r13:W3.cell? ⟨w.heap.size+1,0,none⟩=some (zI 1):=hU.blk.cell 0;have HB3:=shV hU HB2 (by omega);clear hU;go_wp2_with fail;obtain ⟨r0,r1,r2,r3,r4,r5,r6,r7,r8,r9,r10,r11,r12⟩:=scl13 HR3;show Leaves _ _ _ _ [] .returning W3;refine ⟨.tuple #[.agg #[zI 0,zI 0,zI 0,zI 0,zI 0,zI 0,zI 0,zI 0,zI 0,zI 0,zI 0,zI 0,zI 0],zI 1],by simp [results,Tryz.results36,r0,r1,r2,r3,r4,r5,r6,r7,r8,r9,r10,r11,r12,r13,go_sem],?_⟩;exact ⟨ev0,1,rfl,.inl ⟨HNL.o,rfl,rfl⟩,HB3.o⟩
 subst hn;have HEV:Hid (∀ W,Below w.heap.size w W→Calls Tryz.prog 66 #[.slice a 13 cap] W fun e w'=>e = .returned (evOf l).v∧Below W.heap.size W w'):=fun W hB=>bevent a cap l W (hr.below hB) hm;clear hr hm;obtain ⟨v,hv⟩:∃ v,v=evOf l:=⟨_,rfl⟩
 have HVE:Hid (v=evOf l):=hv;rw [← hv] at HEV;clear hv;have HMU:Hid (∀ W,Calls Tryz.prog 67 #[.agg #[zI v.kd,zI v.me,zI v.mo,zI v.id,zI v.te,zI v.de,zI v.fe,zI v.pr,zI v.ch,zI v.un,zI v.tg,zI v.ow,zI v.bp]] W fun e w'=>MustPost W v e w'):=fun W=>bmust v W;have nn:(((13:Nat):Int) != 13)=false:=by decide
 go_enter_defers Tryz.func36,Tryz.ntmps36;go_upto_region 4 with fail
 generalize ((w.alloc (.cells #[zI 0,zI 0,zI 0,zI 0,zI 0,zI 0,zI 0,zI 0,zI 0,zI 0,zI 0,zI 0,zI 0] 72)).alloc (.cells #[zI 0] 27))=W1 at *;have HE:=HEV.o W1 HB1.o;have HE':Hid (Calls Tryz.prog 66 #[.slice a 13 cap] W1 fun e w'=>e = .returned v.v∧Below W1.heap.size W1 w'):=HE;clear HE HEV;go_wp2_with fail;refine HE'.o.mono ?_;rintro e W2 ⟨rfl,hb⟩;have HR2:Hid (Blk (W2.alloc (.cells #[zI v.kd,zI v.me,zI v.mo,zI v.id,zI v.te,zI v.de,zI v.fe,zI v.pr,zI v.ch,zI v.un,zI v.tg,zI v.ow,zI v.bp] 72)) w.heap.size #[zI 0,zI 0,zI 0,zI 0,zI 0,zI 0,zI 0,zI 0,zI 0,zI 0,zI 0,zI 0,zI 0] 72):=(HR1.o.next hb).alloc _;have HE2:Hid (Blk (W2.alloc (.cells #[zI v.kd,zI v.me,zI v.mo,zI v.id,zI v.te,zI v.de,zI v.fe,zI v.pr,zI v.ch,zI v.un,zI v.tg,zI v.ow,zI v.bp] 72)) (w.heap.size+1) #[zI 0] 27):=(HE1.o.next hb).alloc _;have HT2:Hid (Blk (W2.alloc (.cells #[zI v.kd,zI v.me,zI v.mo,zI v.id,zI v.te,zI v.de,zI v.fe,zI v.pr,zI v.ch,zI v.un,zI v.tg,zI v.ow,zI v.bp] 72)) W2.heap.size #[zI v.kd,zI v.me,zI v.mo,zI v.id,zI v.te,zI v.de,zI v.fe,zI v.pr,zI v.ch,zI v.un,zI v.tg,zI v.ow,zI v.bp] 72):=Blk.new _ _ _;have HB2:Hid (Below w.heap.size w (W2.alloc (.cells #[zI v.kd,zI v.me,zI v.mo,zI v.id,zI v.te,zI v.de,zI v.fe,zI v.pr,zI v.ch,zI v.un,zI v.tg,zI v.ow,zI v.bp] 72))):=(bel_step HB1.o hb).alloc (bel_step HB1.o hb).size _;have HG2:Hid (w.heap.size+1<W2.heap.size):=(HE1.o.next hb).lt;clear hb HR1 HE1 HB1 HE';unfold Ev.v;go_upto_region 5 with fail
 generalize (W2.alloc (.cells #[zI v.kd,zI v.me,zI v.mo,zI v.id,zI v.te,zI v.de,zI v.fe,zI v.pr,zI v.ch,zI v.un,zI v.tg,zI v.ow,zI v.bp] 72))=W3 at *;generalize W2.heap.size=g at *;obtain ⟨c0,c1,c2,c3,c4,c5,c6,c7,c8,c9,c10,c11,c12⟩:=scl13 HT2;go_wp2_with fail;refine (HMU.o _).mono ?_;rintro e W4 ⟨hm,hb⟩;have HR4:=shN HR2 hb;have HE4:=shN HE2 hb;have HT4:=shN HT2 hb;have HB4:=shB HB2 hb;clear hb HR2 HE2 HT2 HB2 HMU c0 c1 c2 c3 c4 c5 c6 c7 c8 c9 c10 c11 c12;rcases hm with ⟨hm,rfl⟩ | ⟨hm,rfl⟩
 ·have HY:Hid (EMay v):=hm;clear hm;obtain ⟨c0,c1,c2,c3,c4,c5,c6,c7,c8,c9,c10,c11,c12⟩:=scl13 HT4;go_wp2_with (first | (refine zql rfl rfl rfl rfl zqu72 (by simp [Value.oneCell']) HR4 rfl ?_) | fail)
  intro W5 hU;have HR5:Hid (Blk W5 w.heap.size #[zI v.kd,zI v.me,zI v.mo,zI v.id,zI v.te,zI v.de,zI v.fe,zI v.pr,zI v.ch,zI v.un,zI v.tg,zI v.ow,zI v.bp] 72):=hU.blk;have HE5:=shK hU HE4 (by omega);have HB5:Hid (Below w.heap.size w W5):=hU.bel _ _ (Nat.le_refl _) HB4.o;clear hU HR4 HE4 HB4 HT4 c0 c1 c2 c3 c4 c5 c6 c7 c8 c9 c10 c11 c12;go_wp2_with (first | (refine wp_let1 rfl 27 _ _ rfl (w.heap.size+1) 0 rfl .i64 0 rfl (by kernel_rfl) #[zI 0] 27 HE5.o (by decide) ?_) | fail)
  intro W6 hU;have HR6:=shK hU HR5 (by omega);have HE6:Hid (Blk W6 (w.heap.size+1) #[zI 0] 27):=hU.blk;have HB6:=shV hU HB5 (by omega);clear hU HR5 HE5 HB5;go_wp2_with fail;refine leaves_cons (f:=65) (args:=#[.pointer (some ⟨w.heap.size+1,0,none⟩)]) (by simp) (by simp [go_sem]) ?_;refine (decode_idle (w.heap.size+1) 0 _ HE6.o).mono ?_;rintro e u' w5 ⟨rfl,hs,W,hb,hU⟩;have HR7:Blk w5 w.heap.size #[zI v.kd,zI v.me,zI v.mo,zI v.id,zI v.te,zI v.de,zI v.fe,zI v.pr,zI v.ch,zI v.un,zI v.tg,zI v.ow,zI v.bp] 72:=hU.keep (HR6.o.next hb) (by omega);have r13:w5.cell? ⟨w.heap.size+1,0,none⟩=some (zI 0):=hU.blk.cell 0;have HB7:Below w.heap.size w w5:=hU.bel _ _ (by omega) (bel_step HB6.o hb);have r0:w5.cell? ⟨w.heap.size,0,none⟩=some (zI v.kd):=HR7.cell 0;have r1:w5.cell? ⟨w.heap.size,1,none⟩=some (zI v.me):=HR7.cell 1;have r2:w5.cell? ⟨w.heap.size,2,none⟩=some (zI v.mo):=HR7.cell 2;have r3:w5.cell? ⟨w.heap.size,3,none⟩=some (zI v.id):=HR7.cell 3;have r4:w5.cell? ⟨w.heap.size,4,none⟩=some (zI v.te):=HR7.cell 4;have r5:w5.cell? ⟨w.heap.size,5,none⟩=some (zI v.de):=HR7.cell 5;have r6:w5.cell? ⟨w.heap.size,6,none⟩=some (zI v.fe):=HR7.cell 6;have r7:w5.cell? ⟨w.heap.size,7,none⟩=some (zI v.pr):=HR7.cell 7;have r8:w5.cell? ⟨w.heap.size,8,none⟩=some (zI v.ch):=HR7.cell 8;have r9:w5.cell? ⟨w.heap.size,9,none⟩=some (zI v.un):=HR7.cell 9;have r10:w5.cell? ⟨w.heap.size,10,none⟩=some (zI v.tg):=HR7.cell 10;have r11:w5.cell? ⟨w.heap.size,11,none⟩=some (zI v.ow):=HR7.cell 11;have r12:w5.cell? ⟨w.heap.size,12,none⟩=some (zI v.bp):=HR7.cell 12;show Leaves _ _ _ _ [] (settle u') w5;rw [hs];refine ⟨.tuple #[.agg #[zI v.kd,zI v.me,zI v.mo,zI v.id,zI v.te,zI v.de,zI v.fe,zI v.pr,zI v.ch,zI v.un,zI v.tg,zI v.ow,zI v.bp],zI 0],by simp [results,Tryz.results36,r0,r1,r2,r3,r4,r5,r6,r7,r8,r9,r10,r11,r12,r13,go_sem],?_⟩;exact ⟨v,0,rfl,.inr (.inr ⟨HLN.o,by rw [← HVE.o];exact HY.o,HVE.o,rfl⟩),HB7⟩
 ·have HN:Hid (¬ EMay v):=hm;clear hm;refine leaves_cons (f:=65) (args:=#[.pointer (some ⟨w.heap.size+1,0,none⟩)]) (by simp) (by simp [go_sem]) ?_;refine (decode_caught (w.heap.size+1) 0 5 _ HE4.o).mono ?_;rintro e u' w5 ⟨rfl,hs,W,hb,hU⟩;have HR7:Blk w5 w.heap.size #[zI 0,zI 0,zI 0,zI 0,zI 0,zI 0,zI 0,zI 0,zI 0,zI 0,zI 0,zI 0,zI 0] 72:=hU.keep (HR4.o.next hb) (by omega);have r13:w5.cell? ⟨w.heap.size+1,0,none⟩=some (zI 5):=hU.blk.cell 0;have HB7:Below w.heap.size w w5:=hU.bel _ _ (by omega) (bel_step HB4.o hb);have r0:w5.cell? ⟨w.heap.size,0,none⟩=some (zI 0):=HR7.cell 0;have r1:w5.cell? ⟨w.heap.size,1,none⟩=some (zI 0):=HR7.cell 1;have r2:w5.cell? ⟨w.heap.size,2,none⟩=some (zI 0):=HR7.cell 2;have r3:w5.cell? ⟨w.heap.size,3,none⟩=some (zI 0):=HR7.cell 3;have r4:w5.cell? ⟨w.heap.size,4,none⟩=some (zI 0):=HR7.cell 4;have r5:w5.cell? ⟨w.heap.size,5,none⟩=some (zI 0):=HR7.cell 5;have r6:w5.cell? ⟨w.heap.size,6,none⟩=some (zI 0):=HR7.cell 6;have r7:w5.cell? ⟨w.heap.size,7,none⟩=some (zI 0):=HR7.cell 7;have r8:w5.cell? ⟨w.heap.size,8,none⟩=some (zI 0):=HR7.cell 8;have r9:w5.cell? ⟨w.heap.size,9,none⟩=some (zI 0):=HR7.cell 9;have r10:w5.cell? ⟨w.heap.size,10,none⟩=some (zI 0):=HR7.cell 10;have r11:w5.cell? ⟨w.heap.size,11,none⟩=some (zI 0):=HR7.cell 11;have r12:w5.cell? ⟨w.heap.size,12,none⟩=some (zI 0):=HR7.cell 12;show Leaves _ _ _ _ [] (settle u') w5;rw [hs];refine ⟨.tuple #[.agg #[zI 0,zI 0,zI 0,zI 0,zI 0,zI 0,zI 0,zI 0,zI 0,zI 0,zI 0,zI 0,zI 0],zI 5],by simp [results,Tryz.results36,r0,r1,r2,r3,r4,r5,r6,r7,r8,r9,r10,r11,r12,r13,go_sem],?_⟩;exact ⟨ev0,5,rfl,.inr (.inl ⟨HLN.o,by rw [← HVE.o];exact HN.o,rfl,rfl⟩),HB7⟩
end book
end Go.Proofs.YtnpblpbohcegoaaGreatDoor
