import Derived.Test.YtnpblpbohcegoaaGreatDoorVBTed25
set_option linter.unusedVariables false
set_option linter.unusedSimpArgs false
set_option maxHeartbeats 4000000
set_option maxRecDepth 100000
namespace Go.Proofs.YtnpblpbohcegoaaGreatDoor
namespace book
open Go.RowKit cell
theorem kdec:KDec:=by
 intro w a n cap l hr hnil hle hbytes hm;have hmf:∀ (fn:Fn) (first cap:Array Value) (w:World),(Instr.makeFunc fn first cap).run Tryz.prog w = .ok (.func fn first cap) w:=fun _ _ _ _=>rfl;have HLN:Hid (l.length=n):=hr.1;have HR1:Hid (Blk ((w.alloc (.cells #[zI 0,zI 0,zI 0,zI 0,zI 0,zI 0,zI 0,zI 0,zI 0,zI 0,zI 0,zI 0,zI 0] 72)).alloc (.cells #[zI 0] 27)) w.heap.size #[zI 0,zI 0,zI 0,zI 0,zI 0,zI 0,zI 0,zI 0,zI 0,zI 0,zI 0,zI 0,zI 0] 72):=(Blk.new _ _ _).alloc _;have HE1:Hid (Blk ((w.alloc (.cells #[zI 0,zI 0,zI 0,zI 0,zI 0,zI 0,zI 0,zI 0,zI 0,zI 0,zI 0,zI 0,zI 0] 72)).alloc (.cells #[zI 0] 27)) (w.heap.size+1) #[zI 0] 27):=Blk.new1 _ _ _ _;have HB1:Hid (Below w.heap.size w ((w.alloc (.cells #[zI 0,zI 0,zI 0,zI 0,zI 0,zI 0,zI 0,zI 0,zI 0,zI 0,zI 0,zI 0,zI 0] 72)).alloc (.cells #[zI 0] 27))):=((Below.refl _ _).alloc (Nat.le_refl _) _).alloc (by simp) _;by_cases hn:n=13
 case neg=>
  have nn:((n:Int) != 13)=true:=by simp;omega
  have HNL:Hid (l.length≠13):=by show _≠_;rw [HLN.o];exact hn
  clear hn hr hm;go_enter_defers Tryz.func36,Tryz.ntmps36;go_upto_region 2 with fail
  generalize ((w.alloc (.cells #[zI 0,zI 0,zI 0,zI 0,zI 0,zI 0,zI 0,zI 0,zI 0,zI 0,zI 0,zI 0,zI 0] 72)).alloc (.cells #[zI 0] 27))=W1 at *;go_wp2_with (first | (refine zql rfl rfl rfl rfl zqu72 (by simp [Value.oneCell']) HR1 rfl ?_) | fail)
  intro W2 hU;have HR2:Hid (Blk W2 w.heap.size #[zI 0,zI 0,zI 0,zI 0,zI 0,zI 0,zI 0,zI 0,zI 0,zI 0,zI 0,zI 0,zI 0] 72):=hU.blk;have HE2:=shK hU HE1 (by omega);have HB2:Hid (Below w.heap.size w W2):=hU.bel _ _ (Nat.le_refl _) HB1.o;clear hU HR1 HE1 HB1;go_wp2_with (first | (refine wp_let1 rfl 27 _ _ rfl (w.heap.size+1) 0 rfl .i64 1 rfl (by kernel_rfl) #[zI 0] 27 HE2.o (by decide) ?_) | fail)
  intro W3 hU;have HR3:=shK hU HR2 (by omega);have r13:W3.cell? ⟨w.heap.size+1,0,none⟩=some (zI 1):=hU.blk.cell 0;have HB3:=shV hU HB2 (by omega);clear hU;go_wp2_with fail;obtain ⟨r0,r1,r2,r3,r4,r5,r6,r7,r8,r9,r10,r11,r12⟩:=scl13 HR3;show Leaves _ _ _ _ [] .returning W3;refine ⟨.tuple #[.agg #[zI 0,zI 0,zI 0,zI 0,zI 0,zI 0,zI 0,zI 0,zI 0,zI 0,zI 0,zI 0,zI 0],zI 1],by simp [results,Tryz.results36,r0,r1,r2,r3,r4,r5,r6,r7,r8,r9,r10,r11,r12,r13,go_sem],?_⟩;exact ⟨ev0,1,rfl,.inl ⟨HNL.o,rfl,rfl⟩,HB3.o⟩
 subst hn;have HEV:Hid (∀ W,Below w.heap.size w W→Calls Tryz.prog 66 #[.slice a 13 cap] W fun e w'=>e = .returned (evOf l).v∧Below W.heap.size W w'):=fun W hB=>bevent a cap l W (hr.below hB) hm;clear hr hm;obtain ⟨v,hv⟩:∃ v,v=evOf l:=⟨_,rfl⟩
 have HVE:Hid (v=evOf l):=hv;rw [← hv] at HEV;clear hv;have HMU:Hid (∀ W,Calls Tryz.prog 67 #[.agg #[zI v.kd,zI v.me,zI v.mo,zI v.id,zI v.te,zI v.de,zI v.fe,zI v.pr,zI v.ch,zI v.un,zI v.tg,zI v.ow,zI v.bp]] W fun e w'=>MustPost W v e w'):=fun W=>bmust v W;have nn:(((13:Nat):Int) != 13)=false:=by decide
 go_enter_defers Tryz.func36,Tryz.ntmps36;go_upto_region 4 with fail
 generalize ((w.alloc (.cells #[zI 0,zI 0,zI 0,zI 0,zI 0,zI 0,zI 0,zI 0,zI 0,zI 0,zI 0,zI 0,zI 0] 72)).alloc (.cells #[zI 0] 27))=W1 at *;have HE:=HEV.o W1 HB1.o;have HE':Hid (Calls Tryz.prog 66 #[.slice a 13 cap] W1 fun e w'=>e = .returned v.v∧Below W1.heap.size W1 w'):=HE;clear HE HEV;go_wp2_with fail;refine HE'.o.mono ?_;rintro e W2 ⟨rfl,hb⟩;have HR2:Hid (Blk (W2.alloc (.cells #[zI v.kd,zI v.me,zI v.mo,zI v.id,zI v.te,zI v.de,zI v.fe,zI v.pr,zI v.ch,zI v.un,zI v.tg,zI v.ow,zI v.bp] 72)) w.heap.size #[zI 0,zI 0,zI 0,zI 0,zI 0,zI 0,zI 0,zI 0,zI 0,zI 0,zI 0,zI 0,zI 0] 72):=(HR1.o.next hb).alloc _;have HE2:Hid (Blk (W2.alloc (.cells #[zI v.kd,zI v.me,zI v.mo,zI v.id,zI v.te,zI v.de,zI v.fe,zI v.pr,zI v.ch,zI v.un,zI v.tg,zI v.ow,zI v.bp] 72)) (w.heap.size+1) #[zI 0] 27):=(HE1.o.next hb).alloc _;have HT2:Hid (Blk (W2.alloc (.cells #[zI v.kd,zI v.me,zI v.mo,zI v.id,zI v.te,zI v.de,zI v.fe,zI v.pr,zI v.ch,zI v.un,zI v.tg,zI v.ow,zI v.bp] 72)) W2.heap.size #[zI v.kd,zI v.me,zI v.mo,zI v.id,zI v.te,zI v.de,zI v.fe,zI v.pr,zI v.ch,zI v.un,zI v.tg,zI v.ow,zI v.bp] 72):=Blk.new _ _ _;have HB2:Hid (Below w.heap.size w (W2.alloc (.cells #[zI v.kd,zI v.me,zI v.mo,zI v.id,zI v.te,zI v.de,zI v.fe,zI v.pr,zI v.ch,zI v.un,zI v.tg,zI v.ow,zI v.bp] 72))):=(bel_step HB1.o hb).alloc (bel_step HB1.o hb).size _;have HG2:Hid (w.heap.size+1<W2.heap.size):=(HE1.o.next hb).lt;clear hb HR1 HE1 HB1 HE';unfold Ev.v;go_upto_region 5 with fail
 generalize (W2.alloc (.cells #[zI v.kd,zI v.me,zI v.mo,zI v.id,zI v.te,zI v.de,zI v.fe,zI v.pr,zI v.ch,zI v.un,zI v.tg,zI v.ow,zI v.bp] 72))=W3 at *;generalize W2.heap.size=g at *;obtain ⟨c0,c1,c2,c3,c4,c5,c6,c7,c8,c9,c10,c11,c12⟩:=scl13 HT2;go_wp2_with fail;refine (HMU.o _).mono ?_;rintro e W4 ⟨hm,hb⟩;have HR4:=shN HR2 hb;have HE4:=shN HE2 hb;have HT4:=shN HT2 hb;have HB4:=shB HB2 hb;clear hb HR2 HE2 HT2 HB2 HMU c0 c1 c2 c3 c4 c5 c6 c7 c8 c9 c10 c11 c12;rcases hm with ⟨hm,rfl⟩ | ⟨hm,rfl⟩
 ·have HY:Hid (EMay v):=hm;clear hm;obtain ⟨c0,c1,c2,c3,c4,c5,c6,c7,c8,c9,c10,c11,c12⟩:=scl13 HT4;go_wp2_with (first | (refine zql rfl rfl rfl rfl zqu72 (by simp [Value.oneCell']) HR4 rfl ?_) | fail)
  intro W5 hU;have HR5:Hid (Blk W5 w.heap.size #[zI v.kd,zI v.me,zI v.mo,zI v.id,zI v.te,zI v.de,zI v.fe,zI v.pr,zI v.ch,zI v.un,zI v.tg,zI v.ow,zI v.bp] 72):=hU.blk;have HE5:=shK hU HE4 (by omega);have HB5:Hid (Below w.heap.size w W5):=hU.bel _ _ (Nat.le_refl _) HB4.o;clear hU HR4 HE4 HB4 HT4 c0 c1 c2 c3 c4 c5 c6 c7 c8 c9 c10 c11 c12;go_wp2_with (first | (refine wp_let1 rfl 27 _ _ rfl (w.heap.size+1) 0 rfl .i64 0 rfl (by kernel_rfl) #[zI 0] 27 HE5.o (by decide) ?_) | fail)
  intro W6 hU;have HR6:=shK hU HR5 (by omega);have HE6:Hid (Blk W6 (w.heap.size+1) #[zI 0] 27):=hU.blk;have HB6:=shV hU HB5 (by omega);clear hU HR5 HE5 HB5;go_wp2_with fail;refine leaves_cons (f:=65) (args:=#[.pointer (some ⟨w.heap.size+1,0,none⟩)]) (by simp) (by simp [go_sem]) ?_;refine (decode_idle (w.heap.size+1) 0 _ HE6.o).mono ?_;rintro e u' w5 ⟨rfl,hs,W,hb,hU⟩;have HR7:Blk w5 w.heap.size #[zI v.kd,zI v.me,zI v.mo,zI v.id,zI v.te,zI v.de,zI v.fe,zI v.pr,zI v.ch,zI v.un,zI v.tg,zI v.ow,zI v.bp] 72:=hU.keep (HR6.o.next hb) (by omega);have r13:w5.cell? ⟨w.heap.size+1,0,none⟩=some (zI 0):=hU.blk.cell 0;have HB7:Below w.heap.size w w5:=hU.bel _ _ (by omega) (bel_step HB6.o hb);have r0:w5.cell? ⟨w.heap.size,0,none⟩=some (zI v.kd):=HR7.cell 0;have r1:w5.cell? ⟨w.heap.size,1,none⟩=some (zI v.me):=HR7.cell 1;have r2:w5.cell? ⟨w.heap.size,2,none⟩=some (zI v.mo):=HR7.cell 2;have r3:w5.cell? ⟨w.heap.size,3,none⟩=some (zI v.id):=HR7.cell 3;have r4:w5.cell? ⟨w.heap.size,4,none⟩=some (zI v.te):=HR7.cell 4;have r5:w5.cell? ⟨w.heap.size,5,none⟩=some (zI v.de):=HR7.cell 5;have r6:w5.cell? ⟨w.heap.size,6,none⟩=some (zI v.fe):=HR7.cell 6;have r7:w5.cell? ⟨w.heap.size,7,none⟩=some (zI v.pr):=HR7.cell 7;have r8:w5.cell? ⟨w.heap.size,8,none⟩=some (zI v.ch):=HR7.cell 8;have r9:w5.cell? ⟨w.heap.size,9,none⟩=some (zI v.un):=HR7.cell 9;have r10:w5.cell? ⟨w.heap.size,10,none⟩=some (zI v.tg):=HR7.cell 10;have r11:w5.cell? ⟨w.heap.size,11,none⟩=some (zI v.ow):=HR7.cell 11;have r12:w5.cell? ⟨w.heap.size,12,none⟩=some (zI v.bp):=HR7.cell 12;show Leaves _ _ _ _ [] (settle u') w5;rw [hs];refine ⟨.tuple #[.agg #[zI v.kd,zI v.me,zI v.mo,zI v.id,zI v.te,zI v.de,zI v.fe,zI v.pr,zI v.ch,zI v.un,zI v.tg,zI v.ow,zI v.bp],zI 0],by simp [results,Tryz.results36,r0,r1,r2,r3,r4,r5,r6,r7,r8,r9,r10,r11,r12,r13,go_sem],?_⟩;exact ⟨v,0,rfl,.inr (.inr ⟨HLN.o,by rw [← HVE.o];exact HY.o,HVE.o,rfl⟩),HB7⟩
 ·have HN:Hid (¬ EMay v):=hm;clear hm;refine leaves_cons (f:=65) (args:=#[.pointer (some ⟨w.heap.size+1,0,none⟩)]) (by simp) (by simp [go_sem]) ?_;refine (decode_caught (w.heap.size+1) 0 5 _ HE4.o).mono ?_;rintro e u' w5 ⟨rfl,hs,W,hb,hU⟩;have HR7:Blk w5 w.heap.size #[zI 0,zI 0,zI 0,zI 0,zI 0,zI 0,zI 0,zI 0,zI 0,zI 0,zI 0,zI 0,zI 0] 72:=hU.keep (HR4.o.next hb) (by omega);have r13:w5.cell? ⟨w.heap.size+1,0,none⟩=some (zI 5):=hU.blk.cell 0;have HB7:Below w.heap.size w w5:=hU.bel _ _ (by omega) (bel_step HB4.o hb);have r0:w5.cell? ⟨w.heap.size,0,none⟩=some (zI 0):=HR7.cell 0;have r1:w5.cell? ⟨w.heap.size,1,none⟩=some (zI 0):=HR7.cell 1;have r2:w5.cell? ⟨w.heap.size,2,none⟩=some (zI 0):=HR7.cell 2;have r3:w5.cell? ⟨w.heap.size,3,none⟩=some (zI 0):=HR7.cell 3;have r4:w5.cell? ⟨w.heap.size,4,none⟩=some (zI 0):=HR7.cell 4;have r5:w5.cell? ⟨w.heap.size,5,none⟩=some (zI 0):=HR7.cell 5;have r6:w5.cell? ⟨w.heap.size,6,none⟩=some (zI 0):=HR7.cell 6;have r7:w5.cell? ⟨w.heap.size,7,none⟩=some (zI 0):=HR7.cell 7;have r8:w5.cell? ⟨w.heap.size,8,none⟩=some (zI 0):=HR7.cell 8;have r9:w5.cell? ⟨w.heap.size,9,none⟩=some (zI 0):=HR7.cell 9;have r10:w5.cell? ⟨w.heap.size,10,none⟩=some (zI 0):=HR7.cell 10;have r11:w5.cell? ⟨w.heap.size,11,none⟩=some (zI 0):=HR7.cell 11;have r12:w5.cell? ⟨w.heap.size,12,none⟩=some (zI 0):=HR7.cell 12;show Leaves _ _ _ _ [] (settle u') w5;rw [hs];refine ⟨.tuple #[.agg #[zI 0,zI 0,zI 0,zI 0,zI 0,zI 0,zI 0,zI 0,zI 0,zI 0,zI 0,zI 0,zI 0],zI 5],by simp [results,Tryz.results36,r0,r1,r2,r3,r4,r5,r6,r7,r8,r9,r10,r11,r12,r13,go_sem],?_⟩;exact ⟨ev0,5,rfl,.inr (.inl ⟨HLN.o,by rw [← HVE.o];exact HN.o,rfl,rfl⟩),HB7⟩
end book
namespace ora
open Go.RowKit
def Given (w:World) (l:List Pr) (e:Ending) (w':World):Prop:=
 Below w.heap.size w w'∧((May l∧∃ B,e = .returned (.tuple #[.map (some B),.bool true])∧Mp w' B l)∨(¬ May l∧e = .returned (.tuple #[.map none,.bool false])))
def Seen (l:List Pr) (k:Nat):Prop:=∀ i,i<k→(l.getD i pr0).may∧At l (l.getD i pr0).m (l.getD i pr0).r (l.getD i pr0).b i
structure Bg (w wr:World) (B:Nat) (a:Option Addr) (n cap:Nat) (l:List Pr) (k:Nat):Prop where
 bo:Bo w wr a n cap l
 mp:Mp wr B (l.take k)
 hB:w.heap.size≤B
theorem Bg.next {w wr w':World} {B:Nat} {a:Option Addr} {n cap:Nat} {l:List Pr} {k:Nat} (h:Bg w wr B a n cap l k) (hb:Below wr.heap.size wr w'):Bg w w' B a n cap l k:=⟨h.bo.next hb,h.mp.below hb,h.hB⟩
theorem Bg.alloc {w wr:World} {B:Nat} {a:Option Addr} {n cap:Nat} {l:List Pr} {k:Nat} (h:Bg w wr B a n cap l k) (o:Obj):Bg w (wr.alloc o) B a n cap l k:=h.next ((Below.refl _ _).alloc (Nat.le_refl _) _)
theorem Bg.drew {w wr:World} {B:Nat} {a:Option Addr} {n cap:Nat} {l:List Pr} {k:Nat} (h:Bg w wr B a n cap l k) (q:Nat):Bg w (wr.drewN q) B a n cap l k:=h.next (bel_drew (Below.refl _ _) q)
theorem rowP_oth {w W:World} {a:Option Addr} {n:Nat} {l:List Pr} {B:Nat} {l':List Pr} (h:RowP w a n l) (hM:Mp w B l') (ho:∀ G,G≠B→W.heap[G]?=w.heap[G]?):RowP W a n l:=by
 refine ⟨h.1,?_⟩;rcases h.2 with h0 | ⟨b,off,rfl,hc⟩
 ·exact .inl h0
 ·refine .inr ⟨b,off,rfl,fun i hi=>?_⟩;obtain ⟨h1,h2,h3,h4⟩:=hc i hi
  have hb:b≠B:=by
   rintro rfl;unfold Mp at hM;simp [World.cell?,hM] at h1
  have e:∀ o,W.cell? ⟨b,o,none⟩=w.cell? ⟨b,o,none⟩:=fun o=>by simp only [World.cell?,ho b hb]
  exact ⟨(e _).trans h1,(e _).trans h2,(e _).trans h3,(e _).trans h4⟩
theorem blk_oth {w W:World} {G B:Nat} {cs:Array Value} {t:TypeId} {l':List Pr} (h:Blk w G cs t) (hM:Mp w B l') (ho:∀ G,G≠B→W.heap[G]?=w.heap[G]?):Blk W G cs t:=by
 have hb:G≠B:=by
  rintro rfl;unfold Mp at hM;unfold Blk at h;rw [h] at hM;cases hM
 unfold Blk at *;rw [ho G hb];exact h
theorem Bg.put {w wr W:World} {B:Nat} {a:Option Addr} {n cap:Nat} {l:List Pr} {k:Nat} (h:Bg w wr B a n cap l k) (hk:k<l.length) (hM:Mp W B (l.take k++[⟨(l.getD k pr0).m,(l.getD k pr0).r,(l.getD k pr0).b,(l.getD k pr0).t⟩]))
  (ho:∀ G,G≠B→W.heap[G]?=wr.heap[G]?) (hb:∀ B0 w0,B0≤B→Below B0 w0 wr→Below B0 w0 W):Bg w W B a n cap l (k+1):=
 ⟨⟨blk_oth h.bo.box h.mp ho,rowP_oth h.bo.row h.mp ho,hb _ _ h.hB h.bo.bel⟩,by rw [take_nextP l k hk] at hM;exact hM,h.hB⟩
theorem seen_no {l:List Pr} {k:Nat} (hk:k<l.length) (hm:May l):look (l.take k) (l.getD k pr0).m (l.getD k pr0).r (l.getD k pr0).b=none:=(look_take (by omega)).2 (hm.each k hk).2.first
theorem seen_yes {l:List Pr} {k:Nat} (hk:k<l.length) (hs:Seen l k) (hl:look (l.take k) (l.getD k pr0).m (l.getD k pr0).r (l.getD k pr0).b=none) (hp:(Pr.mk (l.getD k pr0).m (l.getD k pr0).r (l.getD k pr0).b (l.getD k pr0).t).may):Seen l (k+1):=fun i hi=>by
 by_cases e:i=k
 ·subst e;exact ⟨hp,hk,⟨rfl,rfl,rfl⟩,(look_take (by omega)).1 hl⟩
 ·exact hs i (by omega)
theorem given_any (a:Option Addr) (n cap:Nat) (l:List Pr) (w:World) (hr:RowP w a n l) :
  Calls Tryz.prog 187 #[.agg #[.slice a n cap]] w fun e w'=>Given w l e w':=by
 have HB0:Hid (Bo w (w.alloc (.cells #[.slice a n cap] 39)) a n cap l):=Bo.new hr;have HL:Hid (l.length=n):=hr.1;clear hr;have c0:=HB0.o.box.cell 0;by_cases hn:n≤500
 ·have hgt':decide ((500:Int)<(n:Int))=false:=by simp;omega
  obtain ⟨B,hBe⟩:∃ B,B=w.heap.size+1:=⟨_,rfl⟩
  have hmk:∀ z:Int,(Instr.makeMap 275 (some (zI z))).run Tryz.prog (w.alloc (.cells #[.slice a n cap] 39)) = .ok (.map (some B)) ((w.alloc (.cells #[.slice a n cap] 39)).alloc (.map #[] 0)):=fun z=>by rw [run_mkMap,hBe];simp
  have HG0:Hid (Bg w ((w.alloc (.cells #[.slice a n cap] 39)).alloc (.map #[] 0)) B a n cap l 0):=⟨HB0.o.alloc _,by
   have:=Mp.new (w.alloc (.cells #[.slice a n cap] 39));rw [show (w.alloc (.cells #[.slice a n cap] 39)).heap.size=B by rw [hBe];simp] at this
   rw [List.take_zero];exact this,by omega⟩
  have d0:=HG0.o.bo.box.cell 0;clear hBe HB0;have HPM:Hid (∀ W m r b t,Calls Tryz.prog 188 #[.agg #[zI m,zI r,zI b,zI t]] W fun e w'=>Told W (Pr.mk m r b t).may e w'):=fun W m r b t=>within_any m r b t W;have HOF:Hid (∀ W m r b t,Calls Tryz.prog 189 #[.agg #[zI m,zI r,zI b,zI t]] W fun e w'=>e = .returned (.agg #[zI m,zI r,zI b])∧Below W.heap.size W w'):=fun W m r b t=>of_any m r b t W;go_enter Tryz.func187,Tryz.ntmps187;go_wp2_with fail;clear c0 d0 hmk hgt';generalize (w.alloc (.cells #[.slice a n cap] 39)).alloc (.map #[] 0)=W0 at *;go_loopw [20] (fun j wr=>∃ k:Nat,k≤n∧j=zI (k:Int)∧Hid (Seen l k)∧Bg w wr B a n cap l k) (fun j _=>n - (intOf j).toNat)
  case atStart=>exact ⟨0,Nat.zero_le _,rfl,fun i hi=>absurd hi (Nat.not_lt_zero _),HG0.o⟩
  case round=>
   obtain ⟨k,hk,rfl,HA,hbo⟩:=hrel;have HI:Hid (Bg w wr B a n cap l k):=hbo;clear hbo HG0;by_cases hlt:k<n
   ·obtain ⟨bl,off,rfl,_,hc⟩:=HI.o.bo.row.at (by omega);obtain ⟨f0,f1,f2,f3⟩:=hc k hlt;have hkl:k<l.length:=by rw [HL.o];exact hlt
    have HNO:Hid (look (l.take k) (l.getD k pr0).m (l.getD k pr0).r (l.getD k pr0).b≠none→¬ May l):=fun h hm=>h (seen_no hkl hm);have HN1:Hid (May l→(Pr.mk (l.getD k pr0).m (l.getD k pr0).r (l.getD k pr0).b (l.getD k pr0).t).may):=fun hm=>(hm.each k hkl).1;have HNX:Hid (look (l.take k) (l.getD k pr0).m (l.getD k pr0).r (l.getD k pr0).b=none→(Pr.mk (l.getD k pr0).m (l.getD k pr0).r (l.getD k pr0).b (l.getD k pr0).t).may→Seen l (k+1)):=fun h1 h2=>seen_yes hkl HA.o h1 h2;have HPUT:Hid (∀ v W,Bg w v B (some ⟨bl,off,none⟩) n cap l k→Mp W B (l.take k++[⟨(l.getD k pr0).m,(l.getD k pr0).r,(l.getD k pr0).b,(l.getD k pr0).t⟩])→(∀ G,G≠B→W.heap[G]?=v.heap[G]?)→(∀ B0 w0,B0≤B→Below B0 w0 v→Below B0 w0 W)→Bg w W B (some ⟨bl,off,none⟩) n cap l (k+1)):=fun v W h1 h2 h3 h4=>h1.put hkl h2 h3 h4;clear hc HA hkl;generalize (l.getD k pr0).m=pm at *;generalize (l.getD k pr0).r=prr at *;generalize (l.getD k pr0).b=pb at *;generalize (l.getD k pr0).t=pt at *;have hN:=Blk.new wr #[zI pm,zI prr,zI pb,zI pt] 279;have n0:=hN.cell 0;have n1:=hN.cell 1;have n2:=hN.cell 2;have n3:=hN.cell 3;have HNB:Hid (Blk (wr.alloc (.cells #[zI pm,zI prr,zI pb,zI pt] 279)) wr.heap.size #[zI pm,zI prr,zI pb,zI pt] 279):=hN;have HI2:Hid (Bg w (wr.alloc (.cells #[zI pm,zI prr,zI pb,zI pt] 279)) B (some ⟨bl,off,none⟩) n cap l k):=HI.o.alloc _;clear hN HI;go_wp2_with fail;refine (HOF.o _ _ _ _ _).mono ?_;rintro e w2 ⟨rfl,hb2⟩;have HI3:Hid (Bg w w2 B (some ⟨bl,off,none⟩) n cap l k):=HI2.o.next hb2;have HM:=shN HNB hb2;have m0:=HM.o.cell 0;have m1:=HM.o.cell 1;have m2:=HM.o.cell 2;have m3:=HM.o.cell 3;have hlk:=look_run HI3.o.mp pm prr pb;clear HNB hb2 n0 n1 n2 n3 HI2 f0 f1 f2 f3;generalize wr.heap.size=gn at *;cases hlo:look (l.take k) pm prr pb with
    | some x=>
     rw [hlo] at hlk;simp only [Option.getD_some,Option.isSome_some] at hlk;have HF:Hid (¬ May l):=HNO.o (by rw [hlo];exact fun h=>by cases h);clear hlo;go_wp2_with fail;go_ret2;exact ⟨HI3.o.bo.bel,.inr ⟨HF.o,rfl⟩⟩
    | none=>
     rw [hlo] at hlk;simp only [Option.getD_none,Option.isSome_none] at hlk;have HLO:Hid (look (l.take k) pm prr pb=none):=hlo;clear hlo;go_wp2_with fail;refine (HPM.o _ _ _ _ _).mono ?_;rintro e w3 ⟨rr,rfl,hrr,hb3⟩;have HI4:Hid (Bg w w3 B (some ⟨bl,off,none⟩) n cap l k):=HI3.o.next hb3;have HM3:=shN HM hb3;clear hlk m0 m1 m2 m3 HM HI3 hb3;cases rr with
     | false=>
      have HF:Hid (¬ May l):=fun hm=>by have:=hrr.2 (HN1.o hm);cases this
      clear hrr;go_wp2_with fail;go_ret2;exact ⟨HI4.o.bo.bel,.inr ⟨HF.o,rfl⟩⟩
     | true=>
      have HPY:Hid ((Pr.mk pm prr pb pt).may):=hrr.1 rfl;clear hrr;have K3:Hid (w3.drew.cell? ⟨gn,0,none⟩=some (zI pm)∧w3.drew.cell? ⟨gn,0+1,none⟩=some (zI prr)∧w3.drew.cell? ⟨gn,0+2,none⟩=some (zI pb)∧w3.drew.cell? ⟨gn,0+3,none⟩=some (zI pt)):=⟨HM3.o.cell 0,HM3.o.cell 1,HM3.o.cell 2,HM3.o.cell 3⟩
      have HI5:Hid (Bg w w3.drew B (some ⟨bl,off,none⟩) n cap l k):=HI4.o.drew 1;have HM5:Hid (Blk w3.drew gn #[zI pm,zI prr,zI pb,zI pt] 279):=HM3.o;go_wp2_with fail
      go_region_held_law (fun v=>v.cell? ⟨gn,0,none⟩=some (zI pm)∧v.cell? ⟨gn,0+1,none⟩=some (zI prr)∧v.cell? ⟨gn,0+2,none⟩=some (zI pb)∧v.cell? ⟨gn,0+3,none⟩=some (zI pt))
       (first | with_reducible exact K3.o | with_reducible exact K4.o | with_reducible exact K5.o)
       (first
        | (go_at_call 189;refine (HOF.o _ _ _ _ _).mono ?_;rintro e w4 ⟨rfl,hb4⟩
           have HI6:Hid (Bg w w4 B (some ⟨bl,off,none⟩) n cap l k):=HI5.o.next hb4;have HM6:=shN HM5 hb4;have K4:Hid (w4.cell? ⟨gn,0,none⟩=some (zI pm)∧w4.cell? ⟨gn,0+1,none⟩=some (zI prr)∧w4.cell? ⟨gn,0+2,none⟩=some (zI pb)∧w4.cell? ⟨gn,0+3,none⟩=some (zI pt)):=⟨HM6.o.cell 0,HM6.o.cell 1,HM6.o.cell 2,HM6.o.cell 3⟩
           obtain ⟨W5,hu5,hm5,ho5,hb5,hs5⟩:=upd_run HI6.o.mp pm prr pb pt HLO.o;have HI7:Hid (Bg w W5 B (some ⟨bl,off,none⟩) n cap l (k+1)):=HPUT.o _ _ HI6.o hm5 ho5 hb5;have hM7:=blk_oth HM6.o HI6.o.mp ho5;have K5:Hid (W5.cell? ⟨gn,0,none⟩=some (zI pm)∧W5.cell? ⟨gn,0+1,none⟩=some (zI prr)∧W5.cell? ⟨gn,0+2,none⟩=some (zI pb)∧W5.cell? ⟨gn,0+3,none⟩=some (zI pt)):=⟨hM7.cell 0,hM7.cell 1,hM7.cell 2,hM7.cell 3⟩
           clear hm5 ho5 hb5 hs5 hM7 hb4))
      all_goals go_wp2_with fail
      all_goals go_roundw
      case rel=>exact ⟨k+1,by omega,by go_num,HNX.o HLO.o HPY.o,HI7.o⟩
      case measure=>simp [intOf];omega
   ·obtain rfl:k=n:=by omega
    have hlt':decide ((k:Int)<(k:Int))=false:=by simp
    have HF:Hid (May l):=⟨by rw [HL.o];exact hn,fun i hi=>HA.o i (by rw [← HL.o];exact hi)⟩
    have HM:Hid (Mp wr B l):=by have:=HI.o.mp;rw [List.take_of_length_le (by rw [HL.o];exact Nat.le_refl _)] at this;exact this
    clear hlt HA;go_wp2_with fail;go_ret2;exact ⟨HI.o.bo.bel,.inl ⟨HF.o,B,rfl,HM.o⟩⟩
 ·have hgt':decide ((500:Int)<(n:Int))=true:=by simp;omega
  have HF:Hid (¬ May l):=fun h=>by have:=h.few;rw [HL.o] at this;omega
  clear hn HL;go_enter Tryz.func187,Tryz.ntmps187;go_wp2_with fail;go_ret2;exact ⟨HB0.o.bel,.inr ⟨HF.o,rfl⟩⟩
end ora
end Go.Proofs.YtnpblpbohcegoaaGreatDoor
