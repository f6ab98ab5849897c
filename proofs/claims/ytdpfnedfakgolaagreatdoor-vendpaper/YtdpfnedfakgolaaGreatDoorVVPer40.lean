import Derived.Test.YtdpfnedfakgolaaGreatDoorVVPer39
set_option linter.unusedVariables false
set_option linter.unusedSimpArgs false
set_option maxHeartbeats 4000000
set_option maxRecDepth 100000
namespace Go.Proofs.YtdpfnedfakgolaaGreatDoor
namespace rcp
open Go.RowKit
theorem units_any (c i a t:Int) (w:World):Calls Tryz.prog 33 #[.agg #[zI c,zI i,zI a,zI t]] w fun e w'=>e = .returned (zI (if c=0 then a else 0))∧Below w.heap.size w w':=by
 by_cases h:c=0
 ·subst h;rw [if_pos rfl];go_enter Tryz.func33,Tryz.ntmps33;go_wp2_with fail;go_ret;exact ⟨rfl,rci.bel1 _ _⟩
 ·rw [if_neg h];have hq:(c == 0)=false:=by simpa using h
  clear h;go_enter Tryz.func33,Tryz.ntmps33;go_wp2_with fail;go_ret;exact ⟨rfl,rci.bel1 _ _⟩
def chk (me id te de fe pr ch un c i a pe:Int):Int:=
 if ¬ (0≤me∧me≤49) then 18 else if rci.okAll 0 100000000 [te,de,fe,pr,ch]=false then 2 else if ¬ (1≤id∧id≤1048575) then 2 else if ¬ (0≤un∧un≤2097151) then 2 else if te≠de+fe+pr+ch then 19 else if pe≠0 then pe else if i≠id then 8 else if (if c=0 then a else 0)≠un then 8 else 0
theorem five_bd {a b c d e:Int} (h:rci.okAll 0 100000000 [a,b,c,d,e]=true):(0≤a∧a≤100000000)∧(0≤b∧b≤100000000)∧(0≤c∧c≤100000000)∧(0≤d∧d≤100000000)∧(0≤e∧e≤100000000):=by
 simpa [rci.okAll] using h
theorem check_abs (me id te de fe pr ch un c i a t pe:Int) (S:ByteArray) (w:World)
  (hP:∀ w',Below w.heap.size w w'→Calls Tryz.prog 9 #[.string S] w' fun e w''=>e = .returned (.tuple #[.agg #[zI c,zI i,zI a,zI t],zI pe])∧Below w'.heap.size w' w'') :
  Calls Tryz.prog 12 #[.agg #[zI me,zI id,zI te,zI de,zI fe,zI pr,zI ch,zI un,.string S]] w fun e w'=>e = .returned (zI (chk me id te de fe pr ch un c i a pe))∧Below w.heap.size w w':=by
 have HP:Hid (∀ w',Below w.heap.size w w'→Calls Tryz.prog 9 #[.string S] w' fun e w''=>e = .returned (.tuple #[.agg #[zI c,zI i,zI a,zI t],zI pe])∧Below w'.heap.size w' w''):=hP;clear hP;have HX0:Hid (Blk (w.alloc (.cells #[zI me,zI id,zI te,zI de,zI fe,zI pr,zI ch,zI un,.string S] 50)) w.heap.size #[zI me,zI id,zI te,zI de,zI fe,zI pr,zI ch,zI un,.string S] 50):=Blk.new _ _ _;have HB0:Hid (Below w.heap.size w (w.alloc (.cells #[zI me,zI id,zI te,zI de,zI fe,zI pr,zI ch,zI un,.string S] 50))):=(Below.refl _ _).alloc (Nat.le_refl _) _;have hs0:w.heap.size<(w.alloc (.cells #[zI me,zI id,zI te,zI de,zI fe,zI pr,zI ch,zI un,.string S] 50)).heap.size:=HX0.o.lt;generalize hWW:w.alloc (.cells #[zI me,zI id,zI te,zI de,zI fe,zI pr,zI ch,zI un,.string S] 50)=W0 at *;have HWW:Hid (w.alloc (.cells #[zI me,zI id,zI te,zI de,zI fe,zI pr,zI ch,zI un,.string S] 50)=W0):=hWW;clear hWW;have HU:Hid (∀ W,Calls Tryz.prog 33 #[.agg #[zI c,zI i,zI a,zI t]] W fun e w'=>e = .returned (zI (if c=0 then a else 0))∧Below W.heap.size W w'):=fun W=>units_any c i a t W;generalize hun':(if c=0 then a else 0)=ut at HU;have HUT:Hid ((if c=0 then a else 0)=ut):=hun';clear hun';have xme:W0.cell? ⟨w.heap.size,0,none⟩=some (zI me):=HX0.o.cell 0;have xid:W0.cell? ⟨w.heap.size,1,none⟩=some (zI id):=HX0.o.cell 1;have xte:W0.cell? ⟨w.heap.size,2,none⟩=some (zI te):=HX0.o.cell 2;have xde:W0.cell? ⟨w.heap.size,3,none⟩=some (zI de):=HX0.o.cell 3;have xfe:W0.cell? ⟨w.heap.size,4,none⟩=some (zI fe):=HX0.o.cell 4;have xpr:W0.cell? ⟨w.heap.size,5,none⟩=some (zI pr):=HX0.o.cell 5;have xch:W0.cell? ⟨w.heap.size,6,none⟩=some (zI ch):=HX0.o.cell 6;have xun:W0.cell? ⟨w.heap.size,7,none⟩=some (zI un):=HX0.o.cell 7;go_enter Tryz.func12,Tryz.ntmps12;go_upto_region 1 with fail
 rw [HWW.o];clear HWW;obtain ⟨W1,HWW,HBB,HBB,-⟩:=sh1 W0 #[zI id,zI te,zI de,zI fe,zI pr,zI ch,zI un] 48;have HX1:=shN HX0 HBB.o;have HB1:=shB HB0 HBB.o;go_upto_region 2 with fail
 rw [HWW.o];clear HWW HBB;generalize W0.heap.size=gb at *;clear xme xid xte xde xfe xpr xch xun HX0 HB0;have yme:W1.cell? ⟨w.heap.size,0,none⟩=some (zI me):=HX1.o.cell 0;have HIM:=rci.isMeter_any me W1;by_cases hme:0≤me∧me≤49
 case neg=>
  rw [decide_eq_false hme] at HIM;have HR:Hid (chk me id te de fe pr ch un c i a pe=18):=by show _=_;unfold chk;rw [if_pos hme]
  go_wp2_with fail;refine HIM.mono ?_;rintro e W2 ⟨rfl,hb⟩;have HB2:=shB HB1 hb;clear hb HIM;go_wp2_with fail;go_ret;exact ⟨by rw [HR.o];rfl,HB2.o⟩
 rw [decide_eq_true hme] at HIM;go_wp2_with fail;refine HIM.mono ?_;rintro e W2 ⟨rfl,hb⟩;have HB2:=shB HB1 hb;have HBB2:=shN HBB hb;have HX2:=shN HX1 hb;clear hb HIM HB1 HBB HX1 yme;have bid:W2.cell? ⟨gb,0,none⟩=some (zI id):=HBB2.o.cell 0;have bte:W2.cell? ⟨gb,1,none⟩=some (zI te):=HBB2.o.cell 1;have bde:W2.cell? ⟨gb,2,none⟩=some (zI de):=HBB2.o.cell 2;have bfe:W2.cell? ⟨gb,3,none⟩=some (zI fe):=HBB2.o.cell 3;have bpr:W2.cell? ⟨gb,4,none⟩=some (zI pr):=HBB2.o.cell 4;have bch:W2.cell? ⟨gb,5,none⟩=some (zI ch):=HBB2.o.cell 5;have bun:W2.cell? ⟨gb,6,none⟩=some (zI un):=HBB2.o.cell 6;have HW2:Hid (Calls Tryz.prog 32 #[zI 0,zI 100000000,.slice (some ⟨W2.heap.size,0,none⟩) 5 5] (W2.alloc (.cells #[zI te,zI de,zI fe,zI pr,zI ch] 3)) fun e w'=>e = .returned (.bool (rci.okAll 0 100000000 [te,de,fe,pr,ch]))∧w'=W2.alloc (.cells #[zI te,zI de,zI fe,zI pr,zI ch] 3)):=rci.within_any 0 100000000 _ 5 5 [te,de,fe,pr,ch] _ (rci.row_five W2 te de fe pr ch 3) (by decide);have HB3:Hid (Below w.heap.size w (W2.alloc (.cells #[zI te,zI de,zI fe,zI pr,zI ch] 3))):=HB2.o.alloc HB2.o.size _;have HBB3:Hid (Blk (W2.alloc (.cells #[zI te,zI de,zI fe,zI pr,zI ch] 3)) gb #[zI id,zI te,zI de,zI fe,zI pr,zI ch,zI un] 48):=HBB2.o.alloc _;have HX3:Hid (Blk (W2.alloc (.cells #[zI te,zI de,zI fe,zI pr,zI ch] 3)) w.heap.size #[zI me,zI id,zI te,zI de,zI fe,zI pr,zI ch,zI un,.string S] 50):=HX2.o.alloc _;by_cases h5:rci.okAll 0 100000000 [te,de,fe,pr,ch]=true
 case neg=>
  rw [show rci.okAll 0 100000000 [te,de,fe,pr,ch]=false by simpa using h5] at HW2;have HR:Hid (chk me id te de fe pr ch un c i a pe=2):=by show _=_;unfold chk;rw [if_neg (not_not_intro hme),if_pos (by simpa using h5)]
  go_wp2_with fail;refine HW2.o.mono ?_;rintro e W ⟨rfl,hw⟩;subst hw;clear HW2;go_wp2_with fail;go_ret;exact ⟨by rw [HR.o];rfl,HB3.o⟩
 rw [h5] at HW2;go_wp2_with fail;refine HW2.o.mono ?_;rintro e W ⟨rfl,hw⟩;subst hw;clear HW2 HB2 HBB2 HX2 bid bte bde bfe bpr bch bun;generalize W2.alloc (.cells #[zI te,zI de,zI fe,zI pr,zI ch] 3)=W3 at *;have bid:W3.cell? ⟨gb,0,none⟩=some (zI id):=HBB3.o.cell 0;have bte:W3.cell? ⟨gb,1,none⟩=some (zI te):=HBB3.o.cell 1;have bde:W3.cell? ⟨gb,2,none⟩=some (zI de):=HBB3.o.cell 2;have bfe:W3.cell? ⟨gb,3,none⟩=some (zI fe):=HBB3.o.cell 3;have bpr:W3.cell? ⟨gb,4,none⟩=some (zI pr):=HBB3.o.cell 4;have bch:W3.cell? ⟨gb,5,none⟩=some (zI ch):=HBB3.o.cell 5;have bun:W3.cell? ⟨gb,6,none⟩=some (zI un):=HBB3.o.cell 6;have HW3:Hid (Calls Tryz.prog 32 #[zI 1,zI 1048575,.slice (some ⟨W3.heap.size,0,none⟩) 1 1] (W3.alloc (.cells #[zI id] 3)) fun e w'=>e = .returned (.bool (decide (1≤id∧id≤1048575)))∧w'=W3.alloc (.cells #[zI id] 3)):=rci.within_one 1 1048575 id W3 _ rfl;have HB4:Hid (Below w.heap.size w (W3.alloc (.cells #[zI id] 3))):=HB3.o.alloc HB3.o.size _;have HBB4:Hid (Blk (W3.alloc (.cells #[zI id] 3)) gb #[zI id,zI te,zI de,zI fe,zI pr,zI ch,zI un] 48):=HBB3.o.alloc _;have HX4:Hid (Blk (W3.alloc (.cells #[zI id] 3)) w.heap.size #[zI me,zI id,zI te,zI de,zI fe,zI pr,zI ch,zI un,.string S] 50):=HX3.o.alloc _;by_cases hid:1≤id∧id≤1048575
 case neg=>
  rw [decide_eq_false hid] at HW3;have HR:Hid (chk me id te de fe pr ch un c i a pe=2):=by show _=_;unfold chk;rw [if_neg (not_not_intro hme),if_neg (by rw [h5];decide),if_pos hid]
  go_wp2_with fail;refine HW3.o.mono ?_;rintro e W ⟨rfl,hw⟩;subst hw;clear HW3;go_wp2_with fail;go_ret;exact ⟨by rw [HR.o];rfl,HB4.o⟩
 rw [decide_eq_true hid] at HW3;go_wp2_with fail;refine HW3.o.mono ?_;rintro e W ⟨rfl,hw⟩;subst hw;clear HW3 HB3 HBB3 HX3 bid bte bde bfe bpr bch bun;generalize W3.alloc (.cells #[zI id] 3)=W4 at *;have bid:W4.cell? ⟨gb,0,none⟩=some (zI id):=HBB4.o.cell 0;have bte:W4.cell? ⟨gb,1,none⟩=some (zI te):=HBB4.o.cell 1;have bde:W4.cell? ⟨gb,2,none⟩=some (zI de):=HBB4.o.cell 2;have bfe:W4.cell? ⟨gb,3,none⟩=some (zI fe):=HBB4.o.cell 3;have bpr:W4.cell? ⟨gb,4,none⟩=some (zI pr):=HBB4.o.cell 4;have bch:W4.cell? ⟨gb,5,none⟩=some (zI ch):=HBB4.o.cell 5;have bun:W4.cell? ⟨gb,6,none⟩=some (zI un):=HBB4.o.cell 6;have HW4:Hid (Calls Tryz.prog 32 #[zI 0,zI 2097151,.slice (some ⟨W4.heap.size,0,none⟩) 1 1] (W4.alloc (.cells #[zI un] 3)) fun e w'=>e = .returned (.bool (decide (0≤un∧un≤2097151)))∧w'=W4.alloc (.cells #[zI un] 3)):=rci.within_one 0 2097151 un W4 _ rfl;have HB5:Hid (Below w.heap.size w (W4.alloc (.cells #[zI un] 3))):=HB4.o.alloc HB4.o.size _;have HBB5:Hid (Blk (W4.alloc (.cells #[zI un] 3)) gb #[zI id,zI te,zI de,zI fe,zI pr,zI ch,zI un] 48):=HBB4.o.alloc _;have HX5:Hid (Blk (W4.alloc (.cells #[zI un] 3)) w.heap.size #[zI me,zI id,zI te,zI de,zI fe,zI pr,zI ch,zI un,.string S] 50):=HX4.o.alloc _;by_cases hun:0≤un∧un≤2097151
 case neg=>
  rw [decide_eq_false hun] at HW4;have HR:Hid (chk me id te de fe pr ch un c i a pe=2):=by show _=_;unfold chk;rw [if_neg (not_not_intro hme),if_neg (by rw [h5];decide),if_neg (not_not_intro hid),if_pos hun]
  go_wp2_with fail;refine HW4.o.mono ?_;rintro e W ⟨rfl,hw⟩;subst hw;clear HW4;go_wp2_with fail;go_ret;exact ⟨by rw [HR.o];rfl,HB5.o⟩
 rw [decide_eq_true hun] at HW4;go_wp2_with fail;refine HW4.o.mono ?_;rintro e W ⟨rfl,hw⟩;subst hw;clear HW4 HB4 HBB4 HX4 bid bte bde bfe bpr bch bun;generalize W4.alloc (.cells #[zI un] 3)=W5 at *;have bid:W5.cell? ⟨gb,0,none⟩=some (zI id):=HBB5.o.cell 0;have bte:W5.cell? ⟨gb,1,none⟩=some (zI te):=HBB5.o.cell 1;have bde:W5.cell? ⟨gb,2,none⟩=some (zI de):=HBB5.o.cell 2;have bfe:W5.cell? ⟨gb,3,none⟩=some (zI fe):=HBB5.o.cell 3;have bpr:W5.cell? ⟨gb,4,none⟩=some (zI pr):=HBB5.o.cell 4;have bch:W5.cell? ⟨gb,5,none⟩=some (zI ch):=HBB5.o.cell 5;have bun:W5.cell? ⟨gb,6,none⟩=some (zI un):=HBB5.o.cell 6;obtain ⟨⟨te0,te1⟩,⟨de0,de1⟩,⟨fe0,fe1⟩,⟨pr0,pr1⟩,⟨ch0,ch1⟩⟩:=five_bd h5;have q1:IntKind.i64.wrap (de+fe)=de+fe:=by rw [IntKind.wrap_i64];omega
 have q2:IntKind.i64.wrap (de+fe+pr)=de+fe+pr:=by rw [IntKind.wrap_i64];omega
 have q3:IntKind.i64.wrap (de+fe+pr+ch)=de+fe+pr+ch:=by rw [IntKind.wrap_i64];omega
 by_cases hsum:te=de+fe+pr+ch
 case neg=>
  have hq:(te != de+fe+pr+ch)=true:=by simpa using hsum
  have HR:Hid (chk me id te de fe pr ch un c i a pe=19):=by show _=_;unfold chk;rw [if_neg (not_not_intro hme),if_neg (by rw [h5];decide),if_neg (not_not_intro hid),if_neg (not_not_intro hun),if_pos hsum]
  clear hsum;go_wp2_with fail;go_ret;exact ⟨by rw [HR.o];rfl,HB5.o⟩
 have hq:(te != de+fe+pr+ch)=false:=by simpa using hsum
 have ytk:W5.cell? ⟨w.heap.size,8,none⟩=some (.string S):=HX5.o.cell 8;have HP5:=HP.o W5 HB5.o;have HHE:Hid (te=de+fe+pr+ch):=hsum;clear hsum HP;go_upto_region 10 with fail
 go_wp2_with fail;refine HP5.mono ?_;rintro e W6 ⟨rfl,hb⟩;have HB6:=shB HB5 hb;have HBB6:=shN HBB5 hb;clear hb HP5 HB5 HBB5 HX5 ytk bid bte bde bfe bpr bch bun q1 q2 q3;obtain ⟨W7,HWW,HT7,HBB,-⟩:=sh1 W6 #[zI c,zI i,zI a,zI t] 54;have HBB7:=shN HBB6 HBB.o;have HB7:=shB HB6 HBB.o;go_upto_region 11 with fail
 rw [HWW.o];clear HWW HBB;generalize W6.heap.size=gt at *;clear HB6 HBB6;by_cases hpe:pe=0
 case neg=>
  have hq2:(pe != 0)=true:=by simpa using hpe
  have HR:Hid (chk me id te de fe pr ch un c i a pe=pe):=by show _=_;unfold chk;rw [if_neg (not_not_intro hme),if_neg (by rw [h5];decide),if_neg (not_not_intro hid),if_neg (not_not_intro hun),if_neg (not_not_intro HHE.o),if_pos hpe]
  clear hpe;go_wp2_with fail;go_ret;exact ⟨by rw [HR.o];rfl,HB7.o⟩
 have hq2:(pe != 0)=false:=by simpa using hpe
 have HPE:Hid (pe=0):=hpe;clear hpe;go_upto_region 13 with fail
 have lt0:gt<W7.heap.size:=HT7.o.lt;have lb0:gb<W7.heap.size:=HBB7.o.lt;obtain ⟨u0,u1,u2,u3⟩:=scl4 HT7;have v0:W7.cell? ⟨gb,0,none⟩=some (zI id):=HBB7.o.cell 0;have v6:W7.cell? ⟨gb,6,none⟩=some (zI un):=HBB7.o.cell 6;have HDR:Hid (Below W7.heap.size W7 W7.drew):=bel_drew (Below.refl _ _) 1;by_cases hi:i=id
 case neg=>
  have hq3:(i != id)=true:=by simpa using hi
  have HR:Hid (chk me id te de fe pr ch un c i a pe=8):=by show _=_;unfold chk;rw [if_neg (not_not_intro hme),if_neg (by rw [h5];decide),if_neg (not_not_intro hid),if_neg (not_not_intro hun),if_neg (not_not_intro HHE.o),if_neg (not_not_intro HPE.o),if_pos hi]
  clear hi;refine wp_region_held_drew (S:=fun v=>Below W7.heap.size W7 v) (by kernel_rfl) HDR.o (fun hHeld=>?_);refine zqs 0 61 (.pointer (some ⟨gt,1,none⟩)) rfl rfl (by kernel_rfl) zid rfl (fun v hv=>by clear hv;go_simp) hHeld ?_;simp only [zq];refine zqt 1 62 (zI i) rfl rfl (by kernel_rfl) zid (Or.inl ⟨by rfl,fun v hv=>by have g1:=(hv.cell (p:=⟨gt,1,none⟩) lt0).trans u1;clear hv;go_simp⟩) hHeld ?_;simp only [zq];refine zqs 2 63 (.pointer (some ⟨gb,0,none⟩)) rfl rfl (by kernel_rfl) zid rfl (fun v hv=>by clear hv;go_simp) hHeld ?_;simp only [zq];refine zqt 3 64 (zI id) rfl rfl (by kernel_rfl) zid (Or.inl ⟨by rfl,fun v hv=>by have g0:=(hv.cell (p:=⟨gb,0,none⟩) lb0).trans v0;clear hv;go_simp⟩) hHeld ?_;simp only [zq];refine zqs 4 65 (.bool true) rfl rfl (by kernel_rfl) zid rfl (fun v hv=>by clear hv;go_simp) hHeld ?_;simp only [zq];refine zqs 5 66 (.bool true) rfl rfl (by kernel_rfl) zid rfl (fun v hv=>by clear hv;go_simp) hHeld ?_;simp only [zq];refine zqt 6 67 undef rfl rfl (by kernel_rfl) zid (Or.inr ⟨by rfl,rfl⟩) hHeld ?_;simp only [zq];refine zqt 7 68 undef rfl rfl (by kernel_rfl) zid (Or.inr ⟨by rfl,rfl⟩) hHeld ?_;simp only [zq];refine zqt 8 69 undef rfl rfl (by kernel_rfl) zid (Or.inr ⟨by rfl,rfl⟩) hHeld ?_;simp only [zq];refine zqt 9 70 undef rfl rfl (by kernel_rfl) zid (Or.inr ⟨by rfl,rfl⟩) hHeld ?_;simp only [zq];refine zqt 10 71 undef rfl rfl (by kernel_rfl) zid (Or.inr ⟨by rfl,rfl⟩) hHeld ?_;simp only [zq];refine zqs 11 72 (.bool true) rfl rfl (by kernel_rfl) zid rfl (fun v hv=>by clear hv;go_simp) hHeld ?_;simp only [zq];refine wpAnyH_done (by kernel_rfl) ?_ _;have HB8:Hid (Below w.heap.size w W7.drew):=bel_drew HB7.o 1;clear hHeld;go_wp2_with fail;go_ret;exact ⟨by rw [HR.o];rfl,HB8.o⟩
 have hq3:(i != id)=false:=by simpa using hi
 have HII:Hid (i=id):=hi;clear hi;refine wp_region_held_drew (S:=fun v=>Below W7.heap.size W7 v) (by kernel_rfl) HDR.o (fun hHeld=>?_);refine zqs 0 61 (.pointer (some ⟨gt,1,none⟩)) rfl rfl (by kernel_rfl) zid rfl (fun v hv=>by clear hv;go_simp) hHeld ?_;simp only [zq];refine zqt 1 62 (zI i) rfl rfl (by kernel_rfl) zid (Or.inl ⟨by rfl,fun v hv=>by have g1:=(hv.cell (p:=⟨gt,1,none⟩) lt0).trans u1;clear hv;go_simp⟩) hHeld ?_;simp only [zq];refine zqs 2 63 (.pointer (some ⟨gb,0,none⟩)) rfl rfl (by kernel_rfl) zid rfl (fun v hv=>by clear hv;go_simp) hHeld ?_;simp only [zq];refine zqt 3 64 (zI id) rfl rfl (by kernel_rfl) zid (Or.inl ⟨by rfl,fun v hv=>by have g0:=(hv.cell (p:=⟨gb,0,none⟩) lb0).trans v0;clear hv;go_simp⟩) hHeld ?_;simp only [zq];refine zqs 4 65 (.bool false) rfl rfl (by kernel_rfl) zid rfl (fun v hv=>by clear hv;go_simp) hHeld ?_;simp only [zq];refine zqs 5 66 (.bool false) rfl rfl (by kernel_rfl) zid rfl (fun v hv=>by clear hv;go_simp) hHeld ?_;simp only [zq];refine zqt 6 67 (.agg #[zI c,zI i,zI a,zI t]) rfl rfl (by kernel_rfl) zid (Or.inl ⟨by rfl,fun v hv=>by have g0:=(hv.cell (p:=⟨gt,0,none⟩) lt0).trans u0;have g1:=(hv.cell (p:=⟨gt,1,none⟩) lt0).trans u1;have g2:=(hv.cell (p:=⟨gt,2,none⟩) lt0).trans u2;have g3:=(hv.cell (p:=⟨gt,3,none⟩) lt0).trans u3;clear hv;go_simp⟩) hHeld ?_;simp only [zq];refine zqs 8 69 (.pointer (some ⟨gb,6,none⟩)) rfl rfl (by kernel_rfl) zid rfl (fun v hv=>by clear hv;go_simp) hHeld ?_;simp only [zq];refine zqt 9 70 (zI un) rfl rfl (by kernel_rfl) zid (Or.inl ⟨by rfl,fun v hv=>by have g6:=(hv.cell (p:=⟨gb,6,none⟩) lb0).trans v6;clear hv;go_simp⟩) hHeld ?_;simp only [zq];refine zqo 7 (by kernel_rfl) rfl (fun K hK=>?_);rw [if_pos (by rfl)];refine wp_callOp 68 rfl (by clear hK;go_simp) (HU.o _) ?_;rintro e W8 ⟨rfl,hb⟩;have HB8:Hid (Below w.heap.size w W8):=bel_step (bel_drew HB7.o 1) hb;refine ⟨_,rfl,hK.o _ _ (bel_step HDR.o hb) (fun hHeld=>?_)⟩
 clear hK hb HB7;simp only [zq];by_cases hu:ut=un
 ·have hq4:(ut != un)=false:=by simpa using hu
  have HR:Hid (chk me id te de fe pr ch un c i a pe=0):=by show _=_;unfold chk;rw [if_neg (not_not_intro hme),if_neg (by rw [h5];decide),if_neg (not_not_intro hid),if_neg (not_not_intro hun),if_neg (not_not_intro HHE.o),if_neg (not_not_intro HPE.o),if_neg (not_not_intro HII.o),HUT.o,if_neg (not_not_intro hu)]
  clear hu;refine zqs 10 71 (.bool false) rfl rfl (by kernel_rfl) zid rfl (fun v hv=>by clear hv;go_simp) hHeld ?_;simp only [zq];refine zqs 11 72 (.bool false) rfl rfl (by kernel_rfl) zid rfl (fun v hv=>by clear hv;go_simp) hHeld ?_;simp only [zq];refine wpAnyH_done (by kernel_rfl) ?_ _;clear hHeld;go_wp2_with fail;go_ret;exact ⟨by rw [HR.o];rfl,HB8.o⟩
 ·have hq4:(ut != un)=true:=by simpa using hu
  have HR:Hid (chk me id te de fe pr ch un c i a pe=8):=by show _=_;unfold chk;rw [if_neg (not_not_intro hme),if_neg (by rw [h5];decide),if_neg (not_not_intro hid),if_neg (not_not_intro hun),if_neg (not_not_intro HHE.o),if_neg (not_not_intro HPE.o),if_neg (not_not_intro HII.o),HUT.o,if_pos hu]
  clear hu;refine zqs 10 71 (.bool true) rfl rfl (by kernel_rfl) zid rfl (fun v hv=>by clear hv;go_simp) hHeld ?_;simp only [zq];refine zqs 11 72 (.bool true) rfl rfl (by kernel_rfl) zid rfl (fun v hv=>by clear hv;go_simp) hHeld ?_;simp only [zq];refine wpAnyH_done (by kernel_rfl) ?_ _;clear hHeld;go_wp2_with fail;go_ret;exact ⟨by rw [HR.o];rfl,HB8.o⟩
theorem chk_is (r:Rc) (c i a:Int) (pe:Int) (hpe:pe=token.parseE r.tk) (hok:token.parseE r.tk=0→c=((tokR r).c:Int)∧i=((tokR r).i:Int)∧a=((tokR r).a:Int)) :
  FaultIs r (chk r.me r.id r.te r.de r.fe r.pr r.ch r.un c i a pe):=by
 unfold chk;by_cases h1:0≤r.me∧r.me≤49
 case neg=>rw [if_pos h1];exact .inl ⟨h1,rfl⟩
 rw [if_neg (not_not_intro h1)];cases h5:rci.okAll 0 100000000 [r.te,r.de,r.fe,r.pr,r.ch] with
 | false=>
  rw [if_pos rfl];refine .inr (.inl ⟨h1,fun hr=>?_,rfl⟩);obtain ⟨⟨a,b,c,d⟩,e,_⟩:=hr;have:rci.okAll 0 100000000 [r.te,r.de,r.fe,r.pr,r.ch]=true:=by simp [rci.okAll];exact ⟨a,b,c,d,e⟩
  rw [this] at h5;cases h5
 | true=>
  rw [if_neg (by decide)];obtain ⟨b1,b2,b3,b4,b5⟩:=five_bd h5;by_cases hid:1≤r.id∧r.id≤1048575
  case neg=>rw [if_pos hid];exact .inr (.inl ⟨h1,fun hr=>hid hr.2.2.1,rfl⟩)
  rw [if_neg (not_not_intro hid)];by_cases hun:0≤r.un∧r.un≤2097151
  case neg=>rw [if_pos hun];exact .inr (.inl ⟨h1,fun hr=>hun hr.2.2.2,rfl⟩)
  rw [if_neg (not_not_intro hun)];have hrr:RRange r:=⟨⟨b1,b2,b3,b4⟩,b5,hid,hun⟩
  by_cases hs:r.te=r.de+r.fe+r.pr+r.ch
  case neg=>rw [if_pos hs];exact .inr (.inr (.inl ⟨h1,hrr,fun h=>hs (by unfold RSum at h;omega),rfl⟩))
  rw [if_neg (not_not_intro hs)];have hsm:RSum r:=by unfold RSum;omega
  subst hpe;by_cases hp:token.parseE r.tk=0
  case neg=>rw [if_pos hp];exact .inr (.inr (.inr (.inl ⟨h1,hrr,hsm,hp,rfl⟩)))
  rw [if_neg (not_not_intro hp)];obtain ⟨rfl,rfl,rfl⟩:=hok hp;by_cases hi:((tokR r).i:Int)=r.id
  case neg=>rw [if_pos hi];exact .inr (.inr (.inr (.inr (.inl ⟨h1,hrr,hsm,hp,fun h=>hi h.1,rfl⟩))))
  rw [if_neg (not_not_intro hi)];by_cases hc:(tokR r).c=0
  ·rw [if_pos (show ((tokR r).c:Int)=0 by omega)];by_cases ha:((tokR r).a:Int)=r.un
   case neg=>rw [if_pos ha];exact .inr (.inr (.inr (.inr (.inl ⟨h1,hrr,hsm,hp,fun h=>ha (h.2.1 hc),rfl⟩))))
   rw [if_neg (not_not_intro ha)];exact .inr (.inr (.inr (.inr (.inr ⟨h1,hrr,hsm,hp,⟨hi,fun _=>ha,fun h=>absurd hc h⟩,rfl⟩))))
  ·rw [if_neg (show ¬ ((tokR r).c:Int)=0 by omega)];by_cases ha:(0:Int)=r.un
   case neg=>rw [if_pos ha];exact .inr (.inr (.inr (.inr (.inl ⟨h1,hrr,hsm,hp,fun h=>ha (h.2.2 hc).symm,rfl⟩))))
   rw [if_neg (not_not_intro ha)];exact .inr (.inr (.inr (.inr (.inr ⟨h1,hrr,hsm,hp,⟨hi,fun h=>absurd h hc,fun _=>ha.symm⟩,rfl⟩))))
theorem check_any (r:Rc) (w:World) (ht:token.TTab w):Calls Tryz.prog 12 #[r.v] w fun e w'=>FaultPost w r e w':=by
 have fin:∀ (c i a t:Int),(token.parseE r.tk=0→c=((tokR r).c:Int)∧i=((tokR r).i:Int)∧a=((tokR r).a:Int))→token.parseV r.tk = .agg #[zI c,zI i,zI a,zI t]→Calls Tryz.prog 12 #[r.v] w fun e w'=>FaultPost w r e w':=fun c i a t hok hv=>by
  refine (check_abs r.me r.id r.te r.de r.fe r.pr r.ch r.un c i a t (token.parseE r.tk) ⟨r.tk.toArray⟩ w (fun w' hb=>?_)).mono ?_
  ·have:=token.parse_any ⟨r.tk.toArray⟩ w' (ht.below hb);simp only at this;rw [hv] at this;exact this
  ·rintro e w' ⟨rfl,hb⟩;exact ⟨_,rfl,chk_is r c i a _ rfl hok,hb⟩
 by_cases h:token.parseE r.tk=0
 ·exact fin ((tokR r).c:Int) ((tokR r).i:Int) ((tokR r).a:Int) ((tokR r).t:Int) (fun _=>⟨rfl,rfl,rfl⟩) (by unfold token.parseV;rw [if_pos h];rfl)
 ·exact fin 0 0 0 0 (fun h'=>absurd h' h) (by unfold token.parseV;rw [if_neg h];rfl)
end rcp
end Go.Proofs.YtdpfnedfakgolaaGreatDoor
