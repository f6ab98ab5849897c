import Derived.Test.YtnpblpbohcegoaaGreatDoorVVCut30
import Derived.Test.YtnpblpbohcegoaaGreatDoorVVCut31
set_option linter.unusedVariables false
set_option linter.unusedSimpArgs false
set_option maxHeartbeats 4000000
set_option maxRecDepth 100000
namespace Go.Proofs.YtnpblpbohcegoaaGreatDoor
namespace acc
open tar (Du du0 Came RowD Ld PairT)
open Go.RowKit
theorem right_wf {l:List Du} (h:tar.Right l):∀ x∈l,(Lit.int .i64 x.a).wf=true∧(Lit.int .i64 x.b).wf=true:=fun x hx=>by
 obtain ⟨i,hi,rfl⟩:=List.getElem_of_mem hx;have h1:=h.upto i hi;have h2:=h.price i hi;have e:l.getD i du0=l[i]:=by simp [List.getD,List.getElem?_eq_getElem hi]
 rw [e] at h1 h2;exact ⟨tar.wf_mid (by omega) (by omega),tar.wf_mid (by omega) (by omega)⟩
theorem ld_new {T:TypeId} {w:World} {base:Nat} {v:Value} {l:List Du} {p:Option Addr} {len cap:Nat} (h:tar.Ld T w base v l) (e:v = .slice p len cap) (hn:0<len) (y:Addr) (hy:p=some y):base≤y.block:=by
 subst e;subst hy;exact (World.ownsRow.lt h y.block (by simp [Value.ownBlock])).1
def GaveT (w:World) (e:Ending) (w':World):Prop:=∃ t p len cap,e = .returned (Tm.v t p len cap)∧TRight t∧Came w' p len cap t.ts∧(0<len→∀ y,p=some y→w.heap.size≤y.block)∧Below w.heap.size w w'
theorem agreed_any (t:Tm) (pt:Option Addr) (lt ct:Nat) (w:World) (h:TCame w t pt lt ct):Calls Tryz.prog 33 #[t.v pt lt ct] w fun e w'=>GaveT w e w':=by
 have HWF:Hid (wf4 t):=h.wf;unfold Tm.v;obtain ⟨W0,HWW,H0x,H0r,H0B,hs0⟩:=sh2 w #[.slice pt lt ct,zI t.ff,zI t.fb,zI t.db,zI t.al] 35 #[zS,zI 0,zI 0,zI 0,zI 0] 24;have H0C:Hid (TCame W0 t pt lt ct):=h.below H0B.o;go_enter Tryz.func33,Tryz.ntmps33;go_upto_region 1 with fail
 rw [HWW.o];clear HWW;clear h;have HP1:Hid (∀ W,Calls Tryz.prog 18 #[zI t.ff,zI 100001] W fun e w'=>e = .returned (zI (check.pick t.ff 100001))∧w'=W):=fun W=>check.picked_any t.ff 100001 W HWF.o.1 (by decide) (by decide);have hp10:=check.pick_nonneg t.ff 100001 (by decide);have hp11:=check.pick_lt t.ff 100001 (by decide);generalize (check.pick t.ff 100001)=z1 at *;have HP2:Hid (∀ W,Calls Tryz.prog 18 #[zI t.fb,zI 10001] W fun e w'=>e = .returned (zI (check.pick t.fb 10001))∧w'=W):=fun W=>check.picked_any t.fb 10001 W HWF.o.2.1 (by decide) (by decide);have hp20:=check.pick_nonneg t.fb 10001 (by decide);have hp21:=check.pick_lt t.fb 10001 (by decide);generalize (check.pick t.fb 10001)=z2 at *;have HP3:Hid (∀ W,Calls Tryz.prog 18 #[zI t.db,zI 10001] W fun e w'=>e = .returned (zI (check.pick t.db 10001))∧w'=W):=fun W=>check.picked_any t.db 10001 W HWF.o.2.2.1 (by decide) (by decide);have hp30:=check.pick_nonneg t.db 10001 (by decide);have hp31:=check.pick_lt t.db 10001 (by decide);generalize (check.pick t.db 10001)=z3 at *;have HP4:Hid (∀ W,Calls Tryz.prog 18 #[zI t.al,zI 2097152] W fun e w'=>e = .returned (zI (check.pick t.al 2097152))∧w'=W):=fun W=>check.picked_any t.al 2097152 W HWF.o.2.2.2 (by decide) (by decide);have hp40:=check.pick_nonneg t.al 2097152 (by decide);have hp41:=check.pick_lt t.al 2097152 (by decide);generalize (check.pick t.al 2097152)=z4 at *;have HOW:Hid (∀ W,Below W0.heap.size W0 W→Calls Tryz.prog 60 #[.slice pt lt ct] W fun e w'=>tar.GaveT W e w'):=fun W hW=>tar.stepped_any pt lt ct t.ts W (H0C.o.below hW).ts;have HB0:Hid (Below W0.heap.size W0 W0.drew):=(Below.refl _ _).drew;refine wp_region_held_drew (S:=fun v=>Blk v (w.heap.size) #[.slice pt lt ct,zI t.ff,zI t.fb,zI t.db,zI t.al] 35) (by kernel_rfl) (Blk.drew H0x.o 1) (fun hHeld=>?_);generalize W0.drew=U0 at *;refine zqs 0 3 (.pointer (some ⟨w.heap.size,0,none⟩)) rfl rfl (by kernel_rfl) zid rfl (fun v hv=>by clear hv;go_simp) hHeld ?_
 simp only [zq];refine zqt 1 4 (.slice pt lt ct) rfl rfl (by kernel_rfl) zid (Or.inl ⟨by rfl,fun v hv=>by have h2:=hv.cell 0;simp at h2;clear hv;go_simp⟩) hHeld ?_;simp only [zq];refine zqs 3 6 (.pointer (some ⟨w.heap.size,1,none⟩)) rfl rfl (by kernel_rfl) zid rfl (fun v hv=>by clear hv;go_simp) hHeld ?_;simp only [zq];refine zqt 4 7 (zI t.ff) rfl rfl (by kernel_rfl) zid (Or.inl ⟨by rfl,fun v hv=>by have h2:=hv.cell 1;simp at h2;clear hv;go_simp⟩) hHeld ?_;simp only [zq];refine zqs 6 9 (.pointer (some ⟨w.heap.size,2,none⟩)) rfl rfl (by kernel_rfl) zid rfl (fun v hv=>by clear hv;go_simp) hHeld ?_;simp only [zq];refine zqt 7 10 (zI t.fb) rfl rfl (by kernel_rfl) zid (Or.inl ⟨by rfl,fun v hv=>by have h2:=hv.cell 2;simp at h2;clear hv;go_simp⟩) hHeld ?_;simp only [zq];refine zqs 9 12 (.pointer (some ⟨w.heap.size,3,none⟩)) rfl rfl (by kernel_rfl) zid rfl (fun v hv=>by clear hv;go_simp) hHeld ?_;simp only [zq];refine zqt 10 13 (zI t.db) rfl rfl (by kernel_rfl) zid (Or.inl ⟨by rfl,fun v hv=>by have h2:=hv.cell 3;simp at h2;clear hv;go_simp⟩) hHeld ?_;simp only [zq];refine zqs 12 15 (.pointer (some ⟨w.heap.size,4,none⟩)) rfl rfl (by kernel_rfl) zid rfl (fun v hv=>by clear hv;go_simp) hHeld ?_;simp only [zq];refine zqt 13 16 (zI t.al) rfl rfl (by kernel_rfl) zid (Or.inl ⟨by rfl,fun v hv=>by have h2:=hv.cell 4;simp at h2;clear hv;go_simp⟩) hHeld ?_;simp only [zq];refine zqo 2 (by kernel_rfl) rfl (fun K hK=>?_);rw [if_pos (by rfl)];refine wp_callOp 5 rfl (by clear hK;go_simp) (HOW.o U0 HB0.o) ?_;rintro e U1 ⟨v,ls,rfl,hrt,hld,hb⟩;obtain ⟨pb,cb,rfl,hcm⟩:=hld.came (by have:=hrt.1.2;omega) (right_wf hrt);have HNW:Hid (0<ls.length→∀ y,pb=some y→W0.heap.size≤y.block):=fun hn y hy=>Nat.le_trans HB0.o.size (ld_new hld rfl hn y hy);have HRT:Hid (tar.Right ls):=hrt;have HCM:Hid (Came U1 pb ls.length cb ls):=hcm;have HB1:=shB HB0 hb;have HR1:Hid (Blk U1 (w.heap.size+1) #[zS,zI 0,zI 0,zI 0,zI 0] 24):=H0r.o.next HB1.o
 have HBW:Hid (Below w.heap.size w U1):=H0B.o.trans (HB1.o.mono H0B.o.size);refine ⟨_,rfl,hK.o _ _ (H0x.o.next HB1.o) (fun hHeld=>?_)⟩;clear hK hb hld hrt hcm HB0;simp only [zq];refine call_at 5 8 (zI z1) _ rfl rfl (by kernel_rfl) (by kernel_rfl) (by kernel_rfl) zid 18 #[zI t.ff,zI 100001] ⟨by rfl,fun v hv=>by clear hv;go_simp⟩ (fun v _=>HP1.o v) hHeld ?_;simp only [zq];refine call_at 8 11 (zI z2) _ rfl rfl (by kernel_rfl) (by kernel_rfl) (by kernel_rfl) zid 18 #[zI t.fb,zI 10001] ⟨by rfl,fun v hv=>by clear hv;go_simp⟩ (fun v _=>HP2.o v) hHeld ?_;simp only [zq];refine call_at 11 14 (zI z3) _ rfl rfl (by kernel_rfl) (by kernel_rfl) (by kernel_rfl) zid 18 #[zI t.db,zI 10001] ⟨by rfl,fun v hv=>by clear hv;go_simp⟩ (fun v _=>HP3.o v) hHeld ?_;simp only [zq];refine call_at 14 17 (zI z4) _ rfl rfl (by kernel_rfl) (by kernel_rfl) (by kernel_rfl) zid 18 #[zI t.al,zI 2097152] ⟨by rfl,fun v hv=>by clear hv;go_simp⟩ (fun v _=>HP4.o v) hHeld ?_;simp only [zq];refine zqs 15 18 (.agg #[.slice pb ls.length cb,zI z1,zI z2,zI z3,zI z4]) rfl rfl (by kernel_rfl) zid rfl (fun v hv=>by clear hv;go_simp) hHeld ?_;simp only [zq];refine zqo 16 (by kernel_rfl) rfl (fun K hK=>?_);rw [if_pos (by rfl)];refine wp_letOp 24 _ _ rfl (w.heap.size+1) rfl #[.slice pb ls.length cb,zI z1,zI z2,zI z3,zI z4] rfl (by kernel_rfl) (by simp [Value.oneCell']) #[zS,zI 0,zI 0,zI 0,zI 0] 24 HR1.o rfl rfl ?_;intro U2 hU;have HR2:Hid (Blk U2 (w.heap.size+1) #[.slice pb ls.length cb,zI z1,zI z2,zI z3,zI z4] 24):=hU.blk;have HC2:Hid (Came U2 pb ls.length cb ls):=came_upd HCM.o hU (fun hn y hy=>by have:=HNW.o hn y hy;omega);have HBZ:=shV hU HBW (by omega);have HX2:Hid (Blk U2 (w.heap.size) #[.slice pt lt ct,zI t.ff,zI t.fb,zI t.db,zI t.al] 35):=hU.keep (H0x.o.next HB1.o) (by omega);clear HCM HR1 HBW;refine hK.o _ _ HX2.o (fun hHeld=>?_);clear hK K hU;refine wpAnyH_done (by kernel_rfl) ?_ _;clear hHeld HX2;obtain ⟨R0,R1,R2,R3,R4⟩:=shc5 HR2
 go_wp2_with fail;exact bodyPost_ret (v:= .agg #[.slice pb ls.length cb,zI z1,zI z2,zI z3,zI z4]) (by simp [results,Tryz.results33,R0.o,R1.o,R2.o,R3.o,R4.o,go_sem]) rfl ⟨⟨ls,z1,z2,z3,z4⟩,pb,ls.length,cb,rfl,⟨HRT.o,⟨hp10,by show z1≤100000;omega⟩,⟨hp20,by show z2≤10000;omega⟩,⟨hp30,by show z3≤10000;omega⟩,hp40,by show z4≤2097151;omega⟩,HC2.o,fun hn y hy=>Nat.le_trans (by omega) (HNW.o hn y hy),HBZ.o⟩
end acc
namespace token
open words
open Go.RowKit
theorem words_no (c i a t:Int) (w:World) (ht:TTab w) (h:flawT c i a t≠0) :
  Calls Tryz.prog 52 #[.agg #[zI c,zI i,zI a,zI t]] w fun e w'=>e = .returned (.tuple #[.agg #[.int .u32 0,.int .u32 0,.int .u32 0],zI (flawT c i a t)])∧Below w.heap.size w w':=by
 have HF:Hid (∀ W,TTab W→Calls Tryz.prog 85 #[.agg #[zI c,zI i,zI a,zI t]] W fun e w'=>e = .returned (zI (flawT c i a t))∧Below W.heap.size W w'):=fun W hW=>flaw_any c i a t W hW;have hd:(flawT c i a t != 0)=true:=by simpa using h
 have hb0:Below w.heap.size w ((w.alloc (.cells #[zI c,zI i,zI a,zI t] 96)).alloc (.cells #[.int .u32 0,.int .u32 0,.int .u32 0] 131)):=(bel_box _ _).alloc (by simp) _;have HB:Hid (Below w.heap.size w ((w.alloc (.cells #[zI c,zI i,zI a,zI t] 96)).alloc (.cells #[.int .u32 0,.int .u32 0,.int .u32 0] 131))):=hb0;have HT:Hid (TTab ((w.alloc (.cells #[zI c,zI i,zI a,zI t] 96)).alloc (.cells #[.int .u32 0,.int .u32 0,.int .u32 0] 131))):=ht.below hb0;have HX:Hid (Blk ((w.alloc (.cells #[zI c,zI i,zI a,zI t] 96)).alloc (.cells #[.int .u32 0,.int .u32 0,.int .u32 0] 131)) (w.heap.size+1) #[.int .u32 0,.int .u32 0,.int .u32 0] 131):=Blk.new1 _ _ _ _;clear ht h hb0;generalize flawT c i a t=f at *;go_enter Tryz.func52,Tryz.ntmps52;go_wp2_with fail;refine (HF.o _ HT.o).mono ?_;rintro e w1 ⟨rfl,hb1⟩;have hX:=HX.o.next hb1;have hB1:=bel_step HB.o hb1;have HB1:Hid (Below w.heap.size w (((w1.setCell ⟨w.heap.size+1,0,none⟩ (.int .u32 0)).setCell ⟨w.heap.size+1,1,none⟩ (.int .u32 0)).setCell ⟨w.heap.size+1,2,none⟩ (.int .u32 0))):=bel_set (bel_set (bel_set hB1 _ _ _ (by omega)) _ _ _ (by omega)) _ _ _ (by omega);have RR:Blk (((w1.setCell ⟨w.heap.size+1,0,none⟩ (.int .u32 0)).setCell ⟨w.heap.size+1,1,none⟩ (.int .u32 0)).setCell ⟨w.heap.size+1,2,none⟩ (.int .u32 0)) (w.heap.size+1) #[.int .u32 0,.int .u32 0,.int .u32 0] 131:=((hX.set 0 _).set 1 _).set 2 _;have R0:Hid (_=_):=RR.cell 0;have R1:Hid (_=_):=RR.cell 1;have R2:Hid (_=_):=RR.cell 2;have x0:=hX.cell 0;have x1:=hX.cell 1;have x2:=hX.cell 2;have f0:=hX.free 0;have f1:=hX.free 1;have f2:=hX.free 2;clear hb1 HF HB HT HX hX RR hB1;go_wp2_with fail;refine bodyPost_ret (v:= .tuple #[.agg #[.int .u32 0,.int .u32 0,.int .u32 0],zI f]) (by simp [results,Tryz.results52,R0.o,R1.o,R2.o,go_sem]) rfl ⟨rfl,HB1.o⟩
def WordsPost (w:World) (k:Tok) (e:Ending) (w':World):Prop:=∃ a b c:Nat,e = .returned (.tuple #[.agg #[.int .u32 (a:Int),.int .u32 (b:Int),.int .u32 (c:Int)],zI 0])∧WN a b c (k.num*97)∧Below w.heap.size w w'
theorem words_ok (k:Tok) (w:World) (ht:TTab w) (hk:k.ok) :
  Calls Tryz.prog 52 #[k.v] w fun e w'=>WordsPost w k e w':=by
 have HF:Hid (∀ W,TTab W→Calls Tryz.prog 85 #[.agg #[zI (k.c:Int),zI (k.i:Int),zI (k.a:Int),zI (k.t:Int)]] W fun e w'=>e = .returned (zI 0)∧Below W.heap.size W w'):=fun W hW=>by
  have:=flaw_any k.c k.i k.a k.t W hW
  rwa [flaw_tok.2 hk] at this
 have HP:Hid (∀ W,TTab W→Calls Tryz.prog 87 #[.agg #[zI (k.c:Int),zI (k.i:Int),zI (k.a:Int),zI (k.t:Int)]] W fun e w'=>PackPost W k e w'):=fun W hW=>pack_any k W hk hW
 have HQ:Hid (∀ (x y z:Nat) W,WN x y z k.num→Calls Tryz.prog 86 #[.agg #[.int .u32 (x:Int),.int .u32 (y:Int),.int .u32 (z:Int)],.int .u32 97] W fun e w'=>∃ (a' b' c':Nat) (o:Int),e = .returned (.tuple #[.agg #[.int .u32 (a':Int),.int .u32 (b':Int),.int .u32 (c':Int)],.int .u32 o])∧WN a' b' c' (k.num*97)∧Below W.heap.size W w'):=fun x y z W hW=>
  times_wn x y z k.num 97 W hW (by omega) (by have:=num_bd hk;omega)
 have hb0:Below w.heap.size w ((w.alloc (.cells #[zI (k.c:Int),zI (k.i:Int),zI (k.a:Int),zI (k.t:Int)] 96)).alloc (.cells #[.int .u32 0,.int .u32 0,.int .u32 0] 131)):=(bel_box _ _).alloc (by simp) _;have HB:Hid (Below w.heap.size w ((w.alloc (.cells #[zI (k.c:Int),zI (k.i:Int),zI (k.a:Int),zI (k.t:Int)] 96)).alloc (.cells #[.int .u32 0,.int .u32 0,.int .u32 0] 131))):=hb0;have HT:Hid (TTab ((w.alloc (.cells #[zI (k.c:Int),zI (k.i:Int),zI (k.a:Int),zI (k.t:Int)] 96)).alloc (.cells #[.int .u32 0,.int .u32 0,.int .u32 0] 131))):=ht.below hb0;have HR:Hid (Blk ((w.alloc (.cells #[zI (k.c:Int),zI (k.i:Int),zI (k.a:Int),zI (k.t:Int)] 96)).alloc (.cells #[.int .u32 0,.int .u32 0,.int .u32 0] 131)) (w.heap.size+1) #[.int .u32 0,.int .u32 0,.int .u32 0] 131):=Blk.new1 _ _ _ _;have HX:Hid (Blk ((w.alloc (.cells #[zI (k.c:Int),zI (k.i:Int),zI (k.a:Int),zI (k.t:Int)] 96)).alloc (.cells #[.int .u32 0,.int .u32 0,.int .u32 0] 131)) w.heap.size #[zI (k.c:Int),zI (k.i:Int),zI (k.a:Int),zI (k.t:Int)] 96):=(Blk.new _ _ _).alloc _;clear ht hk hb0;unfold Tok.v;go_enter Tryz.func52,Tryz.ntmps52;go_wp2_with fail;refine (HF.o _ HT.o).mono ?_;rintro e w1 ⟨rfl,hb1⟩;have HB1:=shB HB hb1;have HT1:Hid (TTab w1):=HT.o.below hb1;have HR1:=shN HR hb1;have hX:=HX.o.next hb1;have x0:=hX.cell 0;have x1:=hX.cell 1;have x2:=hX.cell 2;have x3:=hX.cell 3;clear hb1 HF HB HT HX hX HR;go_wp2_with fail;refine (HP.o _ HT1.o).mono ?_;rintro e w2 ⟨x,y,z,rfl,hwn,hb2⟩;have HB2:=shB HB1 hb2;have HR2:=shN HR1 hb2;have HN:Hid (WN x y z k.num):=hwn;clear hb2 hwn HB1 HT1 HP x0 x1 x2 x3 HR1;go_wp2_with fail;refine (HQ.o _ _ _ _ HN.o).mono ?_;rintro e w3 ⟨a',b',c',o,rfl,hwn,hb3⟩;have hB3:=(bel_step HB2.o hb3).alloc (bel_step HB2.o hb3).size (.cells #[.int .u32 (a':Int),.int .u32 (b':Int),.int .u32 (c':Int)] 131);have hR3:=(HR2.o.next hb3).alloc (.cells #[.int .u32 (a':Int),.int .u32 (b':Int),.int .u32 (c':Int)] 131)
 have HN3:Hid (WN a' b' c' (k.num*97)):=hwn;clear hb3 HB2 HQ HR2 HN hwn;have HB4:Hid (Below w.heap.size w ((((w3.alloc (.cells #[.int .u32 (a':Int),.int .u32 (b':Int),.int .u32 (c':Int)] 131)).setCell ⟨w.heap.size+1,0,none⟩ (.int .u32 (a':Int))).setCell ⟨w.heap.size+1,1,none⟩ (.int .u32 (b':Int))).setCell ⟨w.heap.size+1,2,none⟩ (.int .u32 (c':Int)))):=bel_set (bel_set (bel_set hB3 _ _ _ (by omega)) _ _ _ (by omega)) _ _ _ (by omega);have RR:Blk ((((w3.alloc (.cells #[.int .u32 (a':Int),.int .u32 (b':Int),.int .u32 (c':Int)] 131)).setCell ⟨w.heap.size+1,0,none⟩ (.int .u32 (a':Int))).setCell ⟨w.heap.size+1,1,none⟩ (.int .u32 (b':Int))).setCell ⟨w.heap.size+1,2,none⟩ (.int .u32 (c':Int))) (w.heap.size+1) #[.int .u32 (a':Int),.int .u32 (b':Int),.int .u32 (c':Int)] 131:=((hR3.set 0 _).set 1 _).set 2 _;have R0:Hid (_=_):=RR.cell 0;have R1:Hid (_=_):=RR.cell 1;have R2:Hid (_=_):=RR.cell 2;have x0:=hR3.cell 0;have x1:=hR3.cell 1;have x2:=hR3.cell 2;have f0:=hR3.free 0;have f1:=hR3.free 1;have f2:=hR3.free 2;clear RR hR3 hB3;go_wp2_with fail;refine bodyPost_ret (v:= .tuple #[.agg #[.int .u32 (a':Int),.int .u32 (b':Int),.int .u32 (c':Int)],zI 0]) (by simp [results,Tryz.results52,R0.o,R1.o,R2.o,go_sem]) rfl ⟨a',b',c',rfl,HN3.o,HB4.o⟩
end token
namespace book
open Go.RowKit cell
theorem kdec:KDec:=by
 intro w a n cap l hr hnil hle hbytes hm;have hmf:∀ (fn:Fn) (first cap:Array Value) (w:World),(Instr.makeFunc fn first cap).run Tryz.prog w = .ok (.func fn first cap) w:=fun _ _ _ _=>rfl;have HLN:Hid (l.length=n):=hr.1;have HR1:Hid (Blk ((w.alloc (.cells #[zI 0,zI 0,zI 0,zI 0,zI 0,zI 0,zI 0,zI 0,zI 0,zI 0,zI 0,zI 0,zI 0] 72)).alloc (.cells #[zI 0] 27)) w.heap.size #[zI 0,zI 0,zI 0,zI 0,zI 0,zI 0,zI 0,zI 0,zI 0,zI 0,zI 0,zI 0,zI 0] 72):=(Blk.new _ _ _).alloc _;have HE1:Hid (Blk ((w.alloc (.cells #[zI 0,zI 0,zI 0,zI 0,zI 0,zI 0,zI 0,zI 0,zI 0,zI 0,zI 0,zI 0,zI 0] 72)).alloc (.cells #[zI 0] 27)) (w.heap.size+1) #[zI 0] 27):=Blk.new1 _ _ _ _;have HB1:Hid (Below w.heap.size w ((w.alloc (.cells #[zI 0,zI 0,zI 0,zI 0,zI 0,zI 0,zI 0,zI 0,zI 0,zI 0,zI 0,zI 0,zI 0] 72)).alloc (.cells #[zI 0] 27))):=((Below.refl _ _).alloc (Nat.le_refl _) _).alloc (by simp) _;by_cases hn:n=13
 case neg=>
  have nn:((n:Int) != 13)=true:=by simp;omega
  have HNL:Hid (l.length≠13):=by show _≠_;rw [HLN.o];exact hn
  clear hn hr hm;go_enter_defers Tryz.func36,Tryz.ntmps36;go_upto_region 2 with fail
  generalize ((w.alloc (.cells #[zI 0,zI 0,zI 0,zI 0,zI 0,zI 0,zI 0,zI 0,zI 0,zI 0,zI 0,zI 0,zI 0] 72)).alloc (.cells #[zI 0] 27))=W1 at *;go_wp2_with (first | (refine zql rfl rfl rfl rfl zqu72 (by simp [Value.oneCell']) HR1 rfl ?_) | fail)
  intro W2 hU;have HR2:Hid (Blk W2 w.heap.size #[zI 0,zI 0,zI 0,zI 0,zI 0,zI 0,zI 0,zI 0,zI 0,zI 0,zI 0,zI 0,zI 0] 72):=hU.blk;have HE2:=shK hU HE1 (by omega);have HB2:Hid (Below w.heap.size w W2):=hU.bel _ _ (Nat.le_refl _) HB1.o;clear hU HR1 HE1 HB1;go_wp2_with (first | (refine wp_let1 rfl 27 _ _ rfl (w.heap.size+1) 0 rfl .i64 1 rfl (by kernel_rfl) #[zI 0] 27 HE2.o (by decide) ?_) | fail)
  intro W3 hU;have HR3:=shK hU HR2 (by omega);have r13:W3.cell? ⟨w.heap.size+1,0,none⟩=some (zI 1):=hU.blk.cell 0;have HB3:=shV hU HB2 (by omega);clear hU;go_wp2_with fail;obtain ⟨r0,r1,r2,r3,r4,r5,r6,r7,r8,r9,r10,r11,r12⟩:=scl13 HR3;show Leaves _ _ _ _ [] .returning W3;refine ⟨.tuple #[.agg #[zI 0,zI 0,zI 0,zI 0,zI 0,zI 0,zI 0,zI 0,zI 0,zI 0,zI 0,zI 0,zI 0],zI 1],by simp [results,Tryz.results36,r0,r1,r2,r3,r4,r5,r6,r7,r8,r9,r10,r11,r12,r13,go_sem],?_⟩;exact ⟨ev0,1,rfl,.inl ⟨HNL.o,rfl,rfl⟩,HB3.o⟩
 subst hn;have HEV:Hid (∀ W,Below w.heap.size w W→Calls Tryz.prog 66 #[.slice a 13 cap] W fun e w'=>e = .returned (evOf l).v∧Below W.heap.size W w'):=fun W hB=>bevent a cap l W (hr.below hB) hm;clear hr hm;obtain ⟨v,hv⟩:∃ v,v=evOf l:=⟨_,rfl⟩
 have HVE:Hid (v=evOf l):=hv;rw [← hv] at HEV;clear hv;have HMU:Hid (∀ W,Calls Tryz.prog 67 #[.agg #[zI v.kd,zI v.me,zI v.mo,zI v.id,zI v.te,zI v.de,zI v.fe,zI v.pr,zI v.ch,zI v.un,zI v.tg,zI v.ow,zI v.bp]] W fun e w'=>MustPost W v e w'):=fun W=>bmust v W;have nn:(((13:Nat):Int) != 13)=false:=by decide
 go_enter_defers Tryz.func36,Tryz.ntmps36;go_upto_region 4 with fail
 generalize ((w.alloc (.cells #[zI 0,zI 0,zI 0,zI 0,zI 0,zI 0,zI 0,zI 0,zI 0,zI 0,zI 0,zI 0,zI 0] 72)).alloc (.cells #[zI 0] 27))=W1 at *;have HE:=HEV.o W1 HB1.o;have HE':Hid (Calls Tryz.prog 66 #[.slice a 13 cap] W1 fun e w'=>e = .returned v.v∧Below W1.heap.size W1 w'):=HE;clear HE HEV;go_wp2_with fail;refine HE'.o.mono ?_;rintro e W2 ⟨rfl,hb⟩;have HR2:Hid (Blk (W2.alloc (.cells #[zI v.kd,zI v.me,zI v.mo,zI v.id,zI v.te,zI v.de,zI v.fe,zI v.pr,zI v.ch,zI v.un,zI v.tg,zI v.ow,zI v.bp] 72)) w.heap.size #[zI 0,zI 0,zI 0,zI 0,zI 0,zI 0,zI 0,zI 0,zI 0,zI 0,zI 0,zI 0,zI 0] 72):=(HR1.o.next hb).alloc _;have HE2:Hid (Blk (W2.alloc (.cells #[zI v.kd,zI v.me,zI v.mo,zI v.id,zI v.te,zI v.de,zI v.fe,zI v.pr,zI v.ch,zI v.un,zI v.tg,zI v.ow,zI v.bp] 72)) (w.heap.size+1) #[zI 0] 27):=(HE1.o.next hb).alloc _;have HT2:Hid (Blk (W2.alloc (.cells #[zI v.kd,zI v.me,zI v.mo,zI v.id,zI v.te,zI v.de,zI v.fe,zI v.pr,zI v.ch,zI v.un,zI v.tg,zI v.ow,zI v.bp] 72)) W2.heap.size #[zI v.kd,zI v.me,zI v.mo,zI v.id,zI v.te,zI v.de,zI v.fe,zI v.pr,zI v.ch,zI v.un,zI v.tg,zI v.ow,zI v.bp] 72):=Blk.new _ _ _;have HB2:Hid (Below w.heap.size w (W2.alloc (.cells #[zI v.kd,zI v.me,zI v.mo,zI v.id,zI v.te,zI v.de,zI v.fe,zI v.pr,zI v.ch,zI v.un,zI v.tg,zI v.ow,zI v.bp] 72))):=(bel_step HB1.o hb).alloc (bel_step HB1.o hb).size _;have HG2:Hid (w.heap.size+1<W2.heap.size):=(HE1.o.next hb).lt;clear hb HR1 HE1 HB1 HE';unfold Ev.v;go_upto_region 5 with fail
 generalize (W2.alloc (.cells #[zI v.kd,zI v.me,zI v.mo,zI v.id,zI v.te,zI v.de,zI v.fe,zI v.pr,zI v.ch,zI v.un,zI v.tg,zI v.ow,zI v.bp] 72))=W3 at *;generalize W2.heap.size=g at *;obtain ⟨c0,c1,c2,c3,c4,c5,c6,c7,c8,c9,c10,c11,c12⟩:=scl13 HT2;go_wp2_with fail;refine (HMU.o _).mono ?_;rintro e W4 ⟨hm,hb⟩;have HR4:=shN HR2 hb;have HE4:=shN HE2 hb;have HT4:=shN HT2 hb;have HB4:=shB HB2 hb;clear hb HR2 HE2 HT2 HB2 HMU c0 c1 c2 c3 c4 c5 c6 c7 c8 c9 c10 c11 c12;rcases hm with ⟨hm,rfl⟩ | ⟨hm,rfl⟩
 ·have HY:Hid (EMay v):=hm;clear hm;obtain ⟨c0,c1,c2,c3,c4,c5,c6,c7,c8,c9,c10,c11,c12⟩:=scl13 HT4;go_wp2_with (first | (refine zql rfl rfl rfl rfl zqu72 (by simp [Value.oneCell']) HR4 rfl ?_) | fail)
  intro W5 hU;have HR5:Hid (Blk W5 w.heap.size #[zI v.kd,zI v.me,zI v.mo,zI v.id,zI v.te,zI v.de,zI v.fe,zI v.pr,zI v.ch,zI v.un,zI v.tg,zI v.ow,zI v.bp] 72):=hU.blk;have HE5:=shK hU HE4 (by omega);have HB5:Hid (Below w.heap.size w W5):=hU.bel _ _ (Nat.le_refl _) HB4.o;clear hU HR4 HE4 HB4 HT4 c0 c1 c2 c3 c4 c5 c6 c7 c8 c9 c10 c11 c12;go_wp2_with (first | (refine wp_let1 rfl 27 _ _ rfl (w.heap.size+1) 0 rfl .i64 0 rfl (by kernel_rfl) #[zI 0] 27 HE5.o (by decide) ?_) | fail)
  intro W6 hU;have HR6:=shK hU HR5 (by omega);have HE6:Hid (Blk W6 (w.heap.size+1) #[zI 0] 27):=hU.blk;have HB6:=shV hU HB5 (by omega);clear hU HR5 HE5 HB5;go_wp2_with fail;refine leaves_cons (f:=65) (args:=#[.pointer (some ⟨w.heap.size+1,0,none⟩)]) (by simp) (by simp [go_sem]) ?_;refine (decode_idle (w.heap.size+1) 0 _ HE6.o).mono ?_;rintro e u' w5 ⟨rfl,hs,W,hb,hU⟩;have HR7:Blk w5 w.heap.size #[zI v.kd,zI v.me,zI v.mo,zI v.id,zI v.te,zI v.de,zI v.fe,zI v.pr,zI v.ch,zI v.un,zI v.tg,zI v.ow,zI v.bp] 72:=hU.keep (HR6.o.next hb) (by omega);have r13:w5.cell? ⟨w.heap.size+1,0,none⟩=some (zI 0):=hU.blk.cell 0;have HB7:Below w.heap.size w w5:=hU.bel _ _ (by omega) (bel_step HB6.o hb);have r0:w5.cell? ⟨w.heap.size,0,none⟩=some (zI v.kd):=HR7.cell 0;have r1:w5.cell? ⟨w.heap.size,1,none⟩=some (zI v.me):=HR7.cell 1;have r2:w5.cell? ⟨w.heap.size,2,none⟩=some (zI v.mo):=HR7.cell 2;have r3:w5.cell? ⟨w.heap.size,3,none⟩=some (zI v.id):=HR7.cell 3;have r4:w5.cell? ⟨w.heap.size,4,none⟩=some (zI v.te):=HR7.cell 4;have r5:w5.cell? ⟨w.heap.size,5,none⟩=some (zI v.de):=HR7.cell 5;have r6:w5.cell? ⟨w.heap.size,6,none⟩=some (zI v.fe):=HR7.cell 6;have r7:w5.cell? ⟨w.heap.size,7,none⟩=some (zI v.pr):=HR7.cell 7;have r8:w5.cell? ⟨w.heap.size,8,none⟩=some (zI v.ch):=HR7.cell 8;have r9:w5.cell? ⟨w.heap.size,9,none⟩=some (zI v.un):=HR7.cell 9;have r10:w5.cell? ⟨w.heap.size,10,none⟩=some (zI v.tg):=HR7.cell 10;have r11:w5.cell? ⟨w.heap.size,11,none⟩=some (zI v.ow):=HR7.cell 11;have r12:w5.cell? ⟨w.heap.size,12,none⟩=some (zI v.bp):=HR7.cell 12;show Leaves _ _ _ _ [] (settle u') w5;rw [hs];refine ⟨.tuple #[.agg #[zI v.kd,zI v.me,zI v.mo,zI v.id,zI v.te,zI v.de,zI v.fe,zI v.pr,zI v.ch,zI v.un,zI v.tg,zI v.ow,zI v.bp],zI 0],by simp [results,Tryz.results36,r0,r1,r2,r3,r4,r5,r6,r7,r8,r9,r10,r11,r12,r13,go_sem],?_⟩;exact ⟨v,0,rfl,.inr (.inr ⟨HLN.o,by rw [← HVE.o];exact HY.o,HVE.o,rfl⟩),HB7⟩
 ·have HN:Hid (¬ EMay v):=hm;clear hm;refine leaves_cons (f:=65) (args:=#[.pointer (some ⟨w.heap.size+1,0,none⟩)]) (by simp) (by simp [go_sem]) ?_;refine (decode_caught (w.heap.size+1) 0 5 _ HE4.o).mono ?_;rintro e u' w5 ⟨rfl,hs,W,hb,hU⟩;have HR7:Blk w5 w.heap.size #[zI 0,zI 0,zI 0,zI 0,zI 0,zI 0,zI 0,zI 0,zI 0,zI 0,zI 0,zI 0,zI 0] 72:=hU.keep (HR4.o.next hb) (by omega);have r13:w5.cell? ⟨w.heap.size+1,0,none⟩=some (zI 5):=hU.blk.cell 0;have HB7:Below w.heap.size w w5:=hU.bel _ _ (by omega) (bel_step HB4.o hb);have r0:w5.cell? ⟨w.heap.size,0,none⟩=some (zI 0):=HR7.cell 0;have r1:w5.cell? ⟨w.heap.size,1,none⟩=some (zI 0):=HR7.cell 1;have r2:w5.cell? ⟨w.heap.size,2,none⟩=some (zI 0):=HR7.cell 2;have r3:w5.cell? ⟨w.heap.size,3,none⟩=some (zI 0):=HR7.cell 3;have r4:w5.cell? ⟨w.heap.size,4,none⟩=some (zI 0):=HR7.cell 4;have r5:w5.cell? ⟨w.heap.size,5,none⟩=some (zI 0):=HR7.cell 5;have r6:w5.cell? ⟨w.heap.size,6,none⟩=some (zI 0):=HR7.cell 6;have r7:w5.cell? ⟨w.heap.size,7,none⟩=some (zI 0):=HR7.cell 7;have r8:w5.cell? ⟨w.heap.size,8,none⟩=some (zI 0):=HR7.cell 8;have r9:w5.cell? ⟨w.heap.size,9,none⟩=some (zI 0):=HR7.cell 9;have r10:w5.cell? ⟨w.heap.size,10,none⟩=some (zI 0):=HR7.cell 10;have r11:w5.cell? ⟨w.heap.size,11,none⟩=some (zI 0):=HR7.cell 11;have r12:w5.cell? ⟨w.heap.size,12,none⟩=some (zI 0):=HR7.cell 12;show Leaves _ _ _ _ [] (settle u') w5;rw [hs];refine ⟨.tuple #[.agg #[zI 0,zI 0,zI 0,zI 0,zI 0,zI 0,zI 0,zI 0,zI 0,zI 0,zI 0,zI 0,zI 0],zI 5],by simp [results,Tryz.results36,r0,r1,r2,r3,r4,r5,r6,r7,r8,r9,r10,r11,r12,r13,go_sem],?_⟩;exact ⟨ev0,5,rfl,.inr (.inl ⟨HLN.o,by rw [← HVE.o];exact HN.o,rfl,rfl⟩),HB7⟩
end book
namespace vnd
open disk (RepIs AppIs)
open book (Ev ev0 EMay evL evOf EncIs DecIs Cm cm0 So so0 BookIs Sees ECame FirstAt NoneAt)
open acc (Ac Tm Bi TCame ACame)
open cell (Wr RowU)
open Go.RowKit
theorem info_ev:∃ i,Tryz.prog.info? 72=some i∧i.zero=some (.agg #[zI 0,zI 0,zI 0,zI 0,zI 0,zI 0,zI 0,zI 0,zI 0,zI 0,zI 0,zI 0,zI 0])∧i.size=13∧i.bytes=104:=info_parts (by kernel_rfl)
theorem make_ev (N:Nat) (h:N≤100000) (w:World):(Instr.makeSlice 58 (zI 0) (zI (N:Int))).run Tryz.prog w = .ok (.slice (some ⟨w.heap.size,0,none⟩) 0 N) (w.alloc (.cells (madeCells (Value.agg #[zI 0,zI 0,zI 0,zI 0,zI 0,zI 0,zI 0,zI 0,zI 0,zI 0,zI 0,zI 0,zI 0]).cells (N*13)) 72)):=by
 obtain ⟨i0,hi,hz0,hz1,hz2⟩:=info_ev;have:=run_make (P:=Tryz.prog) w 58 72 i0 (.agg #[zI 0,zI 0,zI 0,zI 0,zI 0,zI 0,zI 0,zI 0,zI 0,zI 0,zI 0,zI 0,zI 0]) Tryz.underlying58 hi hz0 .i64 .i64 0 (N:Int) (by omega) (by omega) (by rw [hz2];omega) (by omega);rw [hz1,show (N:Int).toNat=N by omega] at this;exact this
theorem pevents (a:Option Addr) (n cap:Nat) (c:List Int) (w:World) (h:Dk w a n cap c):Calls Tryz.prog 50 #[.slice a n cap] w fun e w'=>KeptPost w c e w':=by
 have HRE:Hid (Calls Tryz.prog 35 #[.slice a n cap] w fun e w'=>disk.RepNew w c e w'):=disk.kreplay w a n cap c h.row h.nil h.room h.bytes h.wd;have HW:Hid (∀ x∈c,0≤x∧x<4294967296):=h.wd;clear h;go_enter Tryz.func50,Tryz.ntmps50;go_wp2_with fail;refine HRE.o.mono ?_;rintro e w1 ⟨ra,N,rc,o,x,f,rfl,hrd,hn,hri,hb1⟩;have HB1:Hid (Below w.heap.size w w1):=hb1;have HRI:Hid (RepIs c o x f):=hri;have HRD:Hid (disk.ReadsF w1 w.heap.size ra N o):=hrd;have HOL:Hid (o.length=N):=hrd.1;have hol:N≤2048:=by rw [← hrd.1];exact rep_len hri
 clear hrd hri hb1 HRE hn;by_cases h0:f=0
 ·subst h0;have hmk:=make_ev N (by omega) w1;have HL0:Hid (book.Le (w1.alloc (.cells (madeCells (Value.agg #[zI 0,zI 0,zI 0,zI 0,zI 0,zI 0,zI 0,zI 0,zI 0,zI 0,zI 0,zI 0,zI 0]).cells (N*13)) 72)) w1.heap.size (.slice (some ⟨w1.heap.size,0,none⟩) 0 N) []):=World.ownsRow_made w1 _ N (Nat.le_refl _) (by unfold maxLen;omega) (size_madeCells _ _);have HB0:Hid (Below w1.heap.size w1 (w1.alloc (.cells (madeCells (Value.agg #[zI 0,zI 0,zI 0,zI 0,zI 0,zI 0,zI 0,zI 0,zI 0,zI 0,zI 0,zI 0,zI 0]).cells (N*13)) 72))):=(Below.refl _ _).alloc (Nat.le_refl _) _;generalize (w1.alloc (.cells (madeCells (Value.agg #[zI 0,zI 0,zI 0,zI 0,zI 0,zI 0,zI 0,zI 0,zI 0,zI 0,zI 0,zI 0,zI 0]).cells (N*13)) 72))=W0 at *;go_wp2_with fail;clear hmk;go_loopw [7,26] (fun u z wr=>∃ (k:Nat) (U:Value),k≤N∧z=zI (k:Int)∧U=u∧book.Le wr w1.heap.size U ((o.take k).map evOf)∧(∀ j,j<k→DecOk (o.getD j []))∧Below w1.heap.size w1 wr) (fun _ z _=>N - (intOf z).toNat)
  case atStart=>exact ⟨0,_,Nat.zero_le _,rfl,rfl,HL0.o,(fun j hj=>absurd hj (Nat.not_lt_zero _)),HB0.o⟩
  case round=>
   obtain ⟨k,U,hk,rfl,hU,hle,hok,hb⟩:=hrel;subst hU;have HLE:Hid (book.Le wr w1.heap.size U ((o.take k).map evOf)):=hle;have HOK:Hid (∀ j,j<k→DecOk (o.getD j [])):=hok;have HBR:Hid (Below w1.heap.size w1 wr):=hb;clear HL0 HB0;by_cases hlt:k<N
   ·have hdl:decide ((k:Int)<(N:Int))=true:=by simp;omega
    have hko:k<o.length:=by rw [HOL.o];exact hlt
    obtain ⟨g,off,rfl,_,hgl,hgc⟩:=HRD.o.2.resolve_left (by omega);obtain ⟨s,h1,h2,h3,_⟩:=hgc k hlt;have ck:wr.cell? ⟨g,off+k,none⟩=some (.slice s.a s.n s.c):=(hb.cell (p:=⟨g,off+k,none⟩) hgl).trans h1;have HDE:Hid (Calls Tryz.prog 36 #[.slice s.a s.n s.c] wr fun e w'=>book.DecGot wr (o.getD k []) e w'):=book.kdec wr s.a s.n s.c _ (h2.below hb) h3.2.2 h3.2.1 (by have:=h3.1;omega) (fun y hy=>HW.o y (rep_in HRI.o _ (getD_inR hko) y hy));clear hle hok hb hgc h1 h2 h3;generalize s.a=sa at *;generalize s.n=sn at *;generalize s.c=sc at *;have HTK:Hid ((o.take k).map evOf++[evOf (o.getD k [])]=(o.take (k+1)).map evOf):=take_mapE o k hko;have hzl:((o.take k).map evOf).length≤1000000:=by rw [List.length_map,List.length_take];omega
    generalize (o.take k).map evOf=Z at *;go_wp2_with fail;refine HDE.o.mono ?_;rintro e w2 ⟨v,f2,rfl,hd,hb2⟩;unfold book.Ev.v;have HX:Hid (Blk (w2.alloc (.cells #[zI v.kd,zI v.me,zI v.mo,zI v.id,zI v.te,zI v.de,zI v.fe,zI v.pr,zI v.ch,zI v.un,zI v.tg,zI v.ow,zI v.bp] 72)) w2.heap.size #[zI v.kd,zI v.me,zI v.mo,zI v.id,zI v.te,zI v.de,zI v.fe,zI v.pr,zI v.ch,zI v.un,zI v.tg,zI v.ow,zI v.bp] 72):=Blk.new w2 _ _;have HBX:Hid (Below w1.heap.size w1 (w2.alloc (.cells #[zI v.kd,zI v.me,zI v.mo,zI v.id,zI v.te,zI v.de,zI v.fe,zI v.pr,zI v.ch,zI v.un,zI v.tg,zI v.ow,zI v.bp] 72))):=(HBR.o.trans (hb2.mono HBR.o.size)).alloc (Nat.le_trans HBR.o.size hb2.size) _;have HLX:Hid (book.Le (w2.alloc (.cells #[zI v.kd,zI v.me,zI v.mo,zI v.id,zI v.te,zI v.de,zI v.fe,zI v.pr,zI v.ch,zI v.un,zI v.tg,zI v.ow,zI v.bp] 72)) w1.heap.size U Z):=(HLE.o.next hb2).alloc _;have HD:Hid (DecIs (o.getD k []) v f2):=hd;have hsx:w2.heap.size<(w2.alloc (.cells #[zI v.kd,zI v.me,zI v.mo,zI v.id,zI v.te,zI v.de,zI v.fe,zI v.pr,zI v.ch,zI v.un,zI v.tg,zI v.ow,zI v.bp] 72)).heap.size:=(Blk.new w2 #[zI v.kd,zI v.me,zI v.mo,zI v.id,zI v.te,zI v.de,zI v.fe,zI v.pr,zI v.ch,zI v.un,zI v.tg,zI v.ow,zI v.bp] 72).lt;clear hd hb2 HDE HLE HBR ck;go_upto_region 9 with fail
    generalize (w2.alloc (.cells #[zI v.kd,zI v.me,zI v.mo,zI v.id,zI v.te,zI v.de,zI v.fe,zI v.pr,zI v.ch,zI v.un,zI v.tg,zI v.ow,zI v.bp] 72))=W3 at *;generalize w2.heap.size=gx at *;by_cases h2:f2=0
    ·subst h2;obtain ⟨hdk,hve⟩:=dec_ok HD.o;have HV:Hid (evOf (o.getD k [])=v):=hve.symm
     have HOK2:Hid (∀ j,j<k+1→DecOk (o.getD j [])):=fun j hj=>by
      by_cases e:j=k
      ·subst e;exact hdk
      ·exact HOK.o j (by omega)
     have HBK:Hid (Blk (W3.alloc (.cells #[zI v.kd,zI v.me,zI v.mo,zI v.id,zI v.te,zI v.de,zI v.fe,zI v.pr,zI v.ch,zI v.un,zI v.tg,zI v.ow,zI v.bp] 72)) W3.heap.size v.cl.toArray 72):=Blk.new W3 _ _;have HLA:Hid (book.Le (W3.alloc (.cells #[zI v.kd,zI v.me,zI v.mo,zI v.id,zI v.te,zI v.de,zI v.fe,zI v.pr,zI v.ch,zI v.un,zI v.tg,zI v.ow,zI v.bp] 72)) w1.heap.size U Z):=HLX.o.alloc _;have HBA:Hid (Below w1.heap.size w1 (W3.alloc (.cells #[zI v.kd,zI v.me,zI v.mo,zI v.id,zI v.te,zI v.de,zI v.fe,zI v.pr,zI v.ch,zI v.un,zI v.tg,zI v.ow,zI v.bp] 72))):=HBX.o.alloc HBX.o.size _;clear hdk hve HD HOK
     go_wp2_with (first
      | (refine zqw rfl rfl rfl HX zqu72 ?_)
      | (at_builtin;refine book.wp_ev rfl _ _ rfl w1.heap.size W3.heap.size U Z v rfl rfl HLA.o HBK.o hzl HBA.o.size ?_)
      | fail)
     intro v3 w3 h3 hg3;have HB3:Hid (Below w1.heap.size w1 w3):=tar.own_bel HLA.o hg3 HBA.o (Nat.le_refl _) HBA.o.size;have H3:Hid (book.Le w3 w1.heap.size v3 (Z++[v])):=h3;clear h3 hg3 HLA HBA HBK HX HLX HBX;go_wp2_with fail;go_roundw
     case rel=>exact ⟨k+1,v3,by omega,by go_num,by first | rfl | trivial,by rw [← HTK.o,HV.o];exact H3.o,HOK2.o,HB3.o⟩
     case measure=>simp [intOf];omega
    ·have d2:(f2 != 0)=true:=by simpa using h2
     have HK:Hid (KeptIs c [] f2):=⟨o,x,0,HRI.o,.inr (.inr ⟨rfl,h2,rfl,k,hko,HOK.o,by have:=dec_no HD.o h2;rw [← this];exact HD.o⟩)⟩
     have HBF:Hid (Below w.heap.size w W3):=HB1.o.trans (HBX.o.mono HB1.o.size);clear h2 HD HOK;go_wp2_with fail;go_ret2;exact ⟨none,0,0,[],f2,rfl,HK.o,ecame_nil _,Nat.zero_le _,HBF.o⟩
   ·obtain rfl:k=N:=by omega
    have hdl:decide ((k:Int)<(k:Int))=false:=by simp
    have HTA:Hid (o.take k=o):=List.take_of_length_le (by rw [HOL.o];exact Nat.le_refl _);have HK:Hid (KeptIs c (o.map evOf) 0):=⟨o,x,0,HRI.o,.inr (.inl ⟨rfl,fun j hj=>HOK.o j (by rw [← HOL.o];exact hj),rfl,rfl⟩)⟩
    have hwf:∀ v∈o.map evOf,book.wf13 v:=fun v hv=>by
     obtain ⟨z,hz,rfl⟩:=List.mem_map.1 hv;obtain ⟨j,hj,rfl⟩:=List.mem_iff_getElem.1 hz;have e:o.getD j []=o[j]:=by simp [List.getD,List.getElem?_eq_getElem hj]
     have:=HOK.o j (by rw [← HOL.o];exact hj);rw [e] at this;exact book.wf_may this.2
    have hl2:=HLE.o;rw [HTA.o] at hl2;obtain ⟨pz,cz,hvz,hcz⟩:=hl2.came (by rw [List.length_map,HOL.o];omega) hwf;have hlen:(o.map evOf).length=k:=by rw [List.length_map];exact HOL.o
    rw [hlen] at hvz hcz;subst hvz;have HCZ:Hid (ECame wr pz k cz (o.map evOf)):=hcz;have HBF:Hid (Below w.heap.size w wr):=HB1.o.trans (HBR.o.mono HB1.o.size);clear hle hok hb hl2 hcz hwf hlen HLE HOK HTA;go_wp2_with fail;go_ret2;exact ⟨pz,k,cz,_,0,rfl,HK.o,HCZ.o,hol,HBF.o⟩
 ·have d0:(f != 0)=true:=by simpa using h0
  have HK:Hid (KeptIs c [] f):=⟨o,x,f,HRI.o,.inl ⟨h0,rfl,rfl⟩⟩
  clear h0;go_wp2_with fail;go_ret2;exact ⟨none,0,0,[],f,rfl,HK.o,ecame_nil _,Nat.zero_le _,HB1.o⟩
end vnd
namespace words
open Go.RowKit
def Dg (w:World) (D:Nat) (d:Nat→Int):Prop:=w.heap[D]?=some (.cells ((List.range 29).map fun i=>Value.int .u8 (d i)).toArray 174 (0,0))
variable {w w':World} {D:Nat} {d:Nat→Int}
theorem Dg.cell (h:Dg w D d) {i:Nat} (hi:i<29):w.cell? ⟨D,i,none⟩=some (.int .u8 (d i)):=by unfold Dg at h;simp [World.cell?,h,hi]
theorem Dg.free (h:Dg w D d) (i:Nat):w.frozen? ⟨D,i,none⟩=false:=by unfold Dg at h;simp [World.frozen?,h]
theorem Dg.lt (h:Dg w D d):D<w.heap.size:=by
 by_cases hh:D<w.heap.size
 ·exact hh
 ·unfold Dg at h;rw [Array.getElem?_eq_none (by omega)] at h;cases h
theorem Dg.below (h:Dg w D d) (hb:Below w.heap.size w w'):Dg w' D d:=by
 have hlt:=h.lt;unfold Dg at *;rw [hb.block D hlt];exact h
theorem Dg.other (h:Dg w D d) {G:Nat} (i:Nat) (u:Value) (hne:G≠D):Dg (w.setCell ⟨G,i,none⟩ u) D d:=by
 unfold Dg at *;simp only [World.setCell,Array.getElem?_modify];rw [if_neg hne];exact h
def updd (d:Nat→Int) (i:Nat) (v:Int):Nat→Int:=fun k=>if k=i then v else d k
theorem Dg.set (h:Dg w D d) (i:Nat) (v:Int):Dg (w.setCell ⟨D,i,none⟩ (.int .u8 v)) D (updd d i v):=by
 unfold Dg at *;simp only [World.setCell,Array.getElem?_modify,h,if_true,Option.map_some]
 congr 2
 simp only [Option.isSome_none,Bool.false_eq_true,if_false];apply Array.ext';simp only [Array.toList_setIfInBounds];apply List.ext_getElem?;intro k;by_cases hk:k<29
 ·by_cases e:k=i
  ·subst e;simp [updd,hk]
  ·rw [List.getElem?_set_ne (by omega)];simp [updd,hk,e]
 ·rw [List.getElem?_eq_none (by simp;omega),List.getElem?_eq_none (by simp;omega)]
def dsOf (d:Nat→Int) (t:Nat):List Int:=(List.range t).map fun i=>d (29 - t+i)
theorem dsOf_len (d:Nat→Int) (t:Nat):(dsOf d t).length=t:=by simp [dsOf]
theorem dsOf_upd (d:Nat→Int) (t:Nat) (v:Int) (ht:t<29):dsOf (updd d (28 - t) v) (t+1)=v :: dsOf d t:=by
 unfold dsOf;rw [List.range_succ_eq_map,List.map_cons,List.map_map]
 congr 1
 ·simp [updd]
 ·apply List.map_congr_left;intro i hi;simp [updd]
  congr 1
  omega
theorem dg_new (w:World) (o:Obj):Dg ((w.alloc o).alloc (.cells ((List.range 29).map fun _=>Value.int .u8 0).toArray 174)) (w.heap.size+1) (fun _=>0):=by
 show ((w.heap.push o).push _)[w.heap.size+1]?=_;have:w.heap.size+1=(w.heap.push o).size:=by simp
 rw [this,Array.getElem?_push_size]
def ShowInv (V:Nat) (X:W3) (d:Nat→Int) (t:Nat):Prop:=
 (t=0∧X.val=V)∨(0<t∧X.val=0∧decL V=dsOf d t)∨(0<t∧0<X.val∧decL V=decL X.val.toNat++dsOf d t)
theorem show_more {V:Nat} {X:W3} {d:Nat→Int} {t:Nat} (hV:(V:Int)<top) (h:ShowInv V X d t) (hgo:t=0∨0<X.val) (hX:X.ok) :
  t<29∧ShowInv V (overW X 10) (updd d (28 - t) (48+overR X 10)) (t+1):=by
 have hv:=over_val X 10;have hr:=over_left (w:=X) 10 (by omega);have hq:=(W3.bd (over_ok hX (d:=10) (by omega))).1;have hlen:=decL_len29 V hV
 have ht:t<29:=by
  rcases h with ⟨h1,_⟩ | ⟨h1,h2,h3⟩ | ⟨h1,h2,h3⟩
  ·omega
  ·omega
  ·rw [h3,List.length_append,dsOf_len] at hlen;have h5:1≤(decL X.val.toNat).length:=(decL_len29 _ (by have:=(W3.bd hX).2;omega)).1;omega
 refine ⟨ht,?_⟩
 have hn:decL V=decL X.val.toNat++dsOf d t:=by
  rcases h with ⟨h1,h2⟩ | ⟨h1,h2,h3⟩ | ⟨_,_,h3⟩
  ·subst h1;rw [h2];simp [dsOf]
  ·omega
  ·exact h3
 have hds:=dsOf_upd d t (48+overR X 10) ht;by_cases h10:X.val<10
 ·right;left;have e0:(overW X 10).val=0:=by omega
  have e1:overR X 10=X.val:=by omega
  refine ⟨by omega,e0,?_⟩;rw [hn,hds,decL_one (by omega),e1];have hx0:=(W3.bd hX).1;rw [show ((X.val.toNat:Nat):Int)=X.val by omega];rfl
 ·right;right;refine ⟨by omega,by omega,?_⟩;rw [hn,hds,decL_more (by omega)];have e1:X.val.toNat / 10=(overW X 10).val.toNat:=by omega
  have e2:((X.val.toNat % 10:Nat):Int)=overR X 10:=by omega
  rw [e1,e2,List.append_assoc];rfl
theorem zero_iff {X:W3} (hX:X.ok):X.val=0↔X=⟨0,0,0⟩:=by
 obtain ⟨⟨h1,_⟩,⟨h2,_⟩,h3,_⟩:=hX;constructor
 ·intro h;unfold W3.val at h;obtain ⟨a,b,c⟩:=X;simp only at *;have:a=0:=by omega
  have:b=0:=by omega
  have:c=0:=by omega
  subst_vars;rfl
 ·intro h;rw [h];rfl
def strOf (ns:List Int):ByteArray:=ns.foldl (fun r n=>r.push (UInt8.ofNat n.toNat)) ByteArray.empty
theorem conv_ds (w:World) (D:Nat) (d:Nat→Int) (t:Nat) (ht:t≤29) (h:Dg w D d) :
  (convert 177 9 (.slice (some ⟨D,29 - t,none⟩) t t)).run Tryz.prog w = .ok (.string (strOf (dsOf d t))) w:=by
 rw [run_convert_bytes_string _ _ _ _ _ _ _ Tryz.underlying177 Tryz.underlying5 Tryz.underlying9,run_bytesToString _ _ _ _ (dsOf d t)]
 ·rfl
 ·have:=run_loadCells (P:=Tryz.prog) w ⟨D,29 - t,none⟩ t (fun i=> .int .u8 (d (29 - t+i))) (fun j hj=>by rw [Addr.add_lit];exact h.cell (by omega));rw [this]
  congr 2
  simp [dsOf]
theorem slice_ds (D t:Nat) (w:World) (h0:0<t) (h1:t≤29) :
  (Instr.sliceAt 174 (.pointer (some ⟨D,0,none⟩)) (some (zI ((29 - t:Nat):Int))) none none).run Tryz.prog w = .ok (.slice (some ⟨D,29 - t,none⟩) t t) w:=by
 have e2:29 - (29 - t)=t:=by omega
 simp [Instr.sliceAt,Instr.sliceBounds,Instr.sliceBound,asIntOf,run_underlying Tryz.underlying174,go_sem,e2];omega
theorem show_any (x:W3) (w:World) (hx:x.ok) :
  Calls Tryz.prog 53 #[wv x] w fun e w'=>e = .returned (.string (strOf (decL x.val.toNat)))∧Below w.heap.size w w':=by
 have hxb:=W3.bd hx;have HX:Hid (x.ok):=hx;have HB0:Hid (∀ o1 o2:Obj,Below w.heap.size w ((w.alloc o1).alloc o2)):=fun o1 o2=>bel2 w o1 o2;clear hx;go_enter Tryz.func53,Tryz.ntmps53;go_wp2_with fail;go_loopw [4] (fun v wr=>∃ (t:Nat) (X:W3) (d:Nat→Int),t≤29∧v=zI ((29 - t:Nat):Int)∧X.ok∧Wat wr w.heap.size X∧Dg wr (w.heap.size+1) d∧Below w.heap.size w wr∧ShowInv x.val.toNat X d t) (fun v _=>(intOf v).toNat)
 case atStart=>exact ⟨0,x,fun _=>0,by omega,rfl,HX.o,trio_a _ _ _ _ _,dg_new _ _,bel2 _ _ _,.inl ⟨rfl,by omega⟩⟩
 case round=>
  obtain ⟨t,X,d,ht,rfl,hX,hT,hD,hb,hi⟩:=hrel;by_cases hgo:t=0∨0<X.val
  ·obtain ⟨ht29,hm⟩:=show_more (by omega) hi hgo hX;have HM:Hid (ShowInv x.val.toNat (overW X 10) (updd d (28 - t) (48+overR X 10)) (t+1)):=hm;have hz:=(zero_iff hX)
   have HT:Hid (Wat wr w.heap.size X):=hT;have HD:Hid (Dg wr (w.heap.size+1) d):=hD;have HB:Hid (Below w.heap.size w wr):=hb;have c0:=hT.c0;have c1:=hT.c1;have c2:=hT.c2;clear hT hD hb hi hm;have e28:((29 - t:Nat):Int) - 1=((28 - t:Nat):Int):=by omega
   have g29:28 - t<29:=by omega
   have HG:Hid (29 - (t+1)=28 - t):=(by omega:29 - (t+1)=28 - t)
   by_cases h0:t=0
   ·have e29:(((29 - t:Nat):Int) == 29)=true:=by simp;omega
    have f29:((29 - t:Nat):Int)≤29:=by omega
    clear hgo hz ht;generalize 29 - t=f at *;generalize 28 - t=g at *;go_wp2_with fail;refine (over_any X 10 _ hX (by omega) (by omega)).mono ?_;rintro e w2 ⟨rfl,hb2⟩;have hQ:=over_ok hX (d:=10) (by omega);have hr:=over_left (w:=X) 10 (by omega);have T2:=HT.o.below hb2;have D2:=HD.o.below hb2;have B2:=HB.o.trans (hb2.mono HB.o.size);clear hb2 HT HD HB c0 c1 c2;generalize overW X 10=Q at *;generalize overR X 10=r at *;have c0:=T2.c0;have c1:=T2.c1;have c2:=T2.c2;have f0:=T2.free 0;have f1:=T2.free 1;have f2:=T2.free 2;have T3:=T2.put (.int .u32 Q.a) (.int .u32 Q.b) (.int .u32 Q.c);have D3:=((D2.other (G:=w.heap.size) 0 (.int .u32 Q.a) (by omega)).other (G:=w.heap.size) 1 (.int .u32 Q.b) (by omega)).other (G:=w.heap.size) 2 (.int .u32 Q.c) (by omega);have B3:=below_put3 B2 w.heap.size (.int .u32 Q.a) (.int .u32 Q.b) (.int .u32 Q.c) (Nat.le_refl _);have d1:=D3.cell (i:=g) (by omega);have d2:=D3.free g;have HT:Hid (Wat ((put3 w2 w.heap.size (.int .u32 Q.a) (.int .u32 Q.b) (.int .u32 Q.c)).setCell ⟨w.heap.size+1,g,none⟩ (.int .u8 (48+r))) w.heap.size Q):=T3.other _ _ (by omega);have HD:Hid (Dg ((put3 w2 w.heap.size (.int .u32 Q.a) (.int .u32 Q.b) (.int .u32 Q.c)).setCell ⟨w.heap.size+1,g,none⟩ (.int .u8 (48+r))) (w.heap.size+1) (updd d g (48+r))):=D3.set _ _;have HB:Hid (Below w.heap.size w ((put3 w2 w.heap.size (.int .u32 Q.a) (.int .u32 Q.b) (.int .u32 Q.c)).setCell ⟨w.heap.size+1,g,none⟩ (.int .u8 (48+r)))):=below_set B3 _ _ _ (by omega);clear T2 D2 B2 T3 D3 B3;obtain ⟨r0,r1⟩:=hr;generalize d g=dd at *;go_wp2_with fail;go_roundw
    case rel=>exact ⟨t+1,Q,_,by omega,by rw [HG.o],hQ,HT.o,HD.o,HB.o,HM.o⟩
    case measure=>simp [intOf];omega
   ·have hne:X≠⟨0,0,0⟩:=fun e=>by have:=hz.2 e;omega
    have q:=eq3_other hne;have e29:(((29 - t:Nat):Int) == 29)=false:=by simp;omega
    have f29:((29 - t:Nat):Int)≤29:=by omega
    clear hgo hz;generalize 29 - t=f at *;generalize 28 - t=g at *;go_wp2_with fail;refine (over_any X 10 _ hX (by omega) (by omega)).mono ?_;rintro e w2 ⟨rfl,hb2⟩;have hQ:=over_ok hX (d:=10) (by omega);have hr:=over_left (w:=X) 10 (by omega);have T2:=HT.o.below hb2;have D2:=HD.o.below hb2;have B2:=HB.o.trans (hb2.mono HB.o.size);clear hb2 HT HD HB c0 c1 c2;generalize overW X 10=Q at *;generalize overR X 10=r at *;have c0:=T2.c0;have c1:=T2.c1;have c2:=T2.c2;have f0:=T2.free 0;have f1:=T2.free 1;have f2:=T2.free 2;have T3:=T2.put (.int .u32 Q.a) (.int .u32 Q.b) (.int .u32 Q.c);have D3:=((D2.other (G:=w.heap.size) 0 (.int .u32 Q.a) (by omega)).other (G:=w.heap.size) 1 (.int .u32 Q.b) (by omega)).other (G:=w.heap.size) 2 (.int .u32 Q.c) (by omega);have B3:=below_put3 B2 w.heap.size (.int .u32 Q.a) (.int .u32 Q.b) (.int .u32 Q.c) (Nat.le_refl _);have d1:=D3.cell (i:=g) (by omega);have d2:=D3.free g;have HT:Hid (Wat ((put3 w2 w.heap.size (.int .u32 Q.a) (.int .u32 Q.b) (.int .u32 Q.c)).setCell ⟨w.heap.size+1,g,none⟩ (.int .u8 (48+r))) w.heap.size Q):=T3.other _ _ (by omega);have HD:Hid (Dg ((put3 w2 w.heap.size (.int .u32 Q.a) (.int .u32 Q.b) (.int .u32 Q.c)).setCell ⟨w.heap.size+1,g,none⟩ (.int .u8 (48+r))) (w.heap.size+1) (updd d g (48+r))):=D3.set _ _;have HB:Hid (Below w.heap.size w ((put3 w2 w.heap.size (.int .u32 Q.a) (.int .u32 Q.b) (.int .u32 Q.c)).setCell ⟨w.heap.size+1,g,none⟩ (.int .u8 (48+r)))):=below_set B3 _ _ _ (by omega);clear T2 D2 B2 T3 D3 B3;obtain ⟨r0,r1⟩:=hr;generalize d g=dd at *;go_wp2_with fail;go_roundw
    case rel=>exact ⟨t+1,Q,_,by omega,by rw [HG.o],hQ,HT.o,HD.o,HB.o,HM.o⟩
    case measure=>simp [intOf];omega
  ·have ht0:0<t:=by omega
   have hX0:X.val=0:=by have:=(W3.bd hX).1;omega
   have hXz:=(zero_iff hX).1 hX0
   have hfin:decL x.val.toNat=dsOf d t:=by
    rcases hi with h | ⟨_,_,h⟩ | h
    ·omega
    ·exact h
    ·omega
   subst hXz;have c0:=hT.c0;have c1:=hT.c1;have c2:=hT.c2;have q:=eq3_same ⟨0,0,0⟩;have e29:(((29 - t:Nat):Int) == 29)=false:=by simp;omega
   have hsl:=slice_ds (w.heap.size+1) t wr ht0 ht;have hcv:=conv_ds wr (w.heap.size+1) d t ht hD;rw [← hfin] at hcv;have HB:Hid (Below w.heap.size w wr):=hb;clear hi hgo hX0 hfin hT hD hb hX;go_wp2_with fail;go_ret;exact ⟨rfl,HB.o⟩
end words
end Go.Proofs.YtnpblpbohcegoaaGreatDoor
