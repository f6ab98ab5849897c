import Derived.Test.YtnpblpbohcegoaaGreatDoorVVCut10
set_option linter.unusedVariables false
set_option linter.unusedSimpArgs false
set_option maxHeartbeats 4000000
set_option maxRecDepth 100000
namespace Go.Proofs.YtnpblpbohcegoaaGreatDoor
namespace ora
open Go.RowKit
theorem of_any (m r b t:Int) (w:World) :
  Calls Tryz.prog 189 #[.agg #[zI m,zI r,zI b,zI t]] w fun e w'=>e = .returned (.agg #[zI m,zI r,zI b])∧Below w.heap.size w w':=by
 have hN:=(Blk.new w #[zI m,zI r,zI b,zI t] 279).alloc (.cells #[zI 0,zI 0,zI 0] 282);have c0:=hN.cell 0;have c1:=hN.cell 1;have c2:=hN.cell 2;have hM:=Blk.new1 w (.cells #[zI m,zI r,zI b,zI t] 279) #[zI 0,zI 0,zI 0] 282;have HM:Hid (Blk _ _ _ _):=hM;have HB:Hid (Below w.heap.size w ((w.alloc (.cells #[zI m,zI r,zI b,zI t] 279)).alloc (.cells #[zI 0,zI 0,zI 0] 282))):=((Below.refl _ _).alloc (Nat.le_refl _) _).alloc (by simp) _;clear hN hM;go_enter Tryz.func189,Tryz.ntmps189
 go_wp2_with (first
  | (refine wp_letAll rfl 282 _ _ rfl (w.heap.size+1) rfl _ rfl (by kernel_rfl) (by simp [Value.oneCell']) _ _ HM.o rfl ?_;intro W hu)
  | fail)
 have d0:=hu.blk.cell 0;have d1:=hu.blk.cell 1;have d2:=hu.blk.cell 2;have HBB:=shV hu HB (by omega);clear hu HM HB c0 c1 c2;go_wp2_with fail;exact bodyPost_ret (v:= .agg #[zI m,zI r,zI b]) (by simp [results,Tryz.results189,d0,d1,d2,go_sem]) rfl ⟨rfl,HBB.o⟩
theorem within_any (m r b t:Int) (w:World) :
  Calls Tryz.prog 188 #[.agg #[zI m,zI r,zI b,zI t]] w fun e w'=>Told w (Pr.mk m r b t).may e w':=by
 have hN:=Blk.new w #[zI m,zI r,zI b,zI t] 279;have c0:=hN.cell 0;have c1:=hN.cell 1;have c2:=hN.cell 2;have c3:=hN.cell 3;have HB:Hid (Below w.heap.size w (w.alloc (.cells #[zI m,zI r,zI b,zI t] 279))):=(Below.refl _ _).alloc (Nat.le_refl _) _;clear hN;by_cases h0:0≤m
 ·skip
  by_cases h1:m<50
  ·skip
   by_cases h2:0≤r
   ·skip
    by_cases h3:r≤15
    ·skip
     by_cases h4:0≤b
     ·skip
      by_cases h5:b≤8796093022207
      ·skip
       by_cases h6:0≤t
       ·skip
        by_cases h7:t≤65535
        ·skip
         have HF:Hid ((Pr.mk m r b t).may):=⟨⟨h0,by show m≤49;omega⟩,⟨h2,h3⟩,⟨h4,h5⟩,⟨h6,h7⟩⟩
         have q0:decide (0≤m)=true:=by simp;omega
         have q1:decide (m<50)=true:=by simp;omega
         have q2:decide (0≤r)=true:=by simp;omega
         have q3:decide (r≤15)=true:=by simp;omega
         have q4:decide (0≤b)=true:=by simp;omega
         have q5:decide (b≤8796093022207)=true:=by simp;omega
         have q6:decide (0≤t)=true:=by simp;omega
         have q7:decide (t≤65535)=true:=by simp;omega
         clear h0 h1 h2 h3 h4 h5 h6 h7;go_enter Tryz.func188,Tryz.ntmps188;go_wp2_with fail;go_ret;exact Told.yes HF.o HB.o
        ·have q7:decide (t≤65535)=false:=by simp;omega
         have HF:Hid (¬ (Pr.mk m r b t).may):=fun h=>by unfold Pr.may at h;simp only at h;omega
         have q0:decide (0≤m)=true:=by simp;omega
         have q1:decide (m<50)=true:=by simp;omega
         have q2:decide (0≤r)=true:=by simp;omega
         have q3:decide (r≤15)=true:=by simp;omega
         have q4:decide (0≤b)=true:=by simp;omega
         have q5:decide (b≤8796093022207)=true:=by simp;omega
         have q6:decide (0≤t)=true:=by simp;omega
         clear h0 h1 h2 h3 h4 h5 h6 h7;go_enter Tryz.func188,Tryz.ntmps188;go_wp2_with fail;go_ret;exact Told.no HF.o HB.o
       ·have q6:decide (0≤t)=false:=by simp;omega
        have HF:Hid (¬ (Pr.mk m r b t).may):=fun h=>by unfold Pr.may at h;simp only at h;omega
        have q0:decide (0≤m)=true:=by simp;omega
        have q1:decide (m<50)=true:=by simp;omega
        have q2:decide (0≤r)=true:=by simp;omega
        have q3:decide (r≤15)=true:=by simp;omega
        have q4:decide (0≤b)=true:=by simp;omega
        have q5:decide (b≤8796093022207)=true:=by simp;omega
        clear h0 h1 h2 h3 h4 h5 h6;go_enter Tryz.func188,Tryz.ntmps188;go_wp2_with fail;go_ret;exact Told.no HF.o HB.o
      ·have q5:decide (b≤8796093022207)=false:=by simp;omega
       have HF:Hid (¬ (Pr.mk m r b t).may):=fun h=>by unfold Pr.may at h;simp only at h;omega
       have q0:decide (0≤m)=true:=by simp;omega
       have q1:decide (m<50)=true:=by simp;omega
       have q2:decide (0≤r)=true:=by simp;omega
       have q3:decide (r≤15)=true:=by simp;omega
       have q4:decide (0≤b)=true:=by simp;omega
       clear h0 h1 h2 h3 h4 h5;go_enter Tryz.func188,Tryz.ntmps188;go_wp2_with fail;go_ret;exact Told.no HF.o HB.o
     ·have q4:decide (0≤b)=false:=by simp;omega
      have HF:Hid (¬ (Pr.mk m r b t).may):=fun h=>by unfold Pr.may at h;simp only at h;omega
      have q0:decide (0≤m)=true:=by simp;omega
      have q1:decide (m<50)=true:=by simp;omega
      have q2:decide (0≤r)=true:=by simp;omega
      have q3:decide (r≤15)=true:=by simp;omega
      clear h0 h1 h2 h3 h4;go_enter Tryz.func188,Tryz.ntmps188;go_wp2_with fail;go_ret;exact Told.no HF.o HB.o
    ·have q3:decide (r≤15)=false:=by simp;omega
     have HF:Hid (¬ (Pr.mk m r b t).may):=fun h=>by unfold Pr.may at h;simp only at h;omega
     have q0:decide (0≤m)=true:=by simp;omega
     have q1:decide (m<50)=true:=by simp;omega
     have q2:decide (0≤r)=true:=by simp;omega
     clear h0 h1 h2 h3;go_enter Tryz.func188,Tryz.ntmps188;go_wp2_with fail;go_ret;exact Told.no HF.o HB.o
   ·have q2:decide (0≤r)=false:=by simp;omega
    have HF:Hid (¬ (Pr.mk m r b t).may):=fun h=>by unfold Pr.may at h;simp only at h;omega
    have q0:decide (0≤m)=true:=by simp;omega
    have q1:decide (m<50)=true:=by simp;omega
    clear h0 h1 h2;go_enter Tryz.func188,Tryz.ntmps188;go_wp2_with fail;go_ret;exact Told.no HF.o HB.o
  ·have q1:decide (m<50)=false:=by simp;omega
   have HF:Hid (¬ (Pr.mk m r b t).may):=fun h=>by unfold Pr.may at h;simp only at h;omega
   have q0:decide (0≤m)=true:=by simp;omega
   clear h0 h1;go_enter Tryz.func188,Tryz.ntmps188;go_wp2_with fail;go_ret;exact Told.no HF.o HB.o
 ·have q0:decide (0≤m)=false:=by simp;omega
  have HF:Hid (¬ (Pr.mk m r b t).may):=fun h=>by unfold Pr.may at h;simp only at h;omega
  clear h0;go_enter Tryz.func188,Tryz.ntmps188;go_wp2_with fail;go_ret;exact Told.no HF.o HB.o
end ora
namespace book
open Go.RowKit cell
def cellsK (l:List Int) (k:Nat):Array Value:=((l.take k++List.replicate (13 - k) 0).map (fun x=>Value.int .i64 x)).toArray
theorem cellsK_size (l:List Int) (h:l.length=13) (k:Nat) (hk:k≤13):(cellsK l k).size=13:=by simp [cellsK,h];omega
theorem cellsK_next (l:List Int) (h:l.length=13) (k:Nat) (hk:k<13):(cellsK l k).setIfInBounds k (zI (l.getD k 0))=cellsK l (k+1):=by
 match l,h with
 | [a0,a1,a2,a3,a4,a5,a6,a7,a8,a9,a10,a11,a12],_=>
  match k,hk with
  | 0,_=>rfl
  | 1,_=>rfl
  | 2,_=>rfl
  | 3,_=>rfl
  | 4,_=>rfl
  | 5,_=>rfl
  | 6,_=>rfl
  | 7,_=>rfl
  | 8,_=>rfl
  | 9,_=>rfl
  | 10,_=>rfl
  | 11,_=>rfl
  | 12,_=>rfl
theorem cellsK_all (l:List Int) (h:l.length=13):cellsK l 13=(evOf l).cs:=by
 match l,h with
 | [a0,a1,a2,a3,a4,a5,a6,a7,a8,a9,a10,a11,a12],_=>rfl
theorem indexP_0 (g:Nat) (W:World):(Instr.index 202 (.agg #[.pointer (some ⟨g,0,none⟩),.pointer (some ⟨g,1,none⟩),.pointer (some ⟨g,2,none⟩),.pointer (some ⟨g,3,none⟩),.pointer (some ⟨g,4,none⟩),.pointer (some ⟨g,5,none⟩),.pointer (some ⟨g,6,none⟩),.pointer (some ⟨g,7,none⟩),.pointer (some ⟨g,8,none⟩),.pointer (some ⟨g,9,none⟩),.pointer (some ⟨g,10,none⟩),.pointer (some ⟨g,11,none⟩),.pointer (some ⟨g,12,none⟩)]) (zI 0)).run Tryz.prog W = .ok (.pointer (some ⟨g,0,none⟩)) W:=by kernel_rfl
theorem indexP_1 (g:Nat) (W:World):(Instr.index 202 (.agg #[.pointer (some ⟨g,0,none⟩),.pointer (some ⟨g,1,none⟩),.pointer (some ⟨g,2,none⟩),.pointer (some ⟨g,3,none⟩),.pointer (some ⟨g,4,none⟩),.pointer (some ⟨g,5,none⟩),.pointer (some ⟨g,6,none⟩),.pointer (some ⟨g,7,none⟩),.pointer (some ⟨g,8,none⟩),.pointer (some ⟨g,9,none⟩),.pointer (some ⟨g,10,none⟩),.pointer (some ⟨g,11,none⟩),.pointer (some ⟨g,12,none⟩)]) (zI 1)).run Tryz.prog W = .ok (.pointer (some ⟨g,1,none⟩)) W:=by kernel_rfl
theorem indexP_2 (g:Nat) (W:World):(Instr.index 202 (.agg #[.pointer (some ⟨g,0,none⟩),.pointer (some ⟨g,1,none⟩),.pointer (some ⟨g,2,none⟩),.pointer (some ⟨g,3,none⟩),.pointer (some ⟨g,4,none⟩),.pointer (some ⟨g,5,none⟩),.pointer (some ⟨g,6,none⟩),.pointer (some ⟨g,7,none⟩),.pointer (some ⟨g,8,none⟩),.pointer (some ⟨g,9,none⟩),.pointer (some ⟨g,10,none⟩),.pointer (some ⟨g,11,none⟩),.pointer (some ⟨g,12,none⟩)]) (zI 2)).run Tryz.prog W = .ok (.pointer (some ⟨g,2,none⟩)) W:=by kernel_rfl
theorem indexP_3 (g:Nat) (W:World):(Instr.index 202 (.agg #[.pointer (some ⟨g,0,none⟩),.pointer (some ⟨g,1,none⟩),.pointer (some ⟨g,2,none⟩),.pointer (some ⟨g,3,none⟩),.pointer (some ⟨g,4,none⟩),.pointer (some ⟨g,5,none⟩),.pointer (some ⟨g,6,none⟩),.pointer (some ⟨g,7,none⟩),.pointer (some ⟨g,8,none⟩),.pointer (some ⟨g,9,none⟩),.pointer (some ⟨g,10,none⟩),.pointer (some ⟨g,11,none⟩),.pointer (some ⟨g,12,none⟩)]) (zI 3)).run Tryz.prog W = .ok (.pointer (some ⟨g,3,none⟩)) W:=by kernel_rfl
theorem indexP_4 (g:Nat) (W:World):(Instr.index 202 (.agg #[.pointer (some ⟨g,0,none⟩),.pointer (some ⟨g,1,none⟩),.pointer (some ⟨g,2,none⟩),.pointer (some ⟨g,3,none⟩),.pointer (some ⟨g,4,none⟩),.pointer (some ⟨g,5,none⟩),.pointer (some ⟨g,6,none⟩),.pointer (some ⟨g,7,none⟩),.pointer (some ⟨g,8,none⟩),.pointer (some ⟨g,9,none⟩),.pointer (some ⟨g,10,none⟩),.pointer (some ⟨g,11,none⟩),.pointer (some ⟨g,12,none⟩)]) (zI 4)).run Tryz.prog W = .ok (.pointer (some ⟨g,4,none⟩)) W:=by kernel_rfl
theorem indexP_5 (g:Nat) (W:World):(Instr.index 202 (.agg #[.pointer (some ⟨g,0,none⟩),.pointer (some ⟨g,1,none⟩),.pointer (some ⟨g,2,none⟩),.pointer (some ⟨g,3,none⟩),.pointer (some ⟨g,4,none⟩),.pointer (some ⟨g,5,none⟩),.pointer (some ⟨g,6,none⟩),.pointer (some ⟨g,7,none⟩),.pointer (some ⟨g,8,none⟩),.pointer (some ⟨g,9,none⟩),.pointer (some ⟨g,10,none⟩),.pointer (some ⟨g,11,none⟩),.pointer (some ⟨g,12,none⟩)]) (zI 5)).run Tryz.prog W = .ok (.pointer (some ⟨g,5,none⟩)) W:=by kernel_rfl
theorem indexP_6 (g:Nat) (W:World):(Instr.index 202 (.agg #[.pointer (some ⟨g,0,none⟩),.pointer (some ⟨g,1,none⟩),.pointer (some ⟨g,2,none⟩),.pointer (some ⟨g,3,none⟩),.pointer (some ⟨g,4,none⟩),.pointer (some ⟨g,5,none⟩),.pointer (some ⟨g,6,none⟩),.pointer (some ⟨g,7,none⟩),.pointer (some ⟨g,8,none⟩),.pointer (some ⟨g,9,none⟩),.pointer (some ⟨g,10,none⟩),.pointer (some ⟨g,11,none⟩),.pointer (some ⟨g,12,none⟩)]) (zI 6)).run Tryz.prog W = .ok (.pointer (some ⟨g,6,none⟩)) W:=by kernel_rfl
theorem indexP_7 (g:Nat) (W:World):(Instr.index 202 (.agg #[.pointer (some ⟨g,0,none⟩),.pointer (some ⟨g,1,none⟩),.pointer (some ⟨g,2,none⟩),.pointer (some ⟨g,3,none⟩),.pointer (some ⟨g,4,none⟩),.pointer (some ⟨g,5,none⟩),.pointer (some ⟨g,6,none⟩),.pointer (some ⟨g,7,none⟩),.pointer (some ⟨g,8,none⟩),.pointer (some ⟨g,9,none⟩),.pointer (some ⟨g,10,none⟩),.pointer (some ⟨g,11,none⟩),.pointer (some ⟨g,12,none⟩)]) (zI 7)).run Tryz.prog W = .ok (.pointer (some ⟨g,7,none⟩)) W:=by kernel_rfl
theorem indexP_8 (g:Nat) (W:World):(Instr.index 202 (.agg #[.pointer (some ⟨g,0,none⟩),.pointer (some ⟨g,1,none⟩),.pointer (some ⟨g,2,none⟩),.pointer (some ⟨g,3,none⟩),.pointer (some ⟨g,4,none⟩),.pointer (some ⟨g,5,none⟩),.pointer (some ⟨g,6,none⟩),.pointer (some ⟨g,7,none⟩),.pointer (some ⟨g,8,none⟩),.pointer (some ⟨g,9,none⟩),.pointer (some ⟨g,10,none⟩),.pointer (some ⟨g,11,none⟩),.pointer (some ⟨g,12,none⟩)]) (zI 8)).run Tryz.prog W = .ok (.pointer (some ⟨g,8,none⟩)) W:=by kernel_rfl
theorem indexP_9 (g:Nat) (W:World):(Instr.index 202 (.agg #[.pointer (some ⟨g,0,none⟩),.pointer (some ⟨g,1,none⟩),.pointer (some ⟨g,2,none⟩),.pointer (some ⟨g,3,none⟩),.pointer (some ⟨g,4,none⟩),.pointer (some ⟨g,5,none⟩),.pointer (some ⟨g,6,none⟩),.pointer (some ⟨g,7,none⟩),.pointer (some ⟨g,8,none⟩),.pointer (some ⟨g,9,none⟩),.pointer (some ⟨g,10,none⟩),.pointer (some ⟨g,11,none⟩),.pointer (some ⟨g,12,none⟩)]) (zI 9)).run Tryz.prog W = .ok (.pointer (some ⟨g,9,none⟩)) W:=by kernel_rfl
theorem indexP_10 (g:Nat) (W:World):(Instr.index 202 (.agg #[.pointer (some ⟨g,0,none⟩),.pointer (some ⟨g,1,none⟩),.pointer (some ⟨g,2,none⟩),.pointer (some ⟨g,3,none⟩),.pointer (some ⟨g,4,none⟩),.pointer (some ⟨g,5,none⟩),.pointer (some ⟨g,6,none⟩),.pointer (some ⟨g,7,none⟩),.pointer (some ⟨g,8,none⟩),.pointer (some ⟨g,9,none⟩),.pointer (some ⟨g,10,none⟩),.pointer (some ⟨g,11,none⟩),.pointer (some ⟨g,12,none⟩)]) (zI 10)).run Tryz.prog W = .ok (.pointer (some ⟨g,10,none⟩)) W:=by kernel_rfl
theorem indexP_11 (g:Nat) (W:World):(Instr.index 202 (.agg #[.pointer (some ⟨g,0,none⟩),.pointer (some ⟨g,1,none⟩),.pointer (some ⟨g,2,none⟩),.pointer (some ⟨g,3,none⟩),.pointer (some ⟨g,4,none⟩),.pointer (some ⟨g,5,none⟩),.pointer (some ⟨g,6,none⟩),.pointer (some ⟨g,7,none⟩),.pointer (some ⟨g,8,none⟩),.pointer (some ⟨g,9,none⟩),.pointer (some ⟨g,10,none⟩),.pointer (some ⟨g,11,none⟩),.pointer (some ⟨g,12,none⟩)]) (zI 11)).run Tryz.prog W = .ok (.pointer (some ⟨g,11,none⟩)) W:=by kernel_rfl
theorem indexP_12 (g:Nat) (W:World):(Instr.index 202 (.agg #[.pointer (some ⟨g,0,none⟩),.pointer (some ⟨g,1,none⟩),.pointer (some ⟨g,2,none⟩),.pointer (some ⟨g,3,none⟩),.pointer (some ⟨g,4,none⟩),.pointer (some ⟨g,5,none⟩),.pointer (some ⟨g,6,none⟩),.pointer (some ⟨g,7,none⟩),.pointer (some ⟨g,8,none⟩),.pointer (some ⟨g,9,none⟩),.pointer (some ⟨g,10,none⟩),.pointer (some ⟨g,11,none⟩),.pointer (some ⟨g,12,none⟩)]) (zI 12)).run Tryz.prog W = .ok (.pointer (some ⟨g,12,none⟩)) W:=by kernel_rfl
theorem indexP (g:Nat) (k:Nat) (hk:k<13) (W:World):(Instr.index 202 (.agg #[.pointer (some ⟨g,0,none⟩),.pointer (some ⟨g,1,none⟩),.pointer (some ⟨g,2,none⟩),.pointer (some ⟨g,3,none⟩),.pointer (some ⟨g,4,none⟩),.pointer (some ⟨g,5,none⟩),.pointer (some ⟨g,6,none⟩),.pointer (some ⟨g,7,none⟩),.pointer (some ⟨g,8,none⟩),.pointer (some ⟨g,9,none⟩),.pointer (some ⟨g,10,none⟩),.pointer (some ⟨g,11,none⟩),.pointer (some ⟨g,12,none⟩)]) (zI (k:Int))).run Tryz.prog W = .ok (.pointer (some ⟨g,k,none⟩)) W:=by
 match k,hk with
 | 0,_=>exact indexP_0 g W
 | 1,_=>exact indexP_1 g W
 | 2,_=>exact indexP_2 g W
 | 3,_=>exact indexP_3 g W
 | 4,_=>exact indexP_4 g W
 | 5,_=>exact indexP_5 g W
 | 6,_=>exact indexP_6 g W
 | 7,_=>exact indexP_7 g W
 | 8,_=>exact indexP_8 g W
 | 9,_=>exact indexP_9 g W
 | 10,_=>exact indexP_10 g W
 | 11,_=>exact indexP_11 g W
 | 12,_=>exact indexP_12 g W
theorem bevent (a:Option Addr) (cap:Nat) (l:List Int) (w:World) (hr:RowU w a 13 l) (hm:∀ x∈l,0≤x∧x<4294967296):Calls Tryz.prog 66 #[.slice a 13 cap] w fun e w'=>e = .returned (evOf l).v∧Below w.heap.size w w':=by
 have hlen:=hr.1;obtain ⟨b,off,rfl,lb,hc⟩:=hr.at (by decide)
 have HM:Hid (∀ k,k<13→0≤l.getD k 0∧l.getD k 0<4294967296):=fun k hk=>hm _ (by
  have hl:k<l.length:=by omega
  rw [show l.getD k 0=l[k] by simp [List.getD,List.getElem?_eq_getElem hl]]
  exact List.getElem_mem _)
 have HC:Hid (∀ W,Below w.heap.size w W→∀ k,k<13→W.cell? ⟨b,off+k,none⟩=some (.int .u32 (l.getD k 0))):=fun W hB k hk=>(hB.cell (p:=⟨b,off+k,none⟩) lb).trans (hc k hk);have HIX:Hid (∀ k:Nat,k<13→∀ W,(Instr.index 202 (.agg #[.pointer (some ⟨w.heap.size+1,0,none⟩),.pointer (some ⟨w.heap.size+1,1,none⟩),.pointer (some ⟨w.heap.size+1,2,none⟩),.pointer (some ⟨w.heap.size+1,3,none⟩),.pointer (some ⟨w.heap.size+1,4,none⟩),.pointer (some ⟨w.heap.size+1,5,none⟩),.pointer (some ⟨w.heap.size+1,6,none⟩),.pointer (some ⟨w.heap.size+1,7,none⟩),.pointer (some ⟨w.heap.size+1,8,none⟩),.pointer (some ⟨w.heap.size+1,9,none⟩),.pointer (some ⟨w.heap.size+1,10,none⟩),.pointer (some ⟨w.heap.size+1,11,none⟩),.pointer (some ⟨w.heap.size+1,12,none⟩)]) (zI (k:Int))).run Tryz.prog W = .ok (.pointer (some ⟨w.heap.size+1,k,none⟩)) W):=fun k hk W=>indexP _ k hk W;have HL:Hid (l.length=13):=hlen;clear hm hc hr lb hlen;obtain ⟨W0,HWW,HR0,HV0,HP0,HB0,-⟩:=sh3 w #[zI 0,zI 0,zI 0,zI 0,zI 0,zI 0,zI 0,zI 0,zI 0,zI 0,zI 0,zI 0,zI 0] 72 #[zI 0,zI 0,zI 0,zI 0,zI 0,zI 0,zI 0,zI 0,zI 0,zI 0,zI 0,zI 0,zI 0] 72 #[.pointer (some ⟨w.heap.size+1,0,none⟩),.pointer (some ⟨w.heap.size+1,1,none⟩),.pointer (some ⟨w.heap.size+1,2,none⟩),.pointer (some ⟨w.heap.size+1,3,none⟩),.pointer (some ⟨w.heap.size+1,4,none⟩),.pointer (some ⟨w.heap.size+1,5,none⟩),.pointer (some ⟨w.heap.size+1,6,none⟩),.pointer (some ⟨w.heap.size+1,7,none⟩),.pointer (some ⟨w.heap.size+1,8,none⟩),.pointer (some ⟨w.heap.size+1,9,none⟩),.pointer (some ⟨w.heap.size+1,10,none⟩),.pointer (some ⟨w.heap.size+1,11,none⟩),.pointer (some ⟨w.heap.size+1,12,none⟩)] 202;go_enter Tryz.func66,Tryz.ntmps66;go_upto_region 3 with fail
 rw [HWW.o];clear HWW;have p0:W0.cell? ⟨w.heap.size+1+1,0,none⟩=some (.pointer (some ⟨w.heap.size+1,0,none⟩)):=HP0.o.cell 0;have p1:W0.cell? ⟨w.heap.size+1+1,1,none⟩=some (.pointer (some ⟨w.heap.size+1,1,none⟩)):=HP0.o.cell 1;have p2:W0.cell? ⟨w.heap.size+1+1,2,none⟩=some (.pointer (some ⟨w.heap.size+1,2,none⟩)):=HP0.o.cell 2;have p3:W0.cell? ⟨w.heap.size+1+1,3,none⟩=some (.pointer (some ⟨w.heap.size+1,3,none⟩)):=HP0.o.cell 3;have p4:W0.cell? ⟨w.heap.size+1+1,4,none⟩=some (.pointer (some ⟨w.heap.size+1,4,none⟩)):=HP0.o.cell 4;have p5:W0.cell? ⟨w.heap.size+1+1,5,none⟩=some (.pointer (some ⟨w.heap.size+1,5,none⟩)):=HP0.o.cell 5;have p6:W0.cell? ⟨w.heap.size+1+1,6,none⟩=some (.pointer (some ⟨w.heap.size+1,6,none⟩)):=HP0.o.cell 6;have p7:W0.cell? ⟨w.heap.size+1+1,7,none⟩=some (.pointer (some ⟨w.heap.size+1,7,none⟩)):=HP0.o.cell 7;have p8:W0.cell? ⟨w.heap.size+1+1,8,none⟩=some (.pointer (some ⟨w.heap.size+1,8,none⟩)):=HP0.o.cell 8;have p9:W0.cell? ⟨w.heap.size+1+1,9,none⟩=some (.pointer (some ⟨w.heap.size+1,9,none⟩)):=HP0.o.cell 9;have p10:W0.cell? ⟨w.heap.size+1+1,10,none⟩=some (.pointer (some ⟨w.heap.size+1,10,none⟩)):=HP0.o.cell 10;have p11:W0.cell? ⟨w.heap.size+1+1,11,none⟩=some (.pointer (some ⟨w.heap.size+1,11,none⟩)):=HP0.o.cell 11;have p12:W0.cell? ⟨w.heap.size+1+1,12,none⟩=some (.pointer (some ⟨w.heap.size+1,12,none⟩)):=HP0.o.cell 12;go_wp2_with fail;clear HP0 p0 p1 p2 p3 p4 p5 p6 p7 p8 p9 p10 p11 p12;go_loopw [31] (fun v31 wr=>∃ (k:Nat),k≤13∧v31=zI (k:Int)∧Blk wr w.heap.size #[zI 0,zI 0,zI 0,zI 0,zI 0,zI 0,zI 0,zI 0,zI 0,zI 0,zI 0,zI 0,zI 0] 72∧Blk wr (w.heap.size+1) (cellsK l k) 72∧Below w.heap.size w wr) (fun v31 _=>13 - (intOf v31).toNat)
 case atStart=>exact ⟨0,Nat.zero_le _,rfl,HR0.o,HV0.o,HB0.o⟩
 case round=>
  obtain ⟨k,hk,rfl,hR,hV,hbl⟩:=hrel;have HR:Hid (Blk wr w.heap.size #[zI 0,zI 0,zI 0,zI 0,zI 0,zI 0,zI 0,zI 0,zI 0,zI 0,zI 0,zI 0,zI 0] 72):=hR;have HV:Hid (Blk wr (w.heap.size+1) (cellsK l k) 72):=hV;have HBL:Hid (Below w.heap.size w wr):=hbl;clear hR hV hbl HR0 HV0 HB0;by_cases hkm:k<13
  ·have hix:=HIX.o k hkm;have hz:=HM.o k hkm;have hcl:=HC.o wr HBL.o k hkm;have HNX:Hid ((cellsK l k).setIfInBounds k (zI (l.getD k 0))=cellsK l (k+1)):=cellsK_next l HL.o k hkm;have hks:k<(cellsK l k).size:=by rw [cellsK_size l HL.o k hk];exact hkm
   clear HIX HM HC;generalize l.getD k 0=z at *;have hwz:IntKind.i64.wrap z=z:=by rw [IntKind.wrap_i64];omega
   have hdl:decide ((k:Int)<13)=true:=decide_eq_true (by omega);have hb13:(0:Int)≤(k:Int)∧(k:Int)<((13:Nat):Int):=by omega
   clear hz;go_wp2_with (first | (refine wp_let1 rfl 3 _ _ rfl (w.heap.size+1) k rfl .i64 z rfl (by kernel_rfl) (cellsK l k) 72 HV.o hks ?_) | fail)
   intro W3 hU;have H3:Hid (Blk W3 (w.heap.size+1) (cellsK l (k+1)) 72):=by show Blk _ _ _ _;rw [← HNX.o];exact hU.blk
   have HR3:=shK hU HR (by omega);have HB3:=shV hU HBL (by omega);clear hU hcl;go_wp2_with fail;go_roundw
   case rel=>exact ⟨k+1,by omega,by go_num,HR3.o,H3.o,HB3.o⟩
   case measure=>simp [intOf];omega
  ·obtain rfl:k=13:=by omega
   have hdl:decide (((13:Nat):Int)<13)=false:=decide_eq_false (by omega)
   have HFN:Hid (Blk wr (w.heap.size+1) (evOf l).cs 72):=by
    show Blk _ _ _ _;rw [← cellsK_all l HL.o];exact HV.o
   clear HV;obtain ⟨v,hv⟩:∃ v,v=evOf l:=⟨_,rfl⟩
   have HVE:Hid (v=evOf l):=hv;rw [← hv] at HFN;clear hv;unfold Ev.cs at HFN;have c0:wr.cell? ⟨w.heap.size+1,0,none⟩=some (zI v.kd):=HFN.o.cell 0;have c1:wr.cell? ⟨w.heap.size+1,1,none⟩=some (zI v.me):=HFN.o.cell 1;have c2:wr.cell? ⟨w.heap.size+1,2,none⟩=some (zI v.mo):=HFN.o.cell 2;have c3:wr.cell? ⟨w.heap.size+1,3,none⟩=some (zI v.id):=HFN.o.cell 3;have c4:wr.cell? ⟨w.heap.size+1,4,none⟩=some (zI v.te):=HFN.o.cell 4;have c5:wr.cell? ⟨w.heap.size+1,5,none⟩=some (zI v.de):=HFN.o.cell 5;have c6:wr.cell? ⟨w.heap.size+1,6,none⟩=some (zI v.fe):=HFN.o.cell 6;have c7:wr.cell? ⟨w.heap.size+1,7,none⟩=some (zI v.pr):=HFN.o.cell 7;have c8:wr.cell? ⟨w.heap.size+1,8,none⟩=some (zI v.ch):=HFN.o.cell 8;have c9:wr.cell? ⟨w.heap.size+1,9,none⟩=some (zI v.un):=HFN.o.cell 9;have c10:wr.cell? ⟨w.heap.size+1,10,none⟩=some (zI v.tg):=HFN.o.cell 10;have c11:wr.cell? ⟨w.heap.size+1,11,none⟩=some (zI v.ow):=HFN.o.cell 11;have c12:wr.cell? ⟨w.heap.size+1,12,none⟩=some (zI v.bp):=HFN.o.cell 12;go_wp2_with (first | (refine zql rfl rfl rfl rfl zqu72 (by simp [Value.oneCell']) HR rfl ?_) | fail)
   intro W3 hU;have HRV:Hid (Blk W3 w.heap.size #[zI v.kd,zI v.me,zI v.mo,zI v.id,zI v.te,zI v.de,zI v.fe,zI v.pr,zI v.ch,zI v.un,zI v.tg,zI v.ow,zI v.bp] 72):=hU.blk;have HB3:=shV hU HBL (by omega);clear hU c0 c1 c2 c3 c4 c5 c6 c7 c8 c9 c10 c11 c12;obtain ⟨r0,r1,r2,r3,r4,r5,r6,r7,r8,r9,r10,r11,r12⟩:=scl13 HRV;go_wp2_with fail;exact bodyPost_ret (v:= .agg #[zI v.kd,zI v.me,zI v.mo,zI v.id,zI v.te,zI v.de,zI v.fe,zI v.pr,zI v.ch,zI v.un,zI v.tg,zI v.ow,zI v.bp]) (by simp [results,Tryz.results66,r0,r1,r2,r3,r4,r5,r6,r7,r8,r9,r10,r11,r12,go_sem]) rfl ⟨by rw [← HVE.o];rfl,HB3.o⟩
open Go.ChangeMaps (setBlock heap_setBlock_same heap_setBlock_other)
def entI (m:Int) (i:Nat):MapEntry:={ key:=zI m,val:=zI (i:Int),born:=i }
def entsI:List Int→Nat→List MapEntry
 | [],_=>[]
 | p :: l,i=>entI p i :: entsI l (i+1)
theorem entsI_app (l:List Int) (p:Int) (i:Nat):entsI (l++[p]) i=entsI l i++[entI p (i+l.length)]:=by
 induction l generalizing i with
 | nil=>rfl
 | cons x l ih=>simp only [List.cons_append,entsI,ih,List.length_cons];rw [show i+1+l.length=i+(l.length+1) by omega]
def MpI (w:World) (B:Nat) (l:List Int):Prop:=w.heap[B]?=some (.map (entsI l 0).toArray l.length)
theorem MpI.lt {w:World} {B:Nat} {l:List Int} (h:MpI w B l):B<w.heap.size:=by
 unfold MpI at h;by_cases hh:B<w.heap.size
 ·exact hh
 ·rw [Array.getElem?_eq_none (by omega)] at h;cases h
theorem MpI.below {w w':World} {B:Nat} {l:List Int} (h:MpI w B l) (hb:Below w.heap.size w w'):MpI w' B l:=by
 have hl:=h.lt;unfold MpI at *;rw [hb.block B hl];exact h
theorem MpI.upd {w W:World} {B g:Nat} {cs:Array Value} {t:TypeId} {l:List Int} (h:MpI w B l) (hU:Upd w W g cs t) (hne:B≠g):MpI W B l:=by
 unfold MpI at *;rw [hU.oth B hne];exact h
theorem MpI.new (w:World):MpI (w.alloc (.map #[] 0)) w.heap.size []:=by
 show (w.heap.push _)[w.heap.size]?=_;rw [Array.getElem?_push_size];rfl
def firstI:List Int→Int→Option Nat
 | [],_=>none
 | m :: l,x=>if x=m then some 0 else (firstI l x).map (·+1)
theorem findingI (x:Int):∀ (l:List Int) (i j:Nat),Instr.findNow (.int .i64) (zI x) (entsI l i) j=some ((firstI l x).map fun k=>(j+k,Value.int .i64 ((i+k:Nat):Int)))
 | [],i,j=>rfl
 | m :: l,i,j=>by
  have ih:=findingI x l (i+1) (j+1);unfold firstI;by_cases h:x=m
  ·subst h;simp [entsI,entI,Instr.findNow,Instr.sameNow]
  ·have hb:(x == m)=false:=by simpa using h
   rw [if_neg h];simp only [entsI,entI,Instr.findNow,Instr.sameNow,if_true,hb];rw [ih];cases firstI l x with
   | none=>rfl
   | some k=>simp [show j+1+k=j+(k+1) by omega,show i+1+k=i+(k+1) by omega];omega
theorem zintI (w:World):(zeroValue 3).run Tryz.prog w = .ok (zI 0) w:=by kernel_rfl
theorem chkI (em:Bool) (x:Int) (w:World):(Instr.checkKey em 10000 3 (zI x)).run Tryz.prog w = .ok () w:=by kernel_rfl
theorem keyI (x:Int) (l:List Int) (w:World):(Instr.findKey 3 (zI x) (entsI l 0)).run Tryz.prog w = .ok ((firstI l x).map fun k=>(k,Value.int .i64 (k:Int))) w:=by
 have h:=findingI x l 0 0;simp only [Nat.zero_add] at h;simp [Instr.findKey,run_underlying Tryz.underlying3,Sem.run_bind,h]
theorem lookI_run {w:World} {B:Nat} {l:List Int} (h:MpI w B l) (x:Int) :
  (Instr.lookup 111 (.map (some B)) (zI x) true).run Tryz.prog w = .ok (.tuple #[zI (((firstI l x).getD 0:Nat):Int),.bool (firstI l x).isSome]) w:=by
 have hf:=keyI x l w;cases hl:firstI l x with
 | none=>rw [hl] at hf;simp [Instr.lookup,run_underlying Tryz.underlying111,MapKept.run_getObj_map h,chkI,hf,zintI,Result.andThen,Sem.run_bind]
 | some k=>rw [hl] at hf;simp [Instr.lookup,run_underlying Tryz.underlying111,MapKept.run_getObj_map h,chkI,hf,Result.andThen,Sem.run_bind]
theorem updI_run {w:World} {B:Nat} {l:List Int} (h:MpI w B l) (x:Int) (hn:firstI l x=none) :
  ∃ W,(Instr.mapUpdate 111 (.map (some B)) (zI x) (zI (l.length:Int))).run Tryz.prog w = .ok () W∧MpI W B (l++[x])∧(∀ G,G≠B→W.heap[G]?=w.heap[G]?)∧(∀ B0 w0,B0≤B→Below B0 w0 w→Below B0 w0 W)∧W.heap.size=w.heap.size∧w.grownBy W (some B):=by
 have hf:=keyI x l w;rw [hn] at hf;refine ⟨setBlock w B (.map ((entsI l 0).toArray.push ⟨zI x,zI (l.length:Int),l.length⟩) (l.length+1)),?_,?_,fun G hG=>heap_setBlock_other h _ hG,fun B0 w0 hB hb=>?_,by simp [setBlock],⟨rfl,rfl,rfl,by simp [setBlock],fun k hk hne=>heap_setBlock_other h _ (fun e=>hne (by rw [e]))⟩⟩
 ·simp [Instr.mapUpdate,run_underlying Tryz.underlying111,MapKept.run_getObj_map h,chkI,hf,MapKept.run_setObj_map _ h,Result.andThen,setBlock,Sem.run_bind]
 ·unfold MpI;rw [heap_setBlock_same h,entsI_app,List.length_append];simp [entI]
 ·refine ⟨hb.os,hb.tape,hb.output,by simp [setBlock];exact hb.size,fun k hk=>?_⟩;rw [heap_setBlock_other h _ (by omega)];exact hb.block k hk
theorem mkMapI (w:World):(Instr.makeMap 111 none).run Tryz.prog w = .ok (.map (some w.heap.size)) (w.alloc (.map #[] 0)):=by kernel_rfl
def mes (bk:List Cm):List Int:=bk.map fun c=>c.a.me
theorem mes_len (bk:List Cm):(mes bk).length=bk.length:=by simp [mes]
theorem first_some {bk:List Cm} {x:Int} {k:Nat} (h:firstI (mes bk) x=some k):FirstAt bk x k:=by
 induction bk generalizing k with
 | nil=>cases h
 | cons c bk ih=>
  unfold mes firstI at h;simp only [List.map_cons] at h;by_cases hx:x=c.a.me
  ·rw [if_pos hx] at h;cases h;exact ⟨by simp,hx.symm,fun j hj=>absurd hj (Nat.not_lt_zero _)⟩
  ·rw [if_neg hx] at h;cases hf:firstI (mes bk) x with
   | none=>rw [show firstI (List.map (fun c=>c.a.me) bk) x=none from hf] at h;cases h
   | some m=>
    rw [show firstI (List.map (fun c=>c.a.me) bk) x=some m from hf] at h;cases h;have:=ih hf
    exact ⟨by have:=this.1;simp;omega,this.2.1,fun j hj=>by
     cases j with
     | zero=>exact fun e=>hx e.symm
     | succ j=>exact this.2.2 j (by have:j+1<m+1:=hj;omega)⟩
theorem first_none {bk:List Cm} {x:Int} (h:firstI (mes bk) x=none):NoneAt bk x:=by
 induction bk with
 | nil=>intro j hj;cases hj
 | cons c bk ih=>
  unfold mes firstI at h;simp only [List.map_cons] at h;by_cases hx:x=c.a.me
  ·rw [if_pos hx] at h;cases h
  ·rw [if_neg hx] at h
   have hf:firstI (mes bk) x=none:=by
    cases hf:firstI (mes bk) x with
    | none=>rfl
    | some m=>rw [show firstI (List.map (fun c=>c.a.me) bk) x=some m from hf] at h;cases h
   intro j hj;cases j with
   | zero=>exact fun e=>hx e.symm
   | succ j=>exact ih hf j (by simpa using hj)
theorem mes_set {bk:List Cm} {k:Nat} {c:Cm} (h:c.a.me=(bk.getD k cm0).a.me):mes (bk.set k c)=mes bk:=by
 unfold mes;apply List.ext_getElem?;intro j;simp only [List.getElem?_map,List.getElem?_set];by_cases hj:k=j
 ·subst hj;rw [if_pos rfl];by_cases hl:k<bk.length
  ·rw [if_pos hl,List.getElem?_eq_getElem hl];simp only [Option.map_some,h,List.getD,List.getElem?_eq_getElem hl,Option.getD]
  ·rw [if_neg hl,List.getElem?_eq_none (by omega)]
 ·rw [if_neg hj]
end book
end Go.Proofs.YtnpblpbohcegoaaGreatDoor
