import Derived.Test.YtoepgdhiepedeaaGreatDoorVVRys13
import Derived.Test.YtoepgdhiepedeaaGreatDoorVVRys16
set_option linter.unusedVariables false
set_option linter.unusedSimpArgs false
set_option maxHeartbeats 4000000
set_option maxRecDepth 100000
namespace Go.Proofs.YtoepgdhiepedeaaGreatDoor
namespace book
open Go.RowKit
open acc (Ac Tm Bi APost BPost TFault TRight OpenIs)
variable{cs:Array Value}{st:Nat→List Cm}{xs:List Cu}{own:Option Nat}{pt:Option Addr}{pa:Option Addr}{g8 base k:Nat}{x x':Cu}{w w':World}{l:List Ev}{t:TypeId}{c':Cm}{pc:Nat}
theorem lc_upd2{w W:World}{base g:Nat}{v:Value}{l:List Cu}(h:Lc w base v l)(hU:Upd w W g cs t)(hg:g<base):Lc W base v l:=by
 refine⟨h.1,?_⟩;rcases h.2 with f|⟨c,a,b,i,d,e,rest⟩
 ·exact .inl f
 ·exact .inr ⟨c,a,b,i,d,by rw[hU.oth c (by omega)];exact e,rest⟩
theorem Holds.upd{w W:World}{base g:Nat}{V:Value}{bk:List Cm}(h:Holds w base V xs bk)(hU:Upd w W g cs t)(hg:g<base):Holds W base V xs bk:=
 ⟨lc_upd2 h.row hU hg,h.len,λi a=>⟨(h.has i a).num,⟨acc_upd (h.has i a).ds.came hU (λc y d q=>by have:=(h.has i a).ds.new c y d;omega),(h.has i a).ds.new⟩,lo_upd (h.has i a).so hU (λk b q=>by have:=(World.ownsRow.lt (h.has i a).so k b).1;omega)⟩,h.off,h.self,h.apart⟩
theorem Turned.next{w w' w'':World}{base:Nat}(h:Turned w w' base x x' c')(hb:zB w' w''):Turned w w'' base x x' c':=⟨h.grown.trans (grown_of hb _),h.has.next hb,h.own,h.new,h.self⟩
theorem Turned.upd{w w' w'':World}{base g:Nat}{ty:TypeId}(h:Turned w w' base x x' c')(hU:Upd w' w'' g cs ty)(hg:w.heap.size≤g)(h1:∀k,x'.sold.ownBlock=some k→k≠g)(h2:0<x'.dn→∀p,x'.dp=some p→p.block≠g):Turned w w'' base x x' c':=⟨grown_upd h.grown hU hg,⟨h.has.num,⟨acc_upd h.has.ds.came hU h2,h.has.ds.new⟩,lo_upd h.has.so hU h1⟩,h.own,h.new,h.self⟩
theorem Turned.prev{w0 w w':World}{base:Nat}(h:Turned w w' base x x' c')(hb:zB w0 w):Turned w0 w' base x x' c':=⟨(grown_of hb _).trans h.grown,h.has,λg a=>(h.own g a).imp id (λq=>Nat.le_trans hb.size q),λb p c=>Nat.le_trans hb.size (h.new b p c),h.self⟩
theorem Turned.lt{base:Nat}(h:Turned w w' base x x' c'):(∀k,x'.sold.ownBlock=some k→k<w'.heap.size)∧(0<x'.dn→∀p,x'.dp=some p→p.block<w'.heap.size):=⟨λk a=>(World.ownsRow.lt h.has.so k a).2,λc p d=>by
 obtain⟨b,g,e,f,_⟩:=h.has.ds.came.row.at c;rw[d] at e
 rw [Option.some.inj e];exact f⟩
theorem blk_kept{g:Nat}{ty:TypeId}(h:Blk w g cs ty)(hg:w.grownBy w' own)(hne:some g≠own):Blk w' g cs ty:=by
 show w'.heap[g]?=_;rw[hg.block g h.lt hne];exact h
theorem lc_kept{base:Nat}{v:Value}{l:List Cu}(h:Lc w base v l)(hg:w.grownBy w' own)(hne:∀g,v.ownBlock=some g→own≠some g):Lc w' base v l:=by
 refine World.ownsRow.kept h hg ?_;cases e:v.ownBlock with
 |none=>exact .inl rfl
 |some g=>exact .inr (λq=>hne g e q.symm)
theorem upd_grown{w W:World}{g:Nat}(hU:Upd w W g cs t):w.grownBy W (some g):=by
 have a:=hU.bel 0 w (Nat.zero_le _) zb;exact⟨a.os,a.tape,a.output,by rw[hU.size];exact zc,λk c b=>hU.oth k (λe=>b (by rw[e]))⟩
theorem bel_turned{w0 w w':World}{B:Nat}(h:Below B w0 w)(hg:w.grownBy w' own)(hs:B≤w.heap.size)(ho:∀k,own=some k→B≤k):Below B w0 w':=h.grown hg hs ho
def BookPost(w:World)(t:Tm)(l:List Ev)(e:Ending)(w':World):Prop:=∃p m cap xs bk at_ f,e=.returned (.tuple #[.agg #[.slice p m cap],zI at_,zI f])∧BookIs t l bk at_ f∧Sees w' p m xs bk∧m≤120∧zB w w'
theorem getD_mem{bk:List Cm}{j:Nat}(h:j<bk.length):bk.getD j cm0∈bk:=by
 have e:bk.getD j cm0=bk[j]:=by simp[List.getD,List.getElem?_eq_getElem h]
 rw[e];exact List.getElem_mem _
theorem sees_nil(w:World):Sees w none 0 [] []:=⟨⟨rfl,.inl rfl⟩,rfl,(λi a=>by cases a),(λi a=>by cases a),(λi a=>by cases a)⟩
structure Mid (w:World) (t:Tm) (pt:Option Addr) (lt ct:Nat) (l:List Ev) (g8 base k:Nat) (st:Nat→List Cm) (xs:List Cu) (pa:Option Addr) (pc:Nat) (wr:World):Prop where
 s0:st 0=[]
 steps:∀i,i<k→StepIs t (st i) (l.getD i ev0) (st (i+1)) 0
 small:Small (st k) k
 bt:Blk wr w.heap.size #[.slice pt lt ct,zI t.ff,zI t.fb,zI t.db,zI t.al] 24
 br:Blk wr (w.heap.size+1) #[zS] 65
 bb:Blk wr g8 #[.slice pa xs.length pc] 65
 hold:Holds wr base (.slice pa xs.length pc) xs (st k)
 bel:zB w wr
 sz:base≤wr.heap.size
theorem Mid.next{w:World}{t:Tm}{lt ct:Nat}{wr wr':World}(h:Mid w t pt lt ct l g8 base k st xs pa pc wr)(hb:zB wr wr'):Mid w t pt lt ct l g8 base k st xs pa pc wr':=⟨h.s0,h.steps,h.small,h.bt.next hb,h.br.next hb,h.bb.next hb,h.hold.next hb,h.bel.trans (hb.mono h.bel.size),Nat.le_trans h.sz hb.size⟩
theorem Mid.few{w:World}{t:Tm}{lt ct:Nat}{wr:World}(h:Mid w t pt lt ct l g8 base k st xs pa pc wr):xs.length≤k:=by rw[h.hold.len];exact h.small.1
theorem Mid.stop{w:World}{t:Tm}{lt ct:Nat}{g8 base k:Nat}{wr:World}(h:Mid w t pt lt ct l g8 base k st xs pa pc wr)(hT:TRight t)(hl:l.length≤120)(hk:k<l.length){x:List Cm}{f:Int}(hs:StepIs t (st k) (l.getD k ev0) x f)(hf:f≠0):BookIs t l [] (k:Int) f:=.inr (.inr ⟨hT,hl,k,st,h.s0,h.steps,.inr ⟨hk,⟨x,hs⟩,hf,rfl,rfl⟩⟩)
open acc (OweIs SellIs GrantIs RekeyIs)
set_option maxRecDepth 100000
set_option maxHeartbeats 4000000 in
theorem rhap5(a : Ac)(sol : List So)(dp : Option Addr)(dn dc : Nat)(sp : Option Addr)(sn sc : Nat)(t : Tm)(pt : Option Addr)(lt ct : Nat)(v : Ev)(base : Nat)(w : World)(hx : Has w base (cuA a dp dn dc sp sn sc) ⟨a, sol⟩)(ht : tar.RowD w pt lt t.ts)(htl : lt ≤ maxLen)(hbase : base ≤ w.heap.size)(hkd : v.kd = 5):
  Calls Tryz.prog 85 #[.agg #[.slice pt lt ct, .int .i64 t.ff, .int .i64 t.fb, .int .i64 t.db, .int .i64 t.al], .agg #[.int .i64 a.me, .int .i64 a.rv, .int .i64 a.nx, .int .i64 a.mo, .int .i64 a.bo, .int .i64 a.fr, .slice dp dn dc, .slice sp sn sc], .agg #[.int .i64 v.kd, .int .i64 v.me, .int .i64 v.mo, .int .i64 v.id, .int .i64 v.te, .int .i64 v.de, .int .i64 v.fe, .int .i64 v.pr, .int .i64 v.ch, .int .i64 v.un, .int .i64 v.tg, .int .i64 v.ow, .int .i64 v.bp]] w λe w' => HapPost w base t (cuA a dp dn dc sp sn sc) ⟨a, sol⟩ v e w' := by
 have n5 : (v.kd==5) = true := by simpa using hkd
 have HKD := zh hkd
 clear hkd
 have HB0 : Hid (zB w w) := zb
 have HH := zh hx
 have HBS := zh hbase
 have HOW : Hid (∀W, zB w W → zC 133 #[.agg #[.int .i64 a.me, .int .i64 a.rv, .int .i64 a.nx, .int .i64 a.mo, .int .i64 a.bo, .int .i64 a.fr, .slice dp dn dc], .agg #[.int .i64 v.ow, .int .i64 v.bp]] W λe w' => APost W (OweIs a ⟨v.ow, v.bp⟩) e w') := λW hB => acc.rowes a dp dn dc ⟨v.ow, v.bp⟩ W (hx.ds.came.below hB).row hx.ds.came.most
 clear hx ht htl hbase
 obtain⟨W0, HWW, Ht4, Qx, Qv, Qr, HB4, hz0⟩ := sh4 w #[.slice pt lt ct, .int .i64 t.ff, .int .i64 t.fb, .int .i64 t.db, .int .i64 t.al] 24 #[.int .i64 a.me, .int .i64 a.rv, .int .i64 a.nx, .int .i64 a.mo, .int .i64 a.bo, .int .i64 a.fr, .slice dp dn dc, .slice sp sn sc] 71 #[.int .i64 v.kd, .int .i64 v.me, .int .i64 v.mo, .int .i64 v.id, .int .i64 v.te, .int .i64 v.de, .int .i64 v.fe, .int .i64 v.pr, .int .i64 v.ch, .int .i64 v.un, .int .i64 v.tg, .int .i64 v.ow, .int .i64 v.bp] 44 #[.int .i64 0, .int .i64 0, .int .i64 0, .int .i64 0, .int .i64 0, .int .i64 0, .slice none 0 0, .slice none 0 0] 71
 go_enter Tryz.func85, Tryz.ntmps85
 go_upto_region 1 with fail
 rw[HWW.out]
 have HS0 := zh hz0
 clear hz0
 have kx0 := Qx.out.cell 0
 have kx1 := Qx.out.cell 1
 have kx2 := Qx.out.cell 2
 have kx3 := Qx.out.cell 3
 have kx4 := Qx.out.cell 4
 have kx5 := Qx.out.cell 5
 have kx6 := Qx.out.cell 6
 have kx7 := Qx.out.cell 7
 have kv0 := Qv.out.cell 0
 have kv1 := Qv.out.cell 1
 have kv2 := Qv.out.cell 2
 have kv3 := Qv.out.cell 3
 have kv4 := Qv.out.cell 4
 have kv5 := Qv.out.cell 5
 have kv6 := Qv.out.cell 6
 have kv7 := Qv.out.cell 7
 have kv8 := Qv.out.cell 8
 have kv9 := Qv.out.cell 9
 have kv10 := Qv.out.cell 10
 have kv11 := Qv.out.cell 11
 have kv12 := Qv.out.cell 12
 have HO1 := zh (HOW.out W0 HB4.out)
 go_wp2_with fail
 refine HO1.out.mono ?_
 rintro e w1 ⟨b, pb, lb, cb, f, rfl, hi, hf, hb1⟩
 have HI := zh hi
 obtain⟨Ht5, Hx5, Hv5, Hr5⟩ := zn4 hb1 Ht4 Qx Qv Qr
 have HB5 := shB HB4 hb1
 have HF1 := zh hf
 have HW0 := zh HB4.out.size
 clear hb1 hf hi kx0 kx1 kx2 kx3 kx4 kx5 kx6 kx7 kv0 kv1 kv2 kv3 kv4 kv5 kv6 kv7 kv8 kv9 kv10 kv11 kv12
 unfold acc.Ac.v acc.Ac.cs
 obtain⟨W1, HWW, Ha6, HBB, -⟩ := sh1 w1 #[.int .i64 b.me, .int .i64 b.rv, .int .i64 b.nx, .int .i64 b.mo, .int .i64 b.bo, .int .i64 b.fr, .slice pb lb cb] 55
 obtain⟨Ht6, Hx6, Hv6, Hr6⟩ := zn4 HBB.out Ht5 Hx5 Hv5 Hr5
 have HB6 := shB HB5 HBB.out
 have HF2 := zh (HF1.out.below HBB.out)
 go_upto_region 3 with fail
 rw[HWW.out]
 generalize hga : w1.heap.size = ga at *
 obtain⟨ka0, ka1, ka2, ka3, ka4, ka5, ka6⟩ := scl7 Ha6
 obtain⟨kx0, kx1, kx2, kx3, kx4, kx5, kx6, kx7⟩ := scl8 Hx6
 go_wp2_with refine zs ?_
 intro W2 hU
 have HR2 := zh hU.blk
 have HB9 := zk hU HB6
 have HUU := zh hU
 clear hU ka0 ka1 ka2 ka3 ka4 ka5 ka6 kx0 kx1 kx2 kx3 kx4 kx5 kx6 kx7
 obtain⟨R0, R1, R2, R3, R4, R5, R6, R7⟩ := shc8 HR2
 have HFIN : Hid (HapPost w base t (cuA a dp dn dc sp sn sc) ⟨a, sol⟩ v (.returned (.tuple #[.agg #[.int .i64 b.me, .int .i64 b.rv, .int .i64 b.nx, .int .i64 b.mo, .int .i64 b.bo, .int .i64 b.fr, .slice pb lb cb, .slice sp sn sc], .int .i64 f])) W2) := by
  refine⟨cuA b pb lb cb sp sn sc, ⟨b, sol⟩, f, rfl, .inl ⟨HKD.out, b, HI.out, λ_ => rfl⟩, λ_ => ?_, grown_of HB9.out _⟩
  have hbl := HF2.out.new
  refine⟨grown_of HB9.out _, ⟨cuA_num _ _ _ _ _ _ _, ⟨?_, λhn y hy => ?_⟩, HH.out.so.next HB9.out⟩, λg hg => .inl hg, λhn y hy => Nat.le_trans HW0.out (hbl hn y hy), λg hg hn y hy q => ?_⟩
  ·refine acc_upd HF2.out.came HUU.out (λhn y hy q => ?_)
   have h1 := hbl hn y hy
   have h2 := HS0.out
   omega
  ·have h1 := hbl hn y hy
   have h2 := HW0.out
   have h3 := HBS.out
   omega
  ·have h1 := hbl hn y hy
   have h2 := HW0.out
   have h3 := (World.ownsRow.lt HH.out.so g hg).2
   omega
 go_wp2_with fail
 exact zr (.tuple #[.agg #[.int .i64 b.me, .int .i64 b.rv, .int .i64 b.nx, .int .i64 b.mo, .int .i64 b.bo, .int .i64 b.fr, .slice pb lb cb, .slice sp sn sc], .int .i64 f]) (by simp[results, Tryz.results85, R0.out, R1.out, R2.out, R3.out, R4.out, R5.out, R6.out, R7.out, go_sem]) HFIN.out
end book
namespace ora
open Go.RowKit
theorem of_any(m r b t:Int)(w:World):
  Calls Tryz.prog 116 #[.agg #[zI m,zI r,zI b,zI t]] w λe w'=>e=.returned (.agg #[zI m,zI r,zI b])∧zB w w':=by
 have c:=(Blk.new w #[zI m,zI r,zI b,zI t] 87).alloc (.cells #[zI 0,zI 0,zI 0] 183);have c0:=c.cell 0;have c1:=c.cell 1;have c2:=c.cell 2;have f:=Blk.new1 w (.cells #[zI m,zI r,zI b,zI t] 87) #[zI 0,zI 0,zI 0] 183;have h:=zh f;have g:Hid (zB w ((w.alloc (.cells #[zI m,zI r,zI b,zI t] 87)).alloc (.cells #[zI 0,zI 0,zI 0] 183))):=(zb.alloc zc _).alloc (by simp) _;clear c f;go_enter Tryz.func116,Tryz.ntmps116
 go_wp2_with (first
  |(refine wp_letAll rfl 183 _ _ rfl (w.heap.size+1) rfl _ rfl (by kernel_rfl) (by simp[Value.oneCell']) _ _ h.o rfl ?_;intro W a)
  | fail)
 have i:=a.blk.cell 0;have j:=a.blk.cell 1;have k:=a.blk.cell 2;have d:=zk a g;clear a c0 c1 c2;go_wp2_with fail;exact zr (.agg #[zI m,zI r,zI b]) (by simp[results,Tryz.results116,i,j,k,go_sem]) ⟨rfl,d.o⟩
theorem within_any(m r b t:Int)(w:World):
  Calls Tryz.prog 115 #[.agg #[zI m,zI r,zI b,zI t]] w λe w'=>Told w (Pr.mk m r b t).may e w':=by
 have q:=Blk.new w #[zI m,zI r,zI b,zI t] 87;have c0:=q.cell 0;have c1:=q.cell 1;have c2:=q.cell 2;have C:=q.cell 3;have d:Hid (zB w (w.alloc (.cells #[zI m,zI r,zI b,zI t] 87))):=zb.alloc zc _;clear q;by_cases c:0≤m
 ·skip
  by_cases f:m<50
  ·skip
   by_cases g:0≤r
   ·skip
    by_cases j:r≤15
    ·skip
     by_cases l:0≤b
     ·skip
      by_cases p:b≤8796093022207
      ·skip
       by_cases u:0≤t
       ·skip
        by_cases y:t≤65535
        ·skip
         have a:Hid ((Pr.mk m r b t).may):=⟨⟨c,by show m≤49;omega⟩,⟨g,j⟩,⟨l,p⟩,⟨u,y⟩⟩
         have i:decide (0≤m)=true:=by simp;omega
         have k:decide (m<50)=true:=by simp;omega
         have n:decide (0≤r)=true:=by simp;omega
         have s:decide (r≤15)=true:=by simp;omega
         have x:decide (0≤b)=true:=by simp;omega
         have z:decide (b≤8796093022207)=true:=by simp;omega
         have A:decide (0≤t)=true:=by simp;omega
         have B:decide (t≤65535)=true:=by simp;omega
         clear c f g j l p u y;go_enter Tryz.func115,Tryz.ntmps115;go_wp2_with fail;go_ret;exact Told.yes a.o d.o
        ·have B:decide (t≤65535)=false:=by simp;omega
         have a:Hid (¬ (Pr.mk m r b t).may):=λh=>by unfold Pr.may at h;simp only at h;omega
         have i:decide (0≤m)=true:=by simp;omega
         have k:decide (m<50)=true:=by simp;omega
         have n:decide (0≤r)=true:=by simp;omega
         have s:decide (r≤15)=true:=by simp;omega
         have x:decide (0≤b)=true:=by simp;omega
         have z:decide (b≤8796093022207)=true:=by simp;omega
         have A:decide (0≤t)=true:=by simp;omega
         clear c f g j l p u y;go_enter Tryz.func115,Tryz.ntmps115;go_wp2_with fail;go_ret;exact Told.no a.o d.o
       ·have A:decide (0≤t)=false:=by simp;omega
        have a:Hid (¬ (Pr.mk m r b t).may):=λh=>by unfold Pr.may at h;simp only at h;omega
        have i:decide (0≤m)=true:=by simp;omega
        have k:decide (m<50)=true:=by simp;omega
        have n:decide (0≤r)=true:=by simp;omega
        have s:decide (r≤15)=true:=by simp;omega
        have x:decide (0≤b)=true:=by simp;omega
        have z:decide (b≤8796093022207)=true:=by simp;omega
        clear c f g j l p u;go_enter Tryz.func115,Tryz.ntmps115;go_wp2_with fail;go_ret;exact Told.no a.o d.o
      ·have z:decide (b≤8796093022207)=false:=by simp;omega
       have a:Hid (¬ (Pr.mk m r b t).may):=λh=>by unfold Pr.may at h;simp only at h;omega
       have i:decide (0≤m)=true:=by simp;omega
       have k:decide (m<50)=true:=by simp;omega
       have n:decide (0≤r)=true:=by simp;omega
       have s:decide (r≤15)=true:=by simp;omega
       have x:decide (0≤b)=true:=by simp;omega
       clear c f g j l p;go_enter Tryz.func115,Tryz.ntmps115;go_wp2_with fail;go_ret;exact Told.no a.o d.o
     ·have x:decide (0≤b)=false:=by simp;omega
      have a:Hid (¬ (Pr.mk m r b t).may):=λh=>by unfold Pr.may at h;simp only at h;omega
      have i:decide (0≤m)=true:=by simp;omega
      have k:decide (m<50)=true:=by simp;omega
      have n:decide (0≤r)=true:=by simp;omega
      have s:decide (r≤15)=true:=by simp;omega
      clear c f g j l;go_enter Tryz.func115,Tryz.ntmps115;go_wp2_with fail;go_ret;exact Told.no a.o d.o
    ·have s:decide (r≤15)=false:=by simp;omega
     have a:Hid (¬ (Pr.mk m r b t).may):=λh=>by unfold Pr.may at h;simp only at h;omega
     have i:decide (0≤m)=true:=by simp;omega
     have k:decide (m<50)=true:=by simp;omega
     have n:decide (0≤r)=true:=by simp;omega
     clear c f g j;go_enter Tryz.func115,Tryz.ntmps115;go_wp2_with fail;go_ret;exact Told.no a.o d.o
   ·have n:decide (0≤r)=false:=by simp;omega
    have a:Hid (¬ (Pr.mk m r b t).may):=λh=>by unfold Pr.may at h;simp only at h;omega
    have i:decide (0≤m)=true:=by simp;omega
    have k:decide (m<50)=true:=by simp;omega
    clear c f g;go_enter Tryz.func115,Tryz.ntmps115;go_wp2_with fail;go_ret;exact Told.no a.o d.o
  ·have k:decide (m<50)=false:=by simp;omega
   have a:Hid (¬ (Pr.mk m r b t).may):=λh=>by unfold Pr.may at h;simp only at h;omega
   have i:decide (0≤m)=true:=by simp;omega
   clear c f;go_enter Tryz.func115,Tryz.ntmps115;go_wp2_with fail;go_ret;exact Told.no a.o d.o
 ·have i:decide (0≤m)=false:=by simp;omega
  have a:Hid (¬ (Pr.mk m r b t).may):=λh=>by unfold Pr.may at h;simp only at h;omega
  clear c;go_enter Tryz.func115,Tryz.ntmps115;go_wp2_with fail;go_ret;exact Told.no a.o d.o
end ora
namespace deb
open tar (Du du0 Came RowD Ld ErrPost TwoPost PairT GaveD)
open Go.RowKit
theorem krec:KdRec:=by
 intro w a len ac c t bp l ai ad;have hr:=l.row;have ab:=zh (pshare a len ac c t bp w hr l.most);have I:=zh hr;clear l hr ai ad;go_enter Tryz.func67,Tryz.ntmps67;go_wp2_with fail;refine ab.o.mono ?_;rintro e P ⟨s,f,rfl,hf,Y⟩;have m:=zh Y;clear Y;rcases hf with⟨C,hf,rfl⟩|⟨C,⟨S,N,hg⟩|⟨S,rfl,rfl⟩⟩
 ·have ap:(f != 0)=true:=by simpa using λh=>C (hf.ok.1 h)
  have HN:=zh C;have HF:=zh hf;clear hf C;go_wp2_with fail;go_ret3;exact⟨none,0,0,[],0,f,rfl,.inl ⟨HN.o,HF.o,rfl,rfl⟩,fresh_nil _ _,m.o⟩
 ·subst hg;have HT:=zh S;have ah:=share_bd S;rw[← N] at ah;have T:=zh N;have Q:=zh C;have E:=zh (I.o.below m.o);have g:=zh E.o.1;have ag:len≤8:=by have:=C.1;have:=g.o;omega
  clear S N C;go_wp2_with fail;go_loopw [11,12,29] (λu v x wr=>∃(k:Nat)(V:Value),k≤len∧x=zI (k:Int)∧v=zI (max 0 (s-sumK c k))∧V=u∧Ld 42 wr P.heap.size V (recK c s k)∧zB P wr) (λ_ _ x _=>len-(intOf x).toNat)
  case atStart=>exact⟨0,_,Nat.zero_le _,rfl,by show _=Value.int .i64 (max 0 (s-0));rw[show max 0 (s-0)=s by omega],rfl,tar.Ld.zero _ _ _,zb⟩
  case round=>
   obtain⟨k,V,hk,rfl,rfl,hV,hu,X⟩:=hrel;subst hV;have G:=zh X;have HU:=zh hu;have O:=sumK_bd Q.o k (by rw[g.o];exact hk);by_cases L:k<len
   ·have af:decide ((k:Int)<(len:Int))=true:=by simp;omega
    obtain⟨b,D,rfl,a0,hc⟩:=E.o.at (by omega);have c0:wr.cell? ⟨b,D+k*2,none⟩=some (zI (c.getD k du0).a):=(X.cell (p:=⟨b,D+k*2,none⟩) a0).trans (hc k L).1;have c1:wr.cell? ⟨b,D+k*2+1,none⟩=some (zI (c.getD k du0).b):=(X.cell (p:=⟨b,D+k*2+1,none⟩) a0).trans (hc k L).2;have ho:=Q.o.2 k (by rw[g.o];exact L);have aq:=ho.1.1;have ar:=ho.1.2;have HN:=zh (sumK_next c k).symm;have HY:Hid (0<left (c.getD k du0).a (sumK c k+(c.getD k du0).a) s→recK c s (k+1)=recK c s k++[⟨left (c.getD k du0).a (sumK c k+(c.getD k du0).a) s,(c.getD k du0).b⟩]):=recK_yes c s k;have HZ:Hid (¬ 0<left (c.getD k du0).a (sumK c k+(c.getD k du0).a) s→recK c s (k+1)=recK c s k):=recK_no c s k;have ak:(recK c s k).length≤1000000:=by have:=recK_len c s k;omega
    clear hc X hu ho;generalize recK c s k=Z at *;generalize M:sumK c k=q at *;generalize (c.getD k du0).a=x at *;generalize (c.getD k du0).b=y at *;have am:=zye wr #[zI x,zI y] 42;generalize hR:max 0 (s-q)=R at *;have an:0≤R:=by omega
    have ao:R≤100000000:=by omega
    have al:=tar.run_min R x _ rfl;generalize hp:min R x=p at *;have au:0≤p:=by omega
    have av:p≤x:=by omega
    have aw:p≤R:=by omega
    by_cases B:0<x-p
    ·
     have H:Hid (R-p=max 0 (s-sumK c (k+1))):=by show _=_;rw[← HN.o];omega
     have ae:decide (0<x-p)=true:=decide_eq_true B;have A:left x (q+x) s=x-p:=by unfold left;omega
     rw[A] at HY;have K:Hid (recK c s (k+1)=Z++[⟨x-p,y⟩]):=HY.o B;clear A;clear M hR hp O;go_wp2_with refine zl ?_;intro z i;have r:=zyb i;have j:zB wr z:=i.bel _ _ zc (zb.alloc zc _);have n:=shB G j;have J:=zh (HU.o.next j);have d0:=zy0 r;have d1:=zy1 r;clear i j c0 c1;have F:=zyf n (.cells #[zI (x-p),zI y] 42);have U:Hid (Ld 42 (z.alloc (.cells #[zI (x-p),zI y] 42)) P.heap.size V Z):=J.o.alloc _;have a8:Hid ((z.alloc (.cells #[zI (x-p),zI y] 42)).cell? ⟨z.heap.size,0,none⟩=some (zI (x-p))∧(z.alloc (.cells #[zI (x-p),zI y] 42)).cell? ⟨z.heap.size,1,none⟩=some (zI y)):=⟨(Blk.new z _ _).cell 0,(Blk.new z _ _).cell 1⟩
     go_wp2_with (first
      |(at_builtin;refine tar.wp_pair debtT rfl _ _ rfl P.heap.size (z.heap.size) V Z ⟨x-p,y⟩ rfl rfl U.o a8.o ak F.o.size ?_)
      | fail)
     intro v3 w3 h3 a2;have a6:Hid (zB P w3):=tar.own_bel U.o a2 F.o zc F.o.size;have H3:=zh h3;clear h3 a2 d0 d1;go_wp2_with fail;go_roundw
     case rel=>exact⟨k+1,v3,by omega,by go_num,by rw[← H.o],by first|rfl|trivial,by rw[K.o];exact H3.o,a6.o⟩
     case measure=>simp[intOf];omega
    ·
     have H:Hid (R-p=max 0 (s-sumK c (k+1))):=by show _=_;rw[← HN.o];omega
     have ae:decide (0<x-p)=false:=decide_eq_false B;have A:¬ 0<left x (q+x) s:=by unfold left;omega
     have K:Hid (recK c s (k+1)=Z):=HZ.o A;clear A;clear M hR hp O;go_wp2_with refine zl ?_;intro z i;have r:=zyb i;have j:zB wr z:=i.bel _ _ zc (zb.alloc zc _);have n:=shB G j;have J:=zh (HU.o.next j);have d0:=zy0 r;have d1:=zy1 r;clear i j c0 c1;go_wp2_with fail;go_roundw
     case rel=>exact⟨k+1,V,by omega,by go_num,by rw[← H.o],by first|rfl|trivial,by rw[K.o];exact J.o,n.o⟩
     case measure=>simp[intOf];omega
   ·obtain rfl:k=len:=by omega
    have af:decide ((k:Int)<(k:Int))=false:=by simp
    have HV:Hid (sumK c k=sumD c):=by have:=sumK_all c;rw[g.o] at this;exact this
    have aa:Hid (recK c s k=recK c (t*bp/10000) c.length):=by show _=_;rw[g.o,T.o]
    have a4:Mays (recK c s k):=⟨Nat.le_trans (recK_len c s k) ag,fits_mem λd hd=>(recK_ok Q.o s k (by rw[g.o];exact zc) d hd).1⟩
    obtain⟨a3,W,aj,a1⟩:=ld_fresh hu a4;subst aj;have a9:=zh (a1.low m.o.size);have a7:=zh (m.o.trans (G.o.mono m.o.size));have HP:Hid (s-max 0 (s-sumK c k)=min (t*bp/10000) (sumD c)):=by show _=_;rw[← T.o,← HV.o];omega
    clear X hu a4 a1;generalize (recK c s k).length=a5 at *;generalize recK c s k=Z at *;generalize hq:max 0 (s-sumK c k)=q at *;have ax:0≤q:=by omega
    have M:q≤s:=by omega
    clear hq O;go_wp2_with fail;go_ret3;exact⟨a3,a5,W,Z,s-q,0,rfl,.inr (.inr ⟨Q.o,HT.o,rfl,aa.o,HP.o⟩),a9.o,a7.o⟩
 ·have Q:=zh C;have HT:=zh S;clear S C;go_wp2_with fail;go_ret3;exact⟨none,0,0,[],0,2,rfl,.inr (.inl ⟨Q.o,HT.o,rfl,rfl,rfl⟩),fresh_nil _ _,m.o⟩
end deb
end Go.Proofs.YtoepgdhiepedeaaGreatDoor
