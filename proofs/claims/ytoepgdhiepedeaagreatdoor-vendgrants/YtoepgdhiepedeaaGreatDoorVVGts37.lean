import Derived.Test.YtoepgdhiepedeaaGreatDoorVVGts30
import Derived.Test.YtoepgdhiepedeaaGreatDoorVVGts31
set_option linter.unusedVariables false
set_option linter.unusedSimpArgs false
set_option maxHeartbeats 4000000
set_option maxRecDepth 100000
namespace Go.Proofs.YtoepgdhiepedeaaGreatDoor
namespace disk
open Go.RowKit cell
theorem appended(a:Option Addr)(n cap:Nat)(c:List Int)(a2:Option Addr)(m cap2:Nat)(r:List Int)(w:World)(h:RowU w a n c)(hw:∀x∈c,0≤x∧x<4294967296)(h2:RowU w a2 m r):
  Calls Tryz.prog 58 #[.slice a n cap,.slice a2 m cap2] w λe w'=>AppPost w c r e w':=by
 have J:=h.1;have A:=h2.1;by_cases z:1≤m∧m≤64
 ·have HM:Hid (∀W,zC 47 #[zI (m:Int),zI 1,zI 64] W λe w'=>e=.returned (.bool true)∧w'=W):=λW=>in_yes _ _ _ W (by omega) (by omega);have a7:Hid (zC 81 #[.slice a n cap] w λe w'=>RepPost w c e w'):=replayed a n cap c w h hw;obtain⟨b,o,rfl,lb,hc⟩:=h2.at (by omega);have a0:Hid (∀W,zB w W→∀j,j<m→W.cell? ⟨b,o+j,none⟩=some (.int .u32 (r.getD j 0))):=λW hB j hj=>(hB.cell (p:=⟨b,o+j,none⟩) lb).trans (hc j hj);have C:Hid (RMay r):=⟨by omega,by omega⟩
  have l:Hid (c.length=n∧r.length=m):=⟨J,A⟩
  obtain⟨ac,ad⟩:=z;clear h hw hc lb J A h2;go_enter Tryz.func58,Tryz.ntmps58;go_wp2_with fail;refine(HM.o _).mono ?_;rintro e Y ⟨rfl,hq⟩;subst Y;go_wp2_with fail;refine a7.o.mono ?_;rintro e Y ⟨V0,sl,ah,x,f,rfl,-,-,D,S⟩;have G:Hid (zB w Y):=S;clear S;by_cases hf:f=0
  ·obtain⟨hmy,hl0,hx⟩:May c∧lenAt c (repD c).2=0∧x=((repD c).2:Int):=by
    rcases D with⟨_,_,_,e⟩|⟨_,_,_,_,e⟩|⟨T,q2,_,q4,_⟩
    ·rw[hf] at e;exact absurd e (by decide)
    ·rw[hf] at e;exact absurd e (by decide)
    ·exact⟨T,q2,q4⟩
   have a5:Hid ((repD c).2≤n):=by show _≤_;rw[← l.o.1];exact rep_bound c
   have a1:Hid (n≤(repD c).2+m→AppIs c r [] 16):=λhh=> .inr (.inr (.inr (.inl ⟨C.o,hmy,hl0,by rw[l.o.1,l.o.2];exact hh,rfl,rfl⟩)));have a4:Hid ((repD c).2+m<n→AppIs c r (appW c (repD c).2 r) 0):=λhh=> .inr (.inr (.inr (.inr ⟨C.o,hmy,hl0,by rw[l.o.1,l.o.2];exact hh,rfl,rfl⟩)));have ae:n≤2048:=by have:=hmy.2;rw[l.o.1] at this;exact this
   subst hf;subst hx;clear D hmy hl0;generalize (repD c).2=p at *;have ag:=a5.o;by_cases ab:(n:Int)≤(p:Int)+(m:Int)
   ·have F:Hid (AppIs c r [] 16):=a1.o (by omega);go_wp2_with fail;go_ret2;exact⟨zS,[],16,rfl,Lw.zero _ _,F.o,G.o⟩
   ·have F:Hid (AppIs c r (appW c p r) 0):=a4.o (by omega);go_wp2_with fail;go_loopw [10,11] (λaa M wr=>∃(k:Nat)(V:Value),k≤m∧V=aa∧M=zI (k:Int)∧Lw wr w.heap.size V (putW p r k)∧zB w wr) (λ_ M _=>m-(intOf M).toNat)
    case atStart=>exact⟨0,_,Nat.zero_le _,rfl,rfl,Lw.zero _ _,G.o⟩
    case round=>
     obtain⟨k,V,hk,hV,rfl,K,i⟩:=hrel;subst hV;have a3:Hid (Lw wr w.heap.size V (putW p r k)):=K;have N:Hid (zB w wr):=i;have L:(putW p r k).length≤1000000:=by rw[put_len];omega
     have g:Hid (∀o,Lw (wr.alloc o) w.heap.size V (putW p r k)):=λo=>K.alloc o;have B:Hid (∀o,zB w (wr.alloc o)):=λo=>i.alloc i.size o;have d:Hid (∀o,w.heap.size≤(wr.alloc o).heap.size):=λo=>(i.alloc i.size o).size;clear K i;by_cases a8:k<m
     ·have k2:=a0.o wr N.o k a8;have a6:Hid (putW p r k++[⟨(p:Int)+(k:Int)+1,r.getD k 0⟩]=putW p r (k+1)):=put_next p k r;generalize r.getD k 0=u at *;go_wp2_with (first|(refine wp_write rfl _ _ rfl w.heap.size wr.heap.size V (putW p r k) ⟨(p:Int)+(k:Int)+1,u⟩ rfl rfl (g.o _) ⟨(Blk.new wr _ _).cell 0,(Blk.new wr _ _).cell 1⟩ L (d.o _) ?_;intro U E Q t;have H:Hid (zB w E):=own_bel (g.o _) t (B.o _) zc (d.o _);have H3:Hid (Lw E w.heap.size U (putW p r (k+1))):=(by rw[← a6.o];exact Q);clear Q t)|fail)
      go_roundw
      case rel=>exact⟨k+1,U,by omega,rfl,by go_num,H3.o,H.o⟩
      case measure=>simp[intOf];omega
     ·obtain rfl:k=m:=by omega
      by_cases hz:(p:Int)+(k:Int)+1<(n:Int)
      ·have HQ:Hid (putW p r k++[⟨(p:Int)+(k:Int)+1,0⟩]++[⟨(p:Int),(k:Int)⟩]=appW c p r):=by
        have q:=app_yes (c:=c) (p:=p) (r:=r) (by rw[l.o.1,l.o.2];omega);rw[l.o.2] at q;exact q
       have a9:(putW p r k++[(⟨(p:Int)+(k:Int)+1,0⟩:Wr)]).length≤1000000:=by rw[List.length_append,put_len];simp;omega
       go_wp2_with (first|(refine wp_write rfl _ _ rfl w.heap.size wr.heap.size V (putW p r k) ⟨(p:Int)+(k:Int)+1,0⟩ rfl rfl (g.o _) ⟨(Blk.new wr _ _).cell 0,(Blk.new wr _ _).cell 1⟩ L (d.o _) ?_;intro U E Q t;have s:=own_bel (g.o _) t (B.o _) zc (d.o _);have P:Hid (∀o,Lw (E.alloc o) w.heap.size U (putW p r k++[(⟨(p:Int)+(k:Int)+1,0⟩:Wr)])):=(λo=>Q.alloc o);have H:Hid (∀o,zB w (E.alloc o)):=(λo=>s.alloc s.size o);have O:Hid (∀o,w.heap.size≤(E.alloc o).heap.size):=(λo=>(s.alloc s.size o).size);clear Q t s g B d a3 N)|(refine wp_write rfl _ _ rfl w.heap.size E.heap.size U (putW p r k++[(⟨(p:Int)+(k:Int)+1,0⟩:Wr)]) ⟨(p:Int),(k:Int)⟩ rfl rfl (P.o _) ⟨(Blk.new E _ _).cell 0,(Blk.new E _ _).cell 1⟩ a9 (O.o _) ?_;intro X Z R y;have I:Hid (zB w Z):=own_bel (P.o _) y (H.o _) zc (O.o _);have H4:Hid (Lw Z w.heap.size X (appW c p r)):=(by rw[← HQ.o];exact R);clear R y)|fail)
       go_ret2;exact⟨X,_,0,rfl,H4.o,F.o,I.o⟩
      ·have HQ:Hid (putW p r k++[⟨(p:Int),(k:Int)⟩]=appW c p r):=by
        have q:=app_no (c:=c) (p:=p) (r:=r) (by rw[l.o.1,l.o.2];omega);rw[l.o.2] at q;exact q
       go_wp2_with (first|(refine wp_write rfl _ _ rfl w.heap.size wr.heap.size V (putW p r k) ⟨(p:Int),(k:Int)⟩ rfl rfl (g.o _) ⟨(Blk.new wr _ _).cell 0,(Blk.new wr _ _).cell 1⟩ L (d.o _) ?_;intro X Z R y;have I:Hid (zB w Z):=own_bel (g.o _) y (B.o _) zc (d.o _);have H4:Hid (Lw Z w.heap.size X (appW c p r)):=(by rw[← HQ.o];exact R);clear R y)|fail)
       go_ret2;exact⟨X,_,0,rfl,H4.o,F.o,I.o⟩
  ·have F:Hid (AppIs c r [] f):=by
    rcases D with⟨T,_,_,rfl⟩|⟨T,q2,_,_,rfl⟩|⟨_,_,_,_,e⟩
    ·exact .inr (.inl ⟨C.o,T,rfl,rfl⟩)
    ·exact .inr (.inr (.inl ⟨C.o,T,q2,rfl,rfl⟩))
    ·exact absurd e hf
   have af:(f != 0)=true:=by simpa using hf
   clear D hf;go_wp2_with fail;go_ret2;exact⟨zS,[],f,rfl,Lw.zero _ _,F.o,G.o⟩
 ·have HM:Hid (∀W,zC 47 #[zI (m:Int),zI 1,zI 64] W λe w'=>e=.returned (.bool false)∧w'=W):=λW=>in_no _ _ _ W (by omega);have F:Hid (AppIs c r [] 1):=.inl ⟨λh=>z ⟨by rw[← A];exact h.1,by rw[← A];exact h.2⟩,rfl,rfl⟩;clear h hw h2 J A z;go_enter Tryz.func58,Tryz.ntmps58;go_wp2_with fail;refine(HM.o _).mono ?_;rintro e Y ⟨rfl,hq⟩;subst Y;go_wp2_with fail;go_ret2;exact⟨zS,[],1,rfl,Lw.zero _ _,F.o,zb⟩
end disk
namespace vnd
open disk (RepIs AppIs RepPost AppPost Lr Recs Sli sl0)
open book (Ev ev0 EMay evL evOf EncIs DecIs Cm cm0 So so0 BookIs BookPost Sees ECame RowE FirstAt NoneAt Tells EncPost DecPost)
open acc (Ac Tm Bi SellIs GrantIs RekeyIs OweIs)
open ora (Pr IssueIs)
open cell (Wr RowU RowW Lw Ws)
open rcp (Rc rc0)
open token (Tok fmtL)
open Go.RowKit
def WrPost(w:World)(R:List Wr→Int→Prop)(e:Ending)(w':World):Prop:=∃V ls f,e=.returned (.tuple #[V,zI f])∧R ls f∧Lw w' w.heap.size V ls∧zB w w'
theorem lw_low{w:World}{base base':Nat}{v:Value}{l:List Wr}(h:Lw w base v l)(hb:base'≤base):Lw w base' v l:=by
 refine⟨h.1,?_⟩;rcases h.2 with d|⟨g,a,b,e,c,rest⟩
 ·exact .inl d
 ·exact .inr ⟨g,a,b,e,Nat.le_trans hb c,rest⟩
theorem found_first{xs:List book.Cu}{bk:List Cm}{me x:Int}(hl:xs.length=bk.length)(hn:∀i,i<xs.length→book.Nums (xs.getD i book.cu0) (bk.getD i cm0).a)(h:book.FoundIs xs me x):(x=-1∧NoneAt bk me)∨(∃k:Nat,x=(k:Int)∧FirstAt bk me k∧k<xs.length):=by
 rcases h with⟨k,b,d,e,f⟩|⟨b,d⟩
 ·refine .inr ⟨k,f,⟨by rw[← hl];exact b,by rw[← (hn k b).1];exact d,λj c=>by rw[← (hn j (by omega)).1];exact e j c⟩,b⟩
 ·exact .inl ⟨d,λj c=>by rw[← (hn j (by rw[hl];exact c)).1];exact b j (by rw[hl];exact c)⟩
end vnd
namespace disk
open Go.RowKit cell
set_option maxRecDepth 100000
theorem lr_cells{T : TypeId}{w : World}{base : Nat}{v : Value}{l : List Sli}(h : Lr T w base v l): v.cells = #[v] := by
 obtain⟨a, b, rfl⟩ := h.len
 rfl
theorem lr_one{T : TypeId}{w : World}{base : Nat}{v : Value}{l : List Sli}(h : Lr T w base v l): v.oneCell' = true := by
 obtain⟨a, b, rfl⟩ := h.len
 rfl
set_option maxHeartbeats 4000000 in
theorem put_record(w : World)(L : Nat)(V : Value)(sl : List Sli)(zs : List (List Int))(R : List Int)(b off m : Nat)(W : World)(h : Box w L V sl zs W)(hr : RowU W (some ⟨b, off, none⟩) m R)(h1 : 1 ≤ m)(h2 : m ≤ 64)(hs : sl.length ≤ 1000000):
  Calls Tryz.prog 148 #[.slice (some ⟨b, off, none⟩) m m, .pointer (some ⟨L, 0, none⟩)] W λe w' => e=.returned (.tuple #[]) ∧ ∃V' sl', Box w L V' sl' (zs ++ [R]) w' := by
 have HC : Hid (zC 149 #[.slice (some ⟨b, off, none⟩) m m] W.drew λe w' => GaveU W.drew R e w') := clone_any _ m m R _ hr (by omega)
 have HBU0 : Hid (Box w L V sl zs W.drew) := h.next zb.drew
 have HB0 := zh HBU0.out
 have HRL := zh hr.1
 have HM1 := zh h1
 have HM6 : Hid (m ≤ 100000) := Nat.le_trans h2 (by decide)
 have HS6 := zh hs
 clear hr h h1 h2 hs
 go_enter Tryz.func148, Tryz.ntmps148
 refine wp_region_held_drew (S := λv => True) (by kernel_rfl) trivial (λhHeld => ?_)
 generalize W.drew = U0 at *
 refine zt' 1 (.slice (some ⟨b, off, none⟩) m m) ?_
 refine wpAnyH_ready (rs := [0, 2]) (by kernel_rfl) (by simp) (AllReadyH.cons rfl (λK hK => ?_) (AllReadyH.cons rfl (λK hK => ?_) AllReadyH.nil))
 ·rw[if_pos (by rfl)]
  have cU0 := HBU0.out.blk.cell 0
  refine wp_runOp (v := V) (w' := U0) 3 rfl (by clear hK; go_simp) ?_
  refine hK.out _ _ trivial (λhHeld => ?_)
  clear hK cU0
  simp only[Act.put, zqa, zqb, zqc]
  refine zo 2 λK hK => ?_
  rw[if_pos (by rfl)]
  refine wp_callOp 5 rfl (by clear hK; go_simp) (HC.out) ?_
  rintro e U1 ⟨v5, rfl, hws, hb⟩
  obtain⟨a5, cap5, rfl, hrow, hnl, hcp⟩ := Ws.row hws
  rw[HRL.out] at hrow hcp ⊢
  obtain⟨g, o5, rfl, hg5, hc5⟩ := hrow.at HM1.out
  have HCP := zh hcp
  have HG : Hid (U0.heap.size ≤ g) := (World.ownsRow.lt hws g rfl).1
  have HRU1 : Hid (RowU U1 (some ⟨g, o5, none⟩) m R ∧ g<U1.heap.size) := ⟨hrow, hg5⟩
  have HBU1 := zh (HBU0.out.next hb)
  refine⟨_, rfl, hK.out _ _ trivial (λhHeld => ?_)⟩
  clear hK hws hb hnl hcp hc5 hg5 hrow
  simp only[Act.put, zqa, zqb, zqc]
  have HNE : Hid (some g≠V.ownBlock) := λe => by have := (World.ownsRow.lt HB0.out.row g e.symm).2; have := HG.out; omega
  have HGL : Hid (L + 1 ≤ g) := by have := HB0.out.blk.lt; have := HG.out; show _ ≤ _; omega
  refine zo 3 λK hK => ?_
  rw[if_pos (by rfl)]
  have hb : zB U1 (U1.alloc (.cells #[.slice (some ⟨g, o5, none⟩) m cap5] 25)) := zb.alloc zc _
  have HBU2 := zh (HBU1.out.next hb)
  have HRU2 : Hid (RowU (U1.alloc (.cells #[.slice (some ⟨g, o5, none⟩) m cap5] 25)) (some ⟨g, o5, none⟩) m R ∧ g<(U1.alloc (.cells #[.slice (some ⟨g, o5, none⟩) m cap5] 25)).heap.size) := ⟨HRU1.out.1.below hb, Nat.lt_of_lt_of_le HRU1.out.2 hb.size⟩
  have HX : Hid ((U1.alloc (.cells #[.slice (some ⟨g, o5, none⟩) m cap5] 25)).cell? ⟨U1.heap.size, 0, none⟩ = some (.slice (some ⟨g, o5, none⟩) m cap5)) := (Blk.new _ _ _).cell 0
  clear hb
  refine wp_runOp (v :=.slice (some ⟨U1.heap.size, 0, none⟩) 1 1) (w' := (U1.alloc (.cells #[.slice (some ⟨g, o5, none⟩) m cap5] 25))) 6 rfl (by clear hK; go_simp) ?_
  refine hK.out _ _ trivial (λhHeld => ?_)
  clear hK
  simp only[Act.put, zqa, zqb, zqc]
  generalize U1.heap.size = G at *
  generalize (U1.alloc (.cells #[.slice (some ⟨g, o5, none⟩) m cap5] 25)) = U2 at *
  refine zo 4 λK hK => ?_
  refine step_sli sliT rfl _ _ rfl (L + 1) G V sl ⟨some ⟨g, o5, none⟩, m, cap5⟩ rfl rfl HBU2.out.row HX.out HS6.out (HBU2.out.blk.lt) ?_
  intro v7 W3 h3 hg3 ho3
  refine hK.out _ _ trivial (λhHeld => ?_)
  clear hK
  simp only[Act.put, zqa, zqb, zqc]
  refine zo 5 λK hK => ?_
  rw[if_pos (by rfl)]
  refine wp_letOne 140 _ _ rfl L rfl v7 rfl (lr_cells h3) (by kernel_rfl) (lr_one h3) V 140 (HBU2.out.kept hg3) rfl ?_
  intro W4 hU
  have HF : Hid (Box w L v7 (sl ++ [⟨some ⟨g, o5, none⟩, m, cap5⟩]) (zs ++ [R]) W4) := box_step HBU2.out rfl HRU2.out.2 HNE.out HGL.out HRU2.out.1 ⟨HM6.out, HCP.out, λh => by cases h⟩ h3 hg3 ho3 hU
  refine hK.out _ _ trivial (λhHeld => ?_)
  clear hK hU h3 hg3 ho3
  refine wpAnyH_done (by kernel_rfl) ?_ _
  clear hHeld
  go_wp2_with fail
  go_end0
  exact⟨rfl, _, _, HF.out⟩
 ·rw[if_pos (by rfl)]
  refine wp_callOp 5 rfl (by clear hK; go_simp) (HC.out) ?_
  rintro e U1 ⟨v5, rfl, hws, hb⟩
  obtain⟨a5, cap5, rfl, hrow, hnl, hcp⟩ := Ws.row hws
  rw[HRL.out] at hrow hcp ⊢
  obtain⟨g, o5, rfl, hg5, hc5⟩ := hrow.at HM1.out
  have HCP := zh hcp
  have HG : Hid (U0.heap.size ≤ g) := (World.ownsRow.lt hws g rfl).1
  have HRU1 : Hid (RowU U1 (some ⟨g, o5, none⟩) m R ∧ g<U1.heap.size) := ⟨hrow, hg5⟩
  have HBU1 := zh (HBU0.out.next hb)
  refine⟨_, rfl, hK.out _ _ trivial (λhHeld => ?_)⟩
  clear hK hws hb hnl hcp hc5 hg5 hrow
  simp only[Act.put, zqa, zqb, zqc]
  have HNE : Hid (some g≠V.ownBlock) := λe => by have := (World.ownsRow.lt HB0.out.row g e.symm).2; have := HG.out; omega
  have HGL : Hid (L + 1 ≤ g) := by have := HB0.out.blk.lt; have := HG.out; show _ ≤ _; omega
  refine wpAnyH_ready (rs := [0, 3]) (by kernel_rfl) (by simp) (AllReadyH.cons rfl (λK hK => ?_) (AllReadyH.cons rfl (λK hK => ?_) AllReadyH.nil))
  ·rw[if_pos (by rfl)]
   have cU1 := HBU1.out.blk.cell 0
   refine wp_runOp (v := V) (w' := U1) 3 rfl (by clear hK; go_simp) ?_
   refine hK.out _ _ trivial (λhHeld => ?_)
   clear hK cU1
   simp only[Act.put, zqa, zqb, zqc]
   refine zo 3 λK hK => ?_
   rw[if_pos (by rfl)]
   have hb : zB U1 (U1.alloc (.cells #[.slice (some ⟨g, o5, none⟩) m cap5] 25)) := zb.alloc zc _
   have HBU2 := zh (HBU1.out.next hb)
   have HRU2 : Hid (RowU (U1.alloc (.cells #[.slice (some ⟨g, o5, none⟩) m cap5] 25)) (some ⟨g, o5, none⟩) m R ∧ g<(U1.alloc (.cells #[.slice (some ⟨g, o5, none⟩) m cap5] 25)).heap.size) := ⟨HRU1.out.1.below hb, Nat.lt_of_lt_of_le HRU1.out.2 hb.size⟩
   have HX : Hid ((U1.alloc (.cells #[.slice (some ⟨g, o5, none⟩) m cap5] 25)).cell? ⟨U1.heap.size, 0, none⟩ = some (.slice (some ⟨g, o5, none⟩) m cap5)) := (Blk.new _ _ _).cell 0
   clear hb
   refine wp_runOp (v :=.slice (some ⟨U1.heap.size, 0, none⟩) 1 1) (w' := (U1.alloc (.cells #[.slice (some ⟨g, o5, none⟩) m cap5] 25))) 6 rfl (by clear hK; go_simp) ?_
   refine hK.out _ _ trivial (λhHeld => ?_)
   clear hK
   simp only[Act.put, zqa, zqb, zqc]
   generalize U1.heap.size = G at *
   generalize (U1.alloc (.cells #[.slice (some ⟨g, o5, none⟩) m cap5] 25)) = U2 at *
   refine zo 4 λK hK => ?_
   refine step_sli sliT rfl _ _ rfl (L + 1) G V sl ⟨some ⟨g, o5, none⟩, m, cap5⟩ rfl rfl HBU2.out.row HX.out HS6.out (HBU2.out.blk.lt) ?_
   intro v7 W3 h3 hg3 ho3
   refine hK.out _ _ trivial (λhHeld => ?_)
   clear hK
   simp only[Act.put, zqa, zqb, zqc]
   refine zo 5 λK hK => ?_
   rw[if_pos (by rfl)]
   refine wp_letOne 140 _ _ rfl L rfl v7 rfl (lr_cells h3) (by kernel_rfl) (lr_one h3) V 140 (HBU2.out.kept hg3) rfl ?_
   intro W4 hU
   have HF : Hid (Box w L v7 (sl ++ [⟨some ⟨g, o5, none⟩, m, cap5⟩]) (zs ++ [R]) W4) := box_step HBU2.out rfl HRU2.out.2 HNE.out HGL.out HRU2.out.1 ⟨HM6.out, HCP.out, λh => by cases h⟩ h3 hg3 ho3 hU
   refine hK.out _ _ trivial (λhHeld => ?_)
   clear hK hU h3 hg3 ho3
   refine wpAnyH_done (by kernel_rfl) ?_ _
   clear hHeld
   go_wp2_with fail
   go_end0
   exact⟨rfl, _, _, HF.out⟩
  ·rw[if_pos (by rfl)]
   have hb : zB U1 (U1.alloc (.cells #[.slice (some ⟨g, o5, none⟩) m cap5] 25)) := zb.alloc zc _
   have HBU2 := zh (HBU1.out.next hb)
   have HRU2 : Hid (RowU (U1.alloc (.cells #[.slice (some ⟨g, o5, none⟩) m cap5] 25)) (some ⟨g, o5, none⟩) m R ∧ g<(U1.alloc (.cells #[.slice (some ⟨g, o5, none⟩) m cap5] 25)).heap.size) := ⟨HRU1.out.1.below hb, Nat.lt_of_lt_of_le HRU1.out.2 hb.size⟩
   have HX : Hid ((U1.alloc (.cells #[.slice (some ⟨g, o5, none⟩) m cap5] 25)).cell? ⟨U1.heap.size, 0, none⟩ = some (.slice (some ⟨g, o5, none⟩) m cap5)) := (Blk.new _ _ _).cell 0
   clear hb
   refine wp_runOp (v :=.slice (some ⟨U1.heap.size, 0, none⟩) 1 1) (w' := (U1.alloc (.cells #[.slice (some ⟨g, o5, none⟩) m cap5] 25))) 6 rfl (by clear hK; go_simp) ?_
   refine hK.out _ _ trivial (λhHeld => ?_)
   clear hK
   simp only[Act.put, zqa, zqb, zqc]
   generalize U1.heap.size = G at *
   generalize (U1.alloc (.cells #[.slice (some ⟨g, o5, none⟩) m cap5] 25)) = U2 at *
   refine zo 0 λK hK => ?_
   rw[if_pos (by rfl)]
   have cU2 := HBU2.out.blk.cell 0
   refine wp_runOp (v := V) (w' := U2) 3 rfl (by clear hK; go_simp) ?_
   refine hK.out _ _ trivial (λhHeld => ?_)
   clear hK cU2
   simp only[Act.put, zqa, zqb, zqc]
   refine zo 4 λK hK => ?_
   refine step_sli sliT rfl _ _ rfl (L + 1) G V sl ⟨some ⟨g, o5, none⟩, m, cap5⟩ rfl rfl HBU2.out.row HX.out HS6.out (HBU2.out.blk.lt) ?_
   intro v7 W3 h3 hg3 ho3
   refine hK.out _ _ trivial (λhHeld => ?_)
   clear hK
   simp only[Act.put, zqa, zqb, zqc]
   refine zo 5 λK hK => ?_
   rw[if_pos (by rfl)]
   refine wp_letOne 140 _ _ rfl L rfl v7 rfl (lr_cells h3) (by kernel_rfl) (lr_one h3) V 140 (HBU2.out.kept hg3) rfl ?_
   intro W4 hU
   have HF : Hid (Box w L v7 (sl ++ [⟨some ⟨g, o5, none⟩, m, cap5⟩]) (zs ++ [R]) W4) := box_step HBU2.out rfl HRU2.out.2 HNE.out HGL.out HRU2.out.1 ⟨HM6.out, HCP.out, λh => by cases h⟩ h3 hg3 ho3 hU
   refine hK.out _ _ trivial (λhHeld => ?_)
   clear hK hU h3 hg3 ho3
   refine wpAnyH_done (by kernel_rfl) ?_ _
   clear hHeld
   go_wp2_with fail
   go_end0
   exact⟨rfl, _, _, HF.out⟩
end disk
namespace vnd
open disk (RepIs AppIs)
open book (Ev ev0 EMay evL evOf EncIs DecIs Cm cm0 So so0 BookIs Sees ECame FirstAt NoneAt)
open acc (Ac Tm Bi TCame ACame)
open cell (Wr RowU)
open Go.RowKit
theorem puntag(kd me mo dr:Int)(F:Value)(l:Bi)(b:Ac)(p:Option Addr)(ln cp:Nat)(cl am:Int)(w:World)(h:(kd=4∧cl=2∧am=b.rv)∨(kd≠4∧cl=0∧am=l.un)):Calls Tryz.prog 39 #[.agg #[zI kd,zI me,zI mo,zI dr,F],.agg #[zI l.id,zI l.te,zI l.de,zI l.fe,zI l.pr,zI l.ch,zI l.un],.agg #[zI b.me,zI b.rv,zI b.nx,zI b.mo,zI b.bo,zI b.fr,.slice p ln cp]] w λe w'=>e=.returned (.agg #[zI cl,zI l.id,zI am,zI 0])∧zB w w':=by
 obtain⟨D,u,f,c,g,z,m,C⟩:=sh4 w #[zI kd,zI me,zI mo,zI dr,F] 61 #[zI l.id,zI l.te,zI l.de,zI l.fe,zI l.pr,zI l.ch,zI l.un] 33 #[zI b.me,zI b.rv,zI b.nx,zI b.mo,zI b.bo,zI b.fr,.slice p ln cp] 55 #[zI 0,zI 0,zI 0,zI 0] 73;go_enter Tryz.func39,Tryz.ntmps39;go_upto_region 1 with fail
 rw[u.o];rcases h with⟨n,rfl,rfl⟩|⟨n,rfl,rfl⟩
 ·have B:(kd==4)=true:=by simpa using n
  clear n;have j:=zy0 f;have k:=zy0 c;have x:=zy1 g;go_wp2_with (first|refine zs ?_|refine zw ?_)
  intro A d;obtain⟨s,t,r⟩:=zk3 d f c g;have i:=zk d m;have a:=zyb d;have q:=d.size;clear d;clear j k x;go_wp2_with fail;exact zr (.agg #[zI 2,zI l.id,zI b.rv,zI 0]) (by simp[results,Tryz.results39,zy0 a,zy1 a,zy2 a,zy3 a,go_sem]) ⟨rfl,i.o⟩
 ·have B:(kd==4)=false:=by simpa using n
  clear n;have j:=zy0 f;have k:=zy0 c;have y:=zy6 c;go_wp2_with (first|refine zs ?_|refine zw ?_)
  intro A d;obtain⟨s,t,r⟩:=zk3 d f c g;have i:=zk d m;have a:=zyb d;have q:=d.size;clear d;clear j k y;go_wp2_with fail;exact zr (.agg #[zI 0,zI l.id,zI l.un,zI 0]) (by simp[results,Tryz.results39,scl4 a,go_sem]) ⟨rfl,i.o⟩
end vnd
end Go.Proofs.YtoepgdhiepedeaaGreatDoor
