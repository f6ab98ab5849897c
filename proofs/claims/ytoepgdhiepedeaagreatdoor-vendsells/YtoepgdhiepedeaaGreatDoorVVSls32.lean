import Derived.Test.YtoepgdhiepedeaaGreatDoorVVSls30
import Derived.Test.YtoepgdhiepedeaaGreatDoorVVSls31
set_option linter.unusedVariables false
set_option linter.unusedSimpArgs false
set_option maxHeartbeats 4000000
set_option maxRecDepth 100000
namespace Go.Proofs.YtoepgdhiepedeaaGreatDoor
namespace vnd
open disk (RepIs AppIs RepPost Lr Recs Sli sl0)
open book (Ev ev0 EMay evL evOf EncIs DecIs Cm cm0 So so0 BookIs BookPost Sees ECame RowE FirstAt NoneAt Tells DecPost)
open acc (Ac Tm Bi SellIs GrantIs RekeyIs OweIs)
open ora (Pr IssueIs)
open cell (Wr RowU)
open rcp (Rc rc0)
open token (Tok fmtL)
open Go.RowKit
theorem cell_one{w:World}{g o:Nat}{v u:Value}{T:TypeId}(hB:Blk w g #[v] T)(h:w.cell? ⟨g,o,none⟩=some u):o=0:=by
 rw[hB.cell o] at h
 match o,h with
 |0,_=>rfl
 |o+1,h=>simp at h
variable{p:Option Addr}{T T':TypeId}{v v':Value}{w W:World}{g:Nat}{n:Nat}
theorem rowC_one{xs:List book.Cu}(h:book.RowC w p n xs)(hB:Blk w g #[v] T)(hU:Upd w W g #[v'] T'):book.RowC W p n xs:=by
 refine⟨h.1,?_⟩;rcases h.2 with a|⟨b,f,rfl,q,c⟩
 ·exact .inl a
 ·rcases Nat.eq_zero_or_pos n with a|a
  ·exact .inl a
  ·have d:b≠g:=λe=>by
    subst e;have k:=c 0 0 a (by decide);have l:=c 0 1 a (by decide);have r:=cell_one hB (u:=zI (xs.getD 0 book.cu0).me) (by rw[k];rfl);have s:=cell_one hB (u:=zI (xs.getD 0 book.cu0).rv) (by rw[l];rfl);omega
   exact .inr ⟨b,f,rfl,by rw[hU.size];exact q,λi j m o=>by rw[hU.cell _ d rfl];exact c i j m o⟩
theorem rowS_one{l:List So}(h:book.RowS w p n l)(hB:Blk w g #[v] T)(hU:Upd w W g #[v'] T'):book.RowS W p n l:=by
 refine⟨h.1,?_⟩;rcases h.2 with a|⟨b,f,rfl,r,c⟩
 ·exact .inl a
 ·rcases Nat.eq_zero_or_pos n with a|a
  ·exact .inl a
  ·have d:b≠g:=λe=>by
    subst e;have k:=c 0 0 a (by decide);have m:=c 0 1 a (by decide);have s:=cell_one hB (u:=zI (l.getD 0 so0).id) (by rw[k];rfl);have t:=cell_one hB (u:=zI (l.getD 0 so0).cl) (by rw[m];rfl);omega
   exact .inr ⟨b,f,rfl,by rw[hU.size];exact r,λi j o q=>by rw[hU.cell _ d rfl];exact c i j o q⟩
theorem came_one{n cap:Nat}{l:List tar.Du}(h:tar.Came w p n cap l)(hB:Blk w g #[v] T)(hU:Upd w W g #[v'] T'):tar.Came W p n cap l:=
 acc.came_upd h hU λa x f e=>by
  obtain⟨b,j,i,m,d⟩:=h.row.at a;rw[i] at f;cases f;have c:=e;subst c;have k:=cell_one hB (d 0 a).1;have c:=cell_one hB (d 0 a).2;omega
theorem sees_one{xs:List book.Cu}{bk:List Cm}(h:Sees w p n xs bk)(hB:Blk w g #[v] T)(hU:Upd w W g #[v'] T'):Sees W p n xs bk:=
 ⟨rowC_one h.row hB hU,h.len,h.num,λi a=>came_one (h.ds i a) hB hU,λi a=>rowS_one (h.so i a) hB hU⟩
end vnd
namespace ora
open Go.RowKit
set_option maxRecDepth 100000
def IssuePostN(w : World)(l : List Pr)(m r b d : Int)(e : Ending)(w' : World): Prop :=
 ∃a' n' cap' ls x c, e=.returned (.tuple #[.agg #[.slice a' n' cap'], .int .i64 x, .int .i64 c]) ∧ RowP w' a' n' ls ∧ (a' = none → cap' = 0) ∧ n' ≤ cap' ∧ (∀y, a' = some y → w.heap.size ≤ y.block) ∧ IssueIs l m r b d ls x c ∧ zB w w'
set_option maxHeartbeats 4000000 in
theorem issued_new(a : Option Addr)(n cap : Nat)(l : List Pr)(m r b d : Int)(w : World)(hr : RowP w a n l):
  Calls Tryz.prog 26 #[.agg #[.slice a n cap], .int .i64 m, .int .i64 r, .int .i64 b, .int .i64 d] w λe w' => IssuePostN w l m r b d e w' := by
 have HB0 : Hid (Bi w ((w.alloc (.cells #[.slice a n cap] 28)).alloc (.cells #[.slice none 0 0] 28)) a n cap l) := ⟨(Bo.new hr).alloc _, Blk.new1 w _ _ _⟩
 have HL : Hid (l.length = n) := hr.1
 clear hr
 have c0 := HB0.out.bo.box.cell 0
 have HMY : Hid (∀W, RowP W a n l → zC 53 #[.agg #[.slice a n cap]] W λe w' => Told W (May l) e w') := λW h => omay_any a n cap l W h
 have HPM : Hid (∀W, zC 54 #[.agg #[.int .i64 m, .int .i64 r, .int .i64 b, .int .i64 d]] W λe w' => Told W (Pr.mk m r b d).may e w') := λW => pairMay_any m r b d W
 have HTG : Hid (∀W a, n ≤ 500 → RowP W a n l → zC 56 #[.agg #[.slice a n cap], .int .i64 m, .int .i64 r, .int .i64 b] W λe w' => TagPost W l m r b e w') := λW a hn h => tagged_any a n cap l m r b W h (by omega)
 have HCP : Hid (∀W a, n ≤ 500 → RowP W a n l → zC 55 #[.agg #[.slice a n cap]] W λe w' => GaveO W l e w') := λW a hn h => copy_any a n cap l W h hn
 go_enter Tryz.func26, Tryz.ntmps26
 go_wp2_with fail
 refine(HMY.out _ HB0.out.bo.row).mono ?_
 rintro e w1 ⟨rr, rfl, hrr, hb1⟩
 have HI : Hid (Bi w w1 a n cap l) := HB0.out.next hb1
 clear hb1 c0
 cases rr with
 |false =>
  have HF : Hid (IssueIs l m r b d [] 0 5) :=.inl ⟨(λh => by have := hrr.2 h; cases this), rfl, rfl, rfl⟩
  clear hrr
  have z0 := HI.out.out.cell 0
  have y0 := HI.out.out.free 0
  have HXX := HI.out.out.set 0 (.slice none 0 0)
  have R0 : Hid (_ = _) := HXX.cell 0
  have HB : Hid (zB w (w1.setCell ⟨w.heap.size + 1, 0, none⟩ (.slice none 0 0))) := bel_set HI.out.bo.bel _ _ _ (by omega)
  go_wp2_with fail
  exact bodyPost_ret (v :=.tuple #[.agg #[.slice none 0 0], .int .i64 0, .int .i64 5]) (by simp[results, Tryz.results26, R0.out, go_sem]) rfl ⟨none, 0, 0, [], 0, 5, rfl, RowP.nil _ _, λ_ => rfl, zc, (λy h => by cases h), HF.out, HB.out⟩
 |true =>
  have HM : Hid (May l) := hrr.1 rfl
  have hn : n ≤ 500 := by rw[← HL.out]; exact HM.out.few
  clear hrr
  have hN := Blk.new w1 #[.int .i64 m, .int .i64 r, .int .i64 b, .int .i64 d] 87
  have p0 := hN.cell 0
  have p1 := hN.cell 1
  have p2 := hN.cell 2
  have p3 := hN.cell 3
  have HP : Hid (Blk (w1.alloc (.cells #[.int .i64 m, .int .i64 r, .int .i64 b, .int .i64 d] 87)) w1.heap.size #[.int .i64 m, .int .i64 r, .int .i64 b, .int .i64 d] 87) := hN
  have HI1 : Hid (Bi w (w1.alloc (.cells #[.int .i64 m, .int .i64 r, .int .i64 b, .int .i64 d] 87)) a n cap l) := HI.out.alloc _
  clear hN
  go_wp2_with fail
  refine(HPM.out _).mono ?_
  rintro e w2 ⟨rr, rfl, hrr, hb2⟩
  have HI2 : Hid (Bi w w2 a n cap l) := HI1.out.next hb2
  have HP2 := shN HP hb2
  clear hb2 p0 p1 p2 p3
  generalize w1.heap.size = gp at *
  cases rr with
  |false =>
   have HF : Hid (IssueIs l m r b d [] 0 2) :=.inr (.inl ⟨HM.out, (λh => by have := hrr.2 h; cases this), rfl, rfl, rfl⟩)
   clear hrr
   have z0 := HI2.out.out.cell 0
   have y0 := HI2.out.out.free 0
   have HXX := HI2.out.out.set 0 (.slice none 0 0)
   have R0 : Hid (_ = _) := HXX.cell 0
   have HB : Hid (zB w (w2.setCell ⟨w.heap.size + 1, 0, none⟩ (.slice none 0 0))) := bel_set HI2.out.bo.bel _ _ _ (by omega)
   go_wp2_with fail
   exact bodyPost_ret (v :=.tuple #[.agg #[.slice none 0 0], .int .i64 0, .int .i64 2]) (by simp[results, Tryz.results26, R0.out, go_sem]) rfl ⟨none, 0, 0, [], 0, 2, rfl, RowP.nil _ _, λ_ => rfl, zc, (λy h => by cases h), HF.out, HB.out⟩
  |true =>
   have HPY : Hid ((Pr.mk m r b d).may) := hrr.1 rfl
   clear hrr
   have c0 := HI2.out.bo.box.cell 0
   go_wp2_with fail
   refine(HCP.out _ _ hn HI2.out.bo.row).mono ?_
   rintro e w3 ⟨v, rfl, hv, hb3⟩
   obtain⟨av, cv, rfl, hrv, hnv, hcv⟩ := hv.row
   have hln := HL.out
   rw[hln] at hrv hcv hv
   rw[hln]
   have HV3 : Hid (Pw (w3.alloc (.cells #[.slice av n cv] 28)) w2.heap.size (.slice av n cv) l) := hv.alloc _
   have HI3 : Hid (Bi w (w3.alloc (.cells #[.slice av n cv] 28)) a n cap l) := (HI2.out.next hb3).alloc _
   have HP3 : Hid (Blk (w3.alloc (.cells #[.slice av n cv] 28)) gp #[.int .i64 m, .int .i64 r, .int .i64 b, .int .i64 d] 87) := (HP2.out.next hb3).alloc _
   have HO3 : Hid (Blk (w3.alloc (.cells #[.slice av n cv] 28)) w3.heap.size #[.slice av n cv] 28) := Blk.new _ _ _
   have HNV : Hid ((av = none → cv = 0) ∧ n ≤ cv) := ⟨hnv, hcv⟩
   have HLT : Hid (gp<w2.heap.size ∧ w.heap.size + 2 ≤ w2.heap.size ∧ w2.heap.size ≤ w3.heap.size) := ⟨HP2.out.lt, HI2.out.out.lt, hb3.size⟩
   have HFAR : Hid (some w3.heap.size≠(Value.slice av n cv).ownBlock) := λe => by
    have := (World.ownsRow.lt hv _ e.symm).2
    omega
   clear hv hrv hnv hcv hb3 hln c0
   have c0 := HI3.out.bo.box.cell 0
   go_wp2_with fail
   refine(HTG.out _ _ hn HI3.out.bo.row).mono ?_
   rintro e w4 ⟨hb4, hor⟩
   have HI4 : Hid (Bi w w4 a n cap l) := HI3.out.next hb4
   have HV4 : Hid (Pw w4 w2.heap.size (.slice av n cv) l) := HV3.out.next hb4
   obtain⟨HP4, HO4⟩ := zn2 hb4 HP3 HO3
   clear hb4 c0
   have HNW : Hid (∀y, av = some y → w.heap.size ≤ y.block) := λy hy => by
    subst hy
    have := (World.ownsRow.lt HV4.out y.block rfl).1
    have := HLT.out
    omega
   generalize w3.heap.size = go at *
   generalize w2.heap.size = g2 at *
   have c0 := HI4.out.bo.box.cell 0
   have o0 := HO4.out.cell 0
   have z0 := HI4.out.out.cell 0
   have y0 := HI4.out.out.free 0
   rcases hor with⟨i, hi, rfl⟩|⟨hno, rfl⟩
   ·have hil : i<n := by rw[← HL.out]; exact hi.lt
    obtain⟨bl, off, rfl, lbl, hc⟩ := HI4.out.bo.row.at (by omega)
    obtain⟨f0, f1, f2, f3⟩ := hc i hil
    have HF : Hid (IssueIs l m r b d l (l.getD i pr0).t 0) :=.inr (.inr (.inl ⟨HM.out, HPY.out, ⟨i, hi, rfl⟩, rfl, rfl⟩))
    have hge : (0 : Int) ≤ (i : Int) := by omega
    have HXX := HI4.out.out.set 0 (.slice av n cv)
    have R0 : Hid ((w4.setCell ⟨w.heap.size + 1, 0, none⟩ (.slice av n cv)).drew.cell? ⟨w.heap.size + 1, 0, none⟩ = some (.slice av n cv)) := HXX.cell 0
    have HRV : Hid (RowP (w4.setCell ⟨w.heap.size + 1, 0, none⟩ (.slice av n cv)).drew av n l ∧ zB w (w4.setCell ⟨w.heap.size + 1, 0, none⟩ (.slice av n cv)).drew) := by
     obtain⟨av', cv', e1, e2, _, _⟩ := (HV4.out.put (w.heap.size + 1) 0 (.slice av n cv) (by have := HLT.out; omega)).row
     rw[HL.out] at e1 e2
     simp only[Value.slice.injEq] at e1
     obtain⟨rfl, _, rfl⟩ := e1
     exact⟨e2, (bel_set HI4.out.bo.bel _ _ _ (by omega)).drew⟩
    clear hc hi f0 f1 f2
    generalize (l.getD i pr0).t = pt at *
    go_wp2_with fail
    go_region
    all_goals go_wp2_with fail
    exact bodyPost_ret (v :=.tuple #[.agg #[.slice av n cv], .int .i64 pt, .int .i64 0]) (by simp[results, Tryz.results26, R0.out, go_sem]) rfl ⟨av, n, cv, l, pt, 0, rfl, HRV.out.1, HNV.out.1, HNV.out.2, HNW.out, HF.out, HRV.out.2⟩
   ·obtain⟨z, hz⟩ : ∃z : Int, z = -1 := ⟨_, rfl⟩
    have hz' : z<0 := by omega
    rw[← hz]
    clear hz
    by_cases h5 : n = 500
    ·have hq : ((n : Int)==500) = true := by simp; omega
     have HF : Hid (IssueIs l m r b d [] 0 16) :=.inr (.inr (.inr (.inl ⟨HM.out, HPY.out, hno, by rw[HL.out]; exact h5, rfl, rfl, rfl⟩)))
     have HXX := HI4.out.out.set 0 (.slice none 0 0)
     have R0 : Hid (_ = _) := HXX.cell 0
     have HB : Hid (zB w (w4.setCell ⟨w.heap.size + 1, 0, none⟩ (.slice none 0 0))) := bel_set HI4.out.bo.bel _ _ _ (by omega)
     clear hno h5
     go_wp2_with fail
     exact bodyPost_ret (v :=.tuple #[.agg #[.slice none 0 0], .int .i64 0, .int .i64 16]) (by simp[results, Tryz.results26, R0.out, go_sem]) rfl ⟨none, 0, 0, [], 0, 16, rfl, RowP.nil _ _, λ_ => rfl, zc, (λy h => by cases h), HF.out, HB.out⟩
    ·have hq : ((n : Int)==500) = false := by simp; omega
     have HF : Hid (IssueIs l m r b d (l ++ [⟨m, r, b, d⟩]) d 0) :=.inr (.inr (.inr (.inr ⟨HM.out, HPY.out, hno, by rw[HL.out]; omega, rfl, rfl, rfl⟩)))
     have p0 := HP4.out.cell 0
     have p1 := HP4.out.cell 1
     have p2 := HP4.out.cell 2
     have p3 := HP4.out.cell 3
     have HG : Hid (PrAt (w4.alloc (.cells #[.int .i64 m, .int .i64 r, .int .i64 b, .int .i64 d] 87)) w4.heap.size 0 ⟨m, r, b, d⟩) := pr_cell w4 _ _ _ _
     have HOA : Hid (Pw (w4.alloc (.cells #[.int .i64 m, .int .i64 r, .int .i64 b, .int .i64 d] 87)) g2 (.slice av n cv) l) := HV4.out.alloc _
     have HG4 : Hid (g2 ≤ w4.heap.size) := Nat.le_trans HLT.out.2.2 (Nat.le_of_lt HO4.out.lt)
     have HSZ : Hid (g2 ≤ (w4.alloc (.cells #[.int .i64 m, .int .i64 r, .int .i64 b, .int .i64 d] 87)).heap.size) := palloc_le HG4.out _
     have HLN : Hid (l.length ≤ 1000000) := by show _ ≤ _; rw[HL.out]; omega
     have HI5 : Hid (Bi w (w4.alloc (.cells #[.int .i64 m, .int .i64 r, .int .i64 b, .int .i64 d] 87)) a n cap l ∧ Blk (w4.alloc (.cells #[.int .i64 m, .int .i64 r, .int .i64 b, .int .i64 d] 87)) go #[.slice av n cv] 28) := ⟨HI4.out.alloc _, HO4.out.alloc _⟩
     clear hno h5
     go_wp2_with (first
      |(at_builtin; refine wp_pr rfl _ _ rfl g2 w4.heap.size _ l ⟨m, r, b, d⟩ rfl rfl HOA.out HG.out HLN.out HSZ.out ?_)
      | go_in)
     intro v' w5 hL5 hg5
     have hb5 : zB w w5 := pown_bel HOA.out hg5 HI5.out.1.bo.bel (by have := HLT.out; omega) (by have := HSZ.out; have := HLT.out; omega)
     have hout := Blk.pgrown HI5.out.1.out hg5 (pown_far HOA.out (by have := HLT.out; omega))
     have hgo := Blk.pgrown HI5.out.2 hg5 HFAR.out
     obtain⟨av', cv', rfl, _, hnv', hcv'⟩ := hL5.row
     obtain⟨n', hn'⟩ : ∃n', (l ++ [(⟨m, r, b, d⟩ : Pr)]).length = n' := ⟨_, rfl⟩
     rw[hn'] at hcv' hL5 ⊢
     have g0 := hgo.cell 0
     have g1 := hgo.free 0
     have hgo2 := hgo.set 0 (.slice av' n' cv')
     have k0 := hgo2.cell 0
     have hne : w.heap.size + 1≠go := by have := HLT.out; omega
     have hout2 := Blk.other hout (G' := go) 0 (.slice av' n' cv') (by omega)
     have u0 := hout2.cell 0
     have u1 := hout2.free 0
     have hout3 := hout2.set 0 (.slice av' n' cv')
     have R0 : Hid (_ = _) := hout3.cell 0
     have hP6 := Pw.put2 (Pw.put2 hL5 hgo (by decide) 0 (.slice av' n' cv')) hout2 (by decide) 0 (.slice av' n' cv')
     have HRV : Hid (RowP ((w5.setCell ⟨go, 0, none⟩ (.slice av' n' cv')).setCell ⟨w.heap.size + 1, 0, none⟩ (.slice av' n' cv')) av' n' (l ++ [⟨m, r, b, d⟩]) ∧ zB w ((w5.setCell ⟨go, 0, none⟩ (.slice av' n' cv')).setCell ⟨w.heap.size + 1, 0, none⟩ (.slice av' n' cv'))) := by
      obtain⟨a6, c6, e1, e2, _, _⟩ := hP6.row
      rw[hn'] at e1 e2
      simp only[Value.slice.injEq] at e1
      obtain⟨rfl, _, rfl⟩ := e1
      exact⟨e2, bel_set (bel_set hb5 _ _ _ (by have := HLT.out; omega)) _ _ _ (by omega)⟩
     have HNW : Hid (∀y, av' = some y → w.heap.size ≤ y.block) := λy hy => by
      subst hy
      have := (World.ownsRow.lt hL5 y.block rfl).1
      have := HLT.out
      omega
     have HNN : Hid ((av' = none → cv' = 0) ∧ n' ≤ cv') := ⟨hnv', hcv'⟩
     clear hL5 hg5 hb5 hout hgo hgo2 hout2 hout3 hP6 hnv' hcv' hn' hne c0 o0 z0 y0 p0 p1 p2 p3
     go_wp2_with fail
     exact bodyPost_ret (v :=.tuple #[.agg #[.slice av' n' cv'], .int .i64 d, .int .i64 0]) (by simp[results, Tryz.results26, R0.out, go_sem]) rfl ⟨av', n', cv', _, d, 0, rfl, HRV.out.1, HNN.out.1, HNN.out.2, HNW.out, HF.out, HRV.out.2⟩
end ora
namespace book
open Go.RowKit
theorem cellsE_app(l m:List Ev):cellsE (l++m)=cellsE l++cellsE m:=by
 induction l with
 |nil=>rfl
 |cons e l ih=>rw[List.cons_append,cellsE,cellsE,ih,List.append_assoc]
def Le(w:World)(base:Nat)(v:Value)(l:List Ev):Prop:=w.ownsRow base 44 13 v l.length (cellsE l)
theorem Le.zero(w:World)(base:Nat):Le w base (zS) []:=World.ownsRow_nil _ _ _ _
variable{l:List Ev}{base:Nat}{w:World}{v:Value}
theorem Le.alloc(h:Le w base v l)(o:Obj):Le (w.alloc o) base v l:=World.ownsRow.alloc h o
theorem Le.next{w w':World}(h:Le w base v l)(hb:zB w w'):Le w' base v l:=by
 refine⟨h.1,?_⟩;rcases h.2 with e|⟨g,a,b,f,d,c,rest⟩
 ·exact .inl e
 ·exact .inr ⟨g,a,b,f,d,Blk.next c hb,rest⟩
theorem Le.came(h:Le w base v l)(hl:l.length≤100000)(hw:∀x∈l,wf13 x):∃a cap,v=.slice a l.length cap∧ECame w a l.length cap l:=by
 rcases h.2 with⟨b,c⟩|⟨g,cap,d,b,_,k,f,_⟩
 ·exact⟨none,0,by rw[c];exact b,⟨⟨rfl,.inl c⟩,λ_=>rfl,by omega,by omega,hw⟩⟩
 ·subst b;refine⟨_,cap,rfl,⟨⟨rfl,.inr ⟨g,0,rfl,Blk.lt k,λi j m n=>?_⟩⟩,(λh=>by cases h),f,by omega,hw⟩⟩;have e:=World.ownsRow.cellAt h (i*13+j) (by omega);rw[Nat.zero_add,e];exact cellsE_at l i j m n
theorem wp_ev{ops:Array Oper}{rest:List Oper}{o:Oper}{a:Act}{Q:Exit→Act→World→Prop}(hgd:o.guard=none)(s x:Operand)
  (ho:o.op=.call { callee:=.builtin .append,args:=#[s,x],argTypes:=#[103,103] })
  (base G:Nat) (v:Value) (l:List Ev) (r:Ev) (hs:a.eval s=v) (hx:a.eval x=.slice (some ⟨G,0,none⟩) 1 1) (hv:Le w base v l) (hu:Blk w G r.cl.toArray 44) (hn:l.length≤1000000) (hbase:base≤w.heap.size)
  (h:∀v' w',Le w' base v' (l++[r])→w.grownBy w' v.ownBlock→wpList Tryz.prog ops Q rest (a.put o.dst v') w'):wpList Tryz.prog ops Q (o::rest) a w:=by
 obtain⟨k,i,b,c,d⟩:=info_parts evI;refine wpList_append_own w hgd s x 103 ho base 44 k (.agg ev0.cl.toArray) 13 104 Tryz.underlying103 i b c d rfl (by decide) v l.length (cellsE l) hs hv ⟨G,0,none⟩ 1 1 (cellsE [r]) hx (by rw[cellsE_len];rfl) ?_ (oneE [r]) (by unfold maxLen;omega) (by omega) hbase ?_
 ·intro j u e;rw[Addr.add_lit,Nat.zero_add,hu.cell j];rw[cellsE,cellsE,List.append_nil] at e;simpa using e
 intro v' w' f g _;refine h v' w' ?_ g;unfold Le;rw[List.length_append,cellsE_app];exact f
end book
namespace words
open Go.RowKit
def lenOf:Value→Nat
 | .slice _ n _=>n
 |_=>0
variable{base g cap L:Nat}{w:World}{xs:List Value}{f:Nat→Int}{v:Value}{n:Nat}
theorem own_len{base e k:Nat}(h:w.ownsRow base e k v n xs):lenOf v=n:=by
 rcases h.2 with⟨rfl,rfl⟩|⟨g,a,b,rfl,_⟩<;>rfl
theorem own_below{w w':World}{base e k:Nat}(h:w.ownsRow base e k v n xs)(hb:zB w w'):w'.ownsRow base e k v n xs:=
 ⟨h.1,h.2.imp id λ⟨g,cap,cur,h1,h2,h3,h4⟩=>⟨g,cap,cur,h1,h2,by rw[hb.block g (heap_lt h3)];exact h3,h4⟩⟩
theorem own_lt{base e k:Nat}(h:w.ownsRow base e k v n xs){g:Nat}(hg:v.ownBlock=some g):base≤g∧g<w.heap.size:=by
 rcases h.2 with⟨rfl,rfl⟩|⟨f,a,b,rfl,d,c,_⟩
 ·simp[Value.ownBlock] at hg
 ·simp[Value.ownBlock] at hg;subst hg;exact⟨d,heap_lt c⟩
theorem Ru.grown{w w':World}{a:Option Addr}{n cap:Nat}{l:List Nat}{row:Option Nat}(h:Ru w a n cap l)(hg:w.grownBy w' row)(hne:∀b off,a=some ⟨b,off,none⟩→some b≠row):Ru w' a n cap l:=by
 refine ⟨h.len,h.lt,h.nil,h.room,?_,fun b off s e f=>(h.typ b off s e f).same (hg.block b (h.typ b off s e f).lt (by
  rcases h.cell with d|⟨k,c,g,_⟩
  ·exact absurd d f
  ·rw[g] at e;obtain⟨rfl,rfl,rfl⟩:=(by simpa using e:k=b∧c=off∧none=s)
   exact hne _ _ g))⟩
 rcases h.cell with d|⟨b,off,rfl,m⟩
 ·exact .inl d
 ·refine .inr ⟨b,off,rfl,λi o=>?_⟩;have j:=m i o;rw[World.cell?_of_block (w:=w) (a:=⟨b,off+i,none⟩) (hg.block b (World.block_lt_of_cell? w _ j) (hne b off rfl))];exact j
def TextInv(m M:Nat)(ds:List Int):Prop:=M≤m∧((M=0∧ds≠[]∧decL m=ds.reverse)∨(0<M∧decL m=decL M++ds.reverse))
theorem text_more{m M:Nat}{ds:List Int}(h:TextInv m M ds)(h0:0<M):TextInv m (M/10) (ds++[48+((M%10:Nat):Int)]):=by
 obtain⟨c,h⟩:=h
 have b:decL m=decL M++ds.reverse:=by
  rcases h with h|h
  ·omega
  ·exact h.2
 refine⟨by omega,?_⟩;by_cases a:M<10
 ·left;refine⟨by omega,by simp,?_⟩;rw[b,decL_one a,Nat.mod_eq_of_lt a];simp
 ·right;refine⟨by omega,?_⟩;rw[b,decL_more a];simp
theorem text_len{m M:Nat}{ds:List Int}(h:TextInv m M ds)(h0:0<M):ds.length<(decL m).length:=by
 rcases h.2 with h|⟨_,h⟩
 ·omega
 ·rw[h];have:0<(decL M).length:=List.length_pos_iff.2 (decL_ne M);simp;omega
theorem dig_mono{M m:Nat}(h:M≤m):(dig M).length≤(dig m).length:=by
 rcases Nat.lt_or_ge (dig m).length (dig M).length with a|a
 ·have:=len_less a;omega
 ·exact a
theorem info_u8:(Tryz.prog.info? 5).map (λi=>(i.zero,i.size,i.bytes))=some (some (.int .u8 0),1,1):=by kernel_rfl
def RB(w:World)(base g cap L:Nat)(f:Nat→Int):Prop:=w.ownsRow base 5 1 (.slice (some ⟨g,0,none⟩) L cap) L ((List.range L).map λk=>Value.int .u8 (f k))
theorem RB.cell(h:RB w base g cap L f){i:Nat}(hi:i<L):w.cell? ⟨g,i,none⟩=some (.int .u8 (f i)):=by
 have:=World.ownsRow.cellAt h i (by omega);rw[this];simp[hi]
theorem RB.free(h:RB w base g cap L f)(i:Nat):w.frozen? ⟨g,i,none⟩=false:=World.ownsRow.frozenAt h i
theorem RB.set(h:RB w base g cap L f)(i:Nat)(v:Int):RB (w.setCell ⟨g,i,none⟩ (.int .u8 v)) base g cap L (updd f i v):=by
 have:=(World.ownsRow.stored h i (.int .u8 v)).1;unfold RB;rw[show ((List.range L).map λk=>Value.int .u8 (updd f i v k))=((List.range L).map λk=>Value.int .u8 (f k)).set i (.int .u8 v) from ?_]
 ·exact this
 ·apply List.ext_getElem?;intro k;by_cases a:k<L
  ·by_cases e:k=i
   ·subst e;simp[updd,a]
   ·rw[List.getElem?_set_ne (by omega)];simp[updd,a,e]
  ·rw[List.getElem?_eq_none (by simp;omega),List.getElem?_eq_none (by simp;omega)]
theorem conv_row(w:World)(base g cap L:Nat)(f:Nat→Int)(h:RB w base g cap L f):
  (convert 195 9 (.slice (some ⟨g,0,none⟩) L cap)).run Tryz.prog w=.ok (.string (strOf ((List.range L).map f))) w:=by
 rw[run_convert_bytes_string _ _ _ _ _ _ _ Tryz.underlying195 Tryz.underlying5 Tryz.underlying9,run_bytesToString _ _ _ _ ((List.range L).map f)]
 ·rfl
 ·have:=run_loadCells (P:=Tryz.prog) w ⟨g,0,none⟩ L (λi=> .int .u8 (f i)) (λj a=>by rw[Addr.add_lit,Nat.zero_add];exact h.cell (by omega));rw[this]
  congr 2
  simp
def Turned(L i:Nat)(d f:Nat→Int):Prop:=∀k,k<L→f k=if k<i∨L-1-i<k then d (L-1-k) else d k
theorem turned_step{L i:Nat}{d f:Nat→Int}(h:Turned L i d f)(hi:i<L-1-i):Turned L (i+1) d (updd (updd f i (f (L-1-i))) (L-1-i) (f i)):=by
 intro k l;have e:=h i (by omega);have g:=h (L-1-i) (by omega);have j:=h k l;rw[if_neg (by omega)] at e g;unfold updd;by_cases a:k=L-1-i
 ·rw[if_pos a,if_pos (by omega),e];congr 1;omega
 ·rw[if_neg a];by_cases b:k=i
  ·rw[if_pos b,if_pos (by omega),g];congr 1;omega
  ·rw[if_neg b,j];by_cases c:k<i∨L-1-i<k
   ·rw[if_pos c,if_pos (by omega)]
   ·rw[if_neg c,if_neg (by omega)]
theorem turned_end{L i:Nat}{d f:Nat→Int}(h:Turned L i d f)(hi:¬ i<L-1-i)(ds:List Int)(hL:ds.length=L)(hd:∀k,d k=ds.getD k 0):(List.range L).map f=ds.reverse:=by
 apply List.ext_getElem (by simp[hL]);intro k a g;have b:k<L:=by simpa using a
 rw[List.getElem_reverse,List.getElem_map,List.getElem_range,h k b]
 have e:d (L-1-k)=ds[ds.length-1-k]:=by
  subst hL;rw[hd];simp[List.getD,List.getElem?_eq_getElem (show ds.length-1-k<ds.length by omega)]
 by_cases c:k<i∨L-1-i<k
 ·rw[if_pos c,e]
 ·rw[if_neg c,← e];congr 1;omega
end words
end Go.Proofs.YtoepgdhiepedeaaGreatDoor
