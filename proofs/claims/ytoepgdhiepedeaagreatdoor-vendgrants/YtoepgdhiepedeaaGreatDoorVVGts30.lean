import Derived.Test.YtoepgdhiepedeaaGreatDoorVVGts20
import Derived.Test.YtoepgdhiepedeaaGreatDoorVVGts25
import Derived.Test.YtoepgdhiepedeaaGreatDoorVVGts28
import Derived.Test.YtoepgdhiepedeaaGreatDoorVVGts29
set_option linter.unusedVariables false
set_option linter.unusedSimpArgs false
set_option maxHeartbeats 4000000
set_option maxRecDepth 100000
namespace Go.Proofs.YtoepgdhiepedeaaGreatDoor
namespace book
open Go.RowKit
theorem ws_low{w:World}{base base':Nat}{v:Value}{l:List Int}(h:cell.Ws w base v l)(hb:base'≤base):cell.Ws w base' v l:=by
 refine⟨h.1,?_⟩;rcases h.2 with d|⟨g,a,b,e,c,rest⟩
 ·exact .inl d
 ·exact .inr ⟨g,a,b,e,Nat.le_trans hb c,rest⟩
def EncPost(w:World)(v:Ev)(e:Ending)(w':World):Prop:=∃V ws f,e=.returned (.tuple #[V,zI f])∧EncIs v ws f∧cell.Ws w' w.heap.size V ws∧zB w w'
theorem evL_step(v:Ev)(k:Nat)(hk:k<13):(evL v).take k++[(evL v).getD k 0]=(evL v).take (k+1):=by
 have a:k<(evL v).length:=by rw[evL_len];exact hk
 rw[List.take_succ_eq_append_getElem a];simp[List.getD,List.getElem?_eq_getElem a]
theorem rencoded(v:Ev)(w:World):Calls Tryz.prog 57 #[v.v] w λe w'=>EncPost w v e w':=by
 have Q:Hid (∀W,zC 83 #[.agg #[zI v.kd,zI v.me,zI v.mo,zI v.id,zI v.te,zI v.de,zI v.fe,zI v.pr,zI v.ch,zI v.un,zI v.tg,zI v.ow,zI v.bp]] W λe w'=>MayPost W v e w'):=λW=>rmay v W;have T:=zye w #[zI v.kd,zI v.me,zI v.mo,zI v.id,zI v.te,zI v.de,zI v.fe,zI v.pr,zI v.ch,zI v.un,zI v.tg,zI v.ow,zI v.bp] 44;have I:Hid (zB w (w.alloc (.cells #[zI v.kd,zI v.me,zI v.mo,zI v.id,zI v.te,zI v.de,zI v.fe,zI v.pr,zI v.ch,zI v.un,zI v.tg,zI v.ow,zI v.bp] 44))):=zb.alloc zc _;have ah:(w.alloc (.cells #[zI v.kd,zI v.me,zI v.mo,zI v.id,zI v.te,zI v.de,zI v.fe,zI v.pr,zI v.ch,zI v.un,zI v.tg,zI v.ow,zI v.bp] 44)).cell? ⟨w.heap.size,0,none⟩=some (zI v.kd):=(Blk.new w _ _).cell 0;have ai:(w.alloc (.cells #[zI v.kd,zI v.me,zI v.mo,zI v.id,zI v.te,zI v.de,zI v.fe,zI v.pr,zI v.ch,zI v.un,zI v.tg,zI v.ow,zI v.bp] 44)).cell? ⟨w.heap.size,1,none⟩=some (zI v.me):=(Blk.new w _ _).cell 1;have aj:(w.alloc (.cells #[zI v.kd,zI v.me,zI v.mo,zI v.id,zI v.te,zI v.de,zI v.fe,zI v.pr,zI v.ch,zI v.un,zI v.tg,zI v.ow,zI v.bp] 44)).cell? ⟨w.heap.size,2,none⟩=some (zI v.mo):=(Blk.new w _ _).cell 2;have ag:(w.alloc (.cells #[zI v.kd,zI v.me,zI v.mo,zI v.id,zI v.te,zI v.de,zI v.fe,zI v.pr,zI v.ch,zI v.un,zI v.tg,zI v.ow,zI v.bp] 44)).cell? ⟨w.heap.size,3,none⟩=some (zI v.id):=(Blk.new w _ _).cell 3;have am:(w.alloc (.cells #[zI v.kd,zI v.me,zI v.mo,zI v.id,zI v.te,zI v.de,zI v.fe,zI v.pr,zI v.ch,zI v.un,zI v.tg,zI v.ow,zI v.bp] 44)).cell? ⟨w.heap.size,4,none⟩=some (zI v.te):=(Blk.new w _ _).cell 4;have ae:(w.alloc (.cells #[zI v.kd,zI v.me,zI v.mo,zI v.id,zI v.te,zI v.de,zI v.fe,zI v.pr,zI v.ch,zI v.un,zI v.tg,zI v.ow,zI v.bp] 44)).cell? ⟨w.heap.size,5,none⟩=some (zI v.de):=(Blk.new w _ _).cell 5;have af:(w.alloc (.cells #[zI v.kd,zI v.me,zI v.mo,zI v.id,zI v.te,zI v.de,zI v.fe,zI v.pr,zI v.ch,zI v.un,zI v.tg,zI v.ow,zI v.bp] 44)).cell? ⟨w.heap.size,6,none⟩=some (zI v.fe):=(Blk.new w _ _).cell 6
 have al:(w.alloc (.cells #[zI v.kd,zI v.me,zI v.mo,zI v.id,zI v.te,zI v.de,zI v.fe,zI v.pr,zI v.ch,zI v.un,zI v.tg,zI v.ow,zI v.bp] 44)).cell? ⟨w.heap.size,7,none⟩=some (zI v.pr):=(Blk.new w _ _).cell 7;have ad:(w.alloc (.cells #[zI v.kd,zI v.me,zI v.mo,zI v.id,zI v.te,zI v.de,zI v.fe,zI v.pr,zI v.ch,zI v.un,zI v.tg,zI v.ow,zI v.bp] 44)).cell? ⟨w.heap.size,8,none⟩=some (zI v.ch):=(Blk.new w _ _).cell 8;have ao:(w.alloc (.cells #[zI v.kd,zI v.me,zI v.mo,zI v.id,zI v.te,zI v.de,zI v.fe,zI v.pr,zI v.ch,zI v.un,zI v.tg,zI v.ow,zI v.bp] 44)).cell? ⟨w.heap.size,9,none⟩=some (zI v.un):=(Blk.new w _ _).cell 9;have an:(w.alloc (.cells #[zI v.kd,zI v.me,zI v.mo,zI v.id,zI v.te,zI v.de,zI v.fe,zI v.pr,zI v.ch,zI v.un,zI v.tg,zI v.ow,zI v.bp] 44)).cell? ⟨w.heap.size,10,none⟩=some (zI v.tg):=(Blk.new w _ _).cell 10;have ak:(w.alloc (.cells #[zI v.kd,zI v.me,zI v.mo,zI v.id,zI v.te,zI v.de,zI v.fe,zI v.pr,zI v.ch,zI v.un,zI v.tg,zI v.ow,zI v.bp] 44)).cell? ⟨w.heap.size,11,none⟩=some (zI v.ow):=(Blk.new w _ _).cell 11;have ac:(w.alloc (.cells #[zI v.kd,zI v.me,zI v.mo,zI v.id,zI v.te,zI v.de,zI v.fe,zI v.pr,zI v.ch,zI v.un,zI v.tg,zI v.ow,zI v.bp] 44)).cell? ⟨w.heap.size,12,none⟩=some (zI v.bp):=(Blk.new w _ _).cell 12;unfold Ev.v;go_enter Tryz.func57,Tryz.ntmps57;go_wp2_with fail;refine(Q.o _).mono ?_;rintro e w1 ⟨B,rfl,G,t⟩;have a:=shN T t;have g:=shB I t;clear t ah ai aj ag am ae af al ad ao an ak ac;cases B with
 |false=>
  have M:Hid (EncIs v [] 5):=.inr ⟨λh=>absurd (G.2 h) (by decide),rfl,rfl⟩;clear G;go_wp2_with fail;go_ret2;exact⟨_,[],5,rfl,M.o,cell.Ws.zero _ _,g.o⟩
 |true=>
  have hm:EMay v:=G.1 rfl;have HM:Hid (EMay v):=hm;have R:Hid (∀x∈evL v,0≤x∧x<4294967296):=may_word hm;clear G hm;have m:=zy0 a;have n:=zy1 a;have p:=zy2 a;have a6:=zy3 a;have a8:=zy4 a;have a4:=zy5 a;have a5:=zy6 a;have a7:=zy7 a;have a3:=zy8 a;have a9:=zy9 a;have r:=zy10 a;have q:=zy11 a;have l:=zy12 a;obtain⟨W2,d,b,b,-⟩:=sh1 w1 #[zI v.id,zI v.te,zI v.de,zI v.fe,zI v.pr,zI v.ch,zI v.un] 33;have c:=shN a b.o;have J:=shB g b.o;go_upto_region 4 with fail
  rw[d.o];clear d b;generalize w1.heap.size=gb at *;clear a g m n p a6 a8 a4 a5 a7 a3 a9 r q l;have m:=zy0 c;have n:=zy1 c;have p:=zy2 c;have r:=zy10 c;have q:=zy11 c;have l:=zy12 c;have Z:=zy0 b;have a1:=zy1 b;have X:=zy2 b;have Y:=zy3 b;have a0:=zy4 b;have U:=zy5 b;have a2:=zy6 b;obtain⟨W3,d,A,b,-⟩:=sh1 W2 #[zI v.kd,zI v.me,zI v.mo,zI v.id,zI v.te,zI v.de,zI v.fe,zI v.pr,zI v.ch,zI v.un,zI v.tg,zI v.ow,zI v.bp] 3;have j:=shB J b.o;go_upto_region 7 with fail
  rw[d.o];clear d b;generalize W2.heap.size=gl at *;clear m n p r q l Z a1 X Y a0 U a2
  have N:Hid (∀k,k<13→(#[zI v.kd,zI v.me,zI v.mo,zI v.id,zI v.te,zI v.de,zI v.fe,zI v.pr,zI v.ch,zI v.un,zI v.tg,zI v.ow,zI v.bp]:Array Value)[k]?=some (zI ((evL v).getD k 0))):=λk hk=>by
   match k,hk with
   |0,_=>rfl
   |1,_=>rfl
   |2,_=>rfl
   |3,_=>rfl
   |4,_=>rfl
   |5,_=>rfl
   |6,_=>rfl
   |7,_=>rfl
   |8,_=>rfl
   |9,_=>rfl
   |10,_=>rfl
   |11,_=>rfl
   |12,_=>rfl
  go_loopw [6,7] (λu i wr=>∃(k:Nat)(V:Value),V=u∧k≤13∧i=zI (k:Int)∧cell.Ws wr W3.heap.size V ((evL v).take k)∧zB W3 wr) (λ_ i _=>13-(intOf i).toNat)
  case atStart=>exact⟨0,_,rfl,Nat.zero_le _,rfl,cell.Ws.zero _ _,zb⟩
  case round=>
   obtain⟨k,V,hV,hk,rfl,f,H⟩:=hrel;subst hV;have HO:=zh f;have F:=zh H;have ap:=zh A.o.lt;by_cases y:k<13
   ·have ab:decide ((k:Int)<13)=true:=by simp;omega
    have aa:=((A.o.next H).cell k).trans (N.o k y);have HD:=zh (evL_step v k y)
    have hz:=R.o ((evL v).getD k 0) (by
     have hl:k<(evL v).length:=by rw[evL_len];exact y
     rw [List.getD_eq_getElem?_getD,List.getElem?_eq_getElem hl];exact List.getElem_mem hl)
    obtain⟨ar,au⟩:=hz;have P:Hid (((evL v).take k).length≤1000000):=by show _≤_;rw[List.length_take,evL_len];omega
    clear f H;generalize (evL v).getD k 0=z at *;generalize (evL v).take k=fs at *;have HG:Hid ((wr.alloc (.cells #[.int .u32 z] 83)).cell? ⟨wr.heap.size,0,none⟩=some (.int .u32 z)):=(Blk.new wr _ _).cell 0;have C:Hid (cell.Ws (wr.alloc (.cells #[.int .u32 z] 83)) W3.heap.size V fs):=HO.o.alloc _;have D:Hid (W3.heap.size≤(wr.alloc (.cells #[.int .u32 z] 83)).heap.size):=cell.alloc_le F.o.size _;have aq:IntKind.u32.wrap z=z:=by rw[IntKind.wrap_u32];omega
    go_wp2_with (first
     |(at_builtin;refine cell.wp_word rfl _ _ rfl W3.heap.size wr.heap.size _ fs z rfl rfl C.o HG.o P.o D.o ?_)
     | fail)
    intro v' w4 s E;have O:Hid (cell.Ws w4 W3.heap.size v' ((evL v).take (k+1))):=by have:=HD.o;rw[this] at s;exact s
    have K:Hid (zB W3 w4):=cell.own_bel C.o E (F.o.alloc F.o.size _) zc D.o;clear s E;go_wp2_with fail;go_roundw
    case rel=>exact⟨k+1,_,rfl,by omega,by go_num,O.o,K.o⟩
    case measure=>simp[intOf];omega
   ·obtain rfl:k=13:=by omega
    have M:Hid (EncIs v (evL v) 0):=.inl ⟨HM.o,rfl,rfl⟩;have S:Hid (cell.Ws wr W3.heap.size V (evL v)):=by have:=HO.o;rw[List.take_of_length_le (by rw[evL_len];exact zc)] at this;exact this
    have L:=zh (j.o.trans (F.o.mono j.o.size));have ab:decide ((13:Int)<13)=false:=by decide
    clear f H;go_wp2_with fail;go_ret2;exact⟨V,evL v,0,rfl,M.o,ws_low S.o j.o.size,L.o⟩
end book
namespace ora
open Go.RowKit
theorem copy_any(a:Option Addr)(n cap:Nat)(l:List Pr)(w:World)(hr:RowP w a n l)(hn:n≤500):
  Calls Tryz.prog 55 #[.agg #[.slice a n cap]] w λe w'=>GaveO w l e w':=by
 have F:Hid (Bo w ((w.alloc (.cells #[.slice a n cap] 28)).alloc (.cells #[zS] 28)) a n cap l):=(Bo.new hr).alloc _;have K:Hid (Blk ((w.alloc (.cells #[.slice a n cap] 28)).alloc (.cells #[zS] 28)) (w.heap.size+1) #[zS] 28):=Blk.new1 w _ _ _;have N:Hid (l.length=n):=hr.1;have I:Hid (RowP w a n l):=hr;clear hr;go_enter Tryz.func55,Tryz.ntmps55;go_wp2_with fail;generalize (w.alloc (.cells #[.slice a n cap] 28)).alloc (.cells #[zS] 28)=W0 at *;go_loopw [3,4] (λv j wr=>∃(k:Nat)(V:Value),V=v∧k≤n∧j=zI (k:Int)∧Pw wr (w.heap.size+2) V (l.take k)∧Bo w wr a n cap l∧Blk wr (w.heap.size+1) #[zS] 28) (λ_ j _=>n-(intOf j).toNat)
 case atStart=>exact⟨0,_,rfl,Nat.zero_le _,rfl,Pw.zero _ _,F.o,K.o⟩
 case round=>
  obtain⟨k,V,L,hk,rfl,h,B,R⟩:=hrel;subst L;have d:Hid (Bo w wr a n cap l∧Blk wr (w.heap.size+1) #[zS] 28):=⟨B,R⟩
  have O:Hid (Pw wr (w.heap.size+2) V (l.take k)):=h;clear B R h;have c0:=d.o.1.box.cell 0;by_cases C:k<n
  ·obtain⟨P,D,rfl,lb,Q⟩:=d.o.1.row.at (by omega);obtain⟨Y,Z,f2,f3⟩:=Q k C;have S:Hid (l.take k++[⟨(l.getD k pr0).m,(l.getD k pr0).r,(l.getD k pr0).b,(l.getD k pr0).t⟩]=l.take (k+1)):=take_nextP l k (by rw[N.o];exact C);have H:Hid ((l.take k).length≤1000000):=by show _≤_;rw[List.length_take];omega
   clear Q lb;generalize (l.getD k pr0).m=u at *;generalize (l.getD k pr0).r=c at *;generalize (l.getD k pr0).b=s at *;generalize (l.getD k pr0).t=x at *;have T:Hid (PrAt (wr.alloc (.cells #[zI u,zI c,zI s,zI x] 87)) wr.heap.size 0 ⟨u,c,s,x⟩):=pr_cell wr _ _ _ _;have f:Hid (Pw (wr.alloc (.cells #[zI u,zI c,zI s,zI x] 87)) (w.heap.size+2) V (l.take k)):=O.o.alloc _;have A:Hid (w.heap.size+2≤(wr.alloc (.cells #[zI u,zI c,zI s,zI x] 87)).heap.size):=palloc_le d.o.2.lt _;have i:Hid (Bo w (wr.alloc (.cells #[zI u,zI c,zI s,zI x] 87)) (some ⟨P,D,none⟩) n cap l∧Blk (wr.alloc (.cells #[zI u,zI c,zI s,zI x] 87)) (w.heap.size+1) #[zS] 28):=⟨d.o.1.alloc _,d.o.2.alloc _⟩
   go_wp2_with (first
    |(at_builtin;refine wp_pr rfl _ _ rfl (w.heap.size+2) wr.heap.size _ (l.take k) ⟨u,c,s,x⟩ rfl rfl f.o T.o H.o A.o ?_)
    | go_in)
   intro v' E p g;have q:zB w E:=pown_bel f.o g i.o.1.bel (by omega) (by have:=A.o;omega);have G:Hid (Pw E (w.heap.size+2) v' (l.take (k+1))):=by have:=S.o;rw[this] at p;exact p
   have y:Hid (Bo w E (some ⟨P,D,none⟩) n cap l∧Blk E (w.heap.size+1) #[zS] 28):=⟨⟨Blk.pgrown i.o.1.box g (pown_far f.o (by omega)),I.o.below q,q⟩,Blk.pgrown i.o.2 g (pown_far f.o (by omega))⟩
   clear p g q Y Z f2 f3 c0;go_wp2_with fail;go_roundw
   case rel=>exact⟨k+1,_,rfl,by omega,by go_num,G.o,y.o.1,y.o.2⟩
   case measure=>simp[intOf];omega
  ·obtain rfl:n=k:=by omega
   have z:Hid (Pw wr (w.heap.size+2) V l):=by have:=O.o;rw[List.take_of_length_le (by rw[N.o];exact zc)] at this;exact this
   have z0:=d.o.2.cell 0;have y0:=d.o.2.free 0;have J:=d.o.2.set 0 V;have U:Hid (_=_):=J.cell 0;have M:Hid (Pw (wr.setCell ⟨w.heap.size+1,0,none⟩ V) w.heap.size V l∧zB w (wr.setCell ⟨w.heap.size+1,0,none⟩ V)):=⟨(z.o.put _ _ _ (by omega)).low (by omega),bel_set d.o.1.bel _ _ _ (by omega)⟩
   obtain⟨W,X,L,_,_,_⟩:=z.o.row;subst L;go_wp2_with fail;exact bodyPost_ret (v:=.agg #[.slice W l.length X]) (by simp[results,Tryz.results55,U.o,go_sem]) rfl ⟨_,rfl,M.o.1,M.o.2⟩
set_option maxRecDepth 100000
def IssuePostN(w : World)(l : List Pr)(m r b d : Int)(e : Ending)(w' : World): Prop :=
 ∃a' n' cap' ls x c, e=.returned (.tuple #[.agg #[.slice a' n' cap'], .int .i64 x, .int .i64 c]) ∧ RowP w' a' n' ls ∧ (a' = none → cap' = 0) ∧ n' ≤ cap' ∧ (∀y, a' = some y → w.heap.size ≤ y.block) ∧ IssueIs l m r b d ls x c ∧ zB w w'
set_option maxHeartbeats 4000000 in
theorem issued_new(a : Option Addr)(n cap : Nat)(l : List Pr)(m r b d : Int)(w : World)(hr : RowP w a n l):
  Calls Tryz.prog 26 #[.agg #[.slice a n cap], .int .i64 m, .int .i64 r, .int .i64 b, .int .i64 d] w λe w' => IssuePostN w l m r b d e w' := by
 have HB0 : Hid (Bi w ((w.alloc (.cells #[.slice a n cap] 28)).alloc (.cells #[.slice none 0 0] 28)) a n cap l) := ⟨(Bo.new hr).alloc _, Blk.new1 w _ _ _⟩
 have HL : Hid (l.length = n) := hr.1
 clear hr
 have c0 := HB0.out.bo.box.cell 0
 have HMY : Hid (∀W, RowP W a n l → zC 53 #[.agg #[.slice a n cap]] W λe w' => Told W (May l) e w') := λW h => omay_any a n cap l W h
 have HPM : Hid (∀W, zC 54 #[.agg #[.int .i64 m, .int .i64 r, .int .i64 b, .int .i64 d]] W λe w' => Told W (Pr.mk m r b d).may e w') := λW => pairMay_any m r b d W
 have HTG : Hid (∀W a, n ≤ 500 → RowP W a n l → zC 56 #[.agg #[.slice a n cap], .int .i64 m, .int .i64 r, .int .i64 b] W λe w' => TagPost W l m r b e w') := λW a hn h => tagged_any a n cap l m r b W h (by omega)
 have HCP : Hid (∀W a, n ≤ 500 → RowP W a n l → zC 55 #[.agg #[.slice a n cap]] W λe w' => GaveO W l e w') := λW a hn h => copy_any a n cap l W h hn
 go_enter Tryz.func26, Tryz.ntmps26
 go_wp2_with fail
 refine(HMY.out _ HB0.out.bo.row).mono ?_
 rintro e w1 ⟨rr, rfl, hrr, hb1⟩
 have HI : Hid (Bi w w1 a n cap l) := HB0.out.next hb1
 clear hb1 c0
 cases rr with
 |false =>
  have HF : Hid (IssueIs l m r b d [] 0 5) :=.inl ⟨(λh => by have := hrr.2 h; cases this), rfl, rfl, rfl⟩
  clear hrr
  have z0 := HI.out.out.cell 0
  have y0 := HI.out.out.free 0
  have HXX := HI.out.out.set 0 (.slice none 0 0)
  have R0 : Hid (_ = _) := HXX.cell 0
  have HB : Hid (zB w (w1.setCell ⟨w.heap.size + 1, 0, none⟩ (.slice none 0 0))) := bel_set HI.out.bo.bel _ _ _ (by omega)
  go_wp2_with fail
  exact bodyPost_ret (v :=.tuple #[.agg #[.slice none 0 0], .int .i64 0, .int .i64 5]) (by simp[results, Tryz.results26, R0.out, go_sem]) rfl ⟨none, 0, 0, [], 0, 5, rfl, RowP.nil _ _, λ_ => rfl, zc, (λy h => by cases h), HF.out, HB.out⟩
 |true =>
  have HM : Hid (May l) := hrr.1 rfl
  have hn : n ≤ 500 := by rw[← HL.out]; exact HM.out.few
  clear hrr
  have hN := Blk.new w1 #[.int .i64 m, .int .i64 r, .int .i64 b, .int .i64 d] 87
  have p0 := hN.cell 0
  have p1 := hN.cell 1
  have p2 := hN.cell 2
  have p3 := hN.cell 3
  have HP : Hid (Blk (w1.alloc (.cells #[.int .i64 m, .int .i64 r, .int .i64 b, .int .i64 d] 87)) w1.heap.size #[.int .i64 m, .int .i64 r, .int .i64 b, .int .i64 d] 87) := hN
  have HI1 : Hid (Bi w (w1.alloc (.cells #[.int .i64 m, .int .i64 r, .int .i64 b, .int .i64 d] 87)) a n cap l) := HI.out.alloc _
  clear hN
  go_wp2_with fail
  refine(HPM.out _).mono ?_
  rintro e w2 ⟨rr, rfl, hrr, hb2⟩
  have HI2 : Hid (Bi w w2 a n cap l) := HI1.out.next hb2
  have HP2 := shN HP hb2
  clear hb2 p0 p1 p2 p3
  generalize w1.heap.size = gp at *
  cases rr with
  |false =>
   have HF : Hid (IssueIs l m r b d [] 0 2) :=.inr (.inl ⟨HM.out, (λh => by have := hrr.2 h; cases this), rfl, rfl, rfl⟩)
   clear hrr
   have z0 := HI2.out.out.cell 0
   have y0 := HI2.out.out.free 0
   have HXX := HI2.out.out.set 0 (.slice none 0 0)
   have R0 : Hid (_ = _) := HXX.cell 0
   have HB : Hid (zB w (w2.setCell ⟨w.heap.size + 1, 0, none⟩ (.slice none 0 0))) := bel_set HI2.out.bo.bel _ _ _ (by omega)
   go_wp2_with fail
   exact bodyPost_ret (v :=.tuple #[.agg #[.slice none 0 0], .int .i64 0, .int .i64 2]) (by simp[results, Tryz.results26, R0.out, go_sem]) rfl ⟨none, 0, 0, [], 0, 2, rfl, RowP.nil _ _, λ_ => rfl, zc, (λy h => by cases h), HF.out, HB.out⟩
  |true =>
   have HPY : Hid ((Pr.mk m r b d).may) := hrr.1 rfl
   clear hrr
   have c0 := HI2.out.bo.box.cell 0
   go_wp2_with fail
   refine(HCP.out _ _ hn HI2.out.bo.row).mono ?_
   rintro e w3 ⟨v, rfl, hv, hb3⟩
   obtain⟨av, cv, rfl, hrv, hnv, hcv⟩ := hv.row
   have hln := HL.out
   rw[hln] at hrv hcv hv
   rw[hln]
   have HV3 : Hid (Pw (w3.alloc (.cells #[.slice av n cv] 28)) w2.heap.size (.slice av n cv) l) := hv.alloc _
   have HI3 : Hid (Bi w (w3.alloc (.cells #[.slice av n cv] 28)) a n cap l) := (HI2.out.next hb3).alloc _
   have HP3 : Hid (Blk (w3.alloc (.cells #[.slice av n cv] 28)) gp #[.int .i64 m, .int .i64 r, .int .i64 b, .int .i64 d] 87) := (HP2.out.next hb3).alloc _
   have HO3 : Hid (Blk (w3.alloc (.cells #[.slice av n cv] 28)) w3.heap.size #[.slice av n cv] 28) := Blk.new _ _ _
   have HNV : Hid ((av = none → cv = 0) ∧ n ≤ cv) := ⟨hnv, hcv⟩
   have HLT : Hid (gp<w2.heap.size ∧ w.heap.size + 2 ≤ w2.heap.size ∧ w2.heap.size ≤ w3.heap.size) := ⟨HP2.out.lt, HI2.out.out.lt, hb3.size⟩
   have HFAR : Hid (some w3.heap.size≠(Value.slice av n cv).ownBlock) := λe => by
    have := (World.ownsRow.lt hv _ e.symm).2
    omega
   clear hv hrv hnv hcv hb3 hln c0
   have c0 := HI3.out.bo.box.cell 0
   go_wp2_with fail
   refine(HTG.out _ _ hn HI3.out.bo.row).mono ?_
   rintro e w4 ⟨hb4, hor⟩
   have HI4 : Hid (Bi w w4 a n cap l) := HI3.out.next hb4
   have HV4 : Hid (Pw w4 w2.heap.size (.slice av n cv) l) := HV3.out.next hb4
   obtain⟨HP4, HO4⟩ := zn2 hb4 HP3 HO3
   clear hb4 c0
   have HNW : Hid (∀y, av = some y → w.heap.size ≤ y.block) := λy hy => by
    subst hy
    have := (World.ownsRow.lt HV4.out y.block rfl).1
    have := HLT.out
    omega
   generalize w3.heap.size = go at *
   generalize w2.heap.size = g2 at *
   have c0 := HI4.out.bo.box.cell 0
   have o0 := HO4.out.cell 0
   have z0 := HI4.out.out.cell 0
   have y0 := HI4.out.out.free 0
   rcases hor with⟨i, hi, rfl⟩|⟨hno, rfl⟩
   ·have hil : i<n := by rw[← HL.out]; exact hi.lt
    obtain⟨bl, off, rfl, lbl, hc⟩ := HI4.out.bo.row.at (by omega)
    obtain⟨f0, f1, f2, f3⟩ := hc i hil
    have HF : Hid (IssueIs l m r b d l (l.getD i pr0).t 0) :=.inr (.inr (.inl ⟨HM.out, HPY.out, ⟨i, hi, rfl⟩, rfl, rfl⟩))
    have hge : (0 : Int) ≤ (i : Int) := by omega
    have HXX := HI4.out.out.set 0 (.slice av n cv)
    have R0 : Hid ((w4.setCell ⟨w.heap.size + 1, 0, none⟩ (.slice av n cv)).drew.cell? ⟨w.heap.size + 1, 0, none⟩ = some (.slice av n cv)) := HXX.cell 0
    have HRV : Hid (RowP (w4.setCell ⟨w.heap.size + 1, 0, none⟩ (.slice av n cv)).drew av n l ∧ zB w (w4.setCell ⟨w.heap.size + 1, 0, none⟩ (.slice av n cv)).drew) := by
     obtain⟨av', cv', e1, e2, _, _⟩ := (HV4.out.put (w.heap.size + 1) 0 (.slice av n cv) (by have := HLT.out; omega)).row
     rw[HL.out] at e1 e2
     simp only[Value.slice.injEq] at e1
     obtain⟨rfl, _, rfl⟩ := e1
     exact⟨e2, (bel_set HI4.out.bo.bel _ _ _ (by omega)).drew⟩
    clear hc hi f0 f1 f2
    generalize (l.getD i pr0).t = pt at *
    go_wp2_with fail
    go_region
    all_goals go_wp2_with fail
    exact bodyPost_ret (v :=.tuple #[.agg #[.slice av n cv], .int .i64 pt, .int .i64 0]) (by simp[results, Tryz.results26, R0.out, go_sem]) rfl ⟨av, n, cv, l, pt, 0, rfl, HRV.out.1, HNV.out.1, HNV.out.2, HNW.out, HF.out, HRV.out.2⟩
   ·obtain⟨z, hz⟩ : ∃z : Int, z = -1 := ⟨_, rfl⟩
    have hz' : z<0 := by omega
    rw[← hz]
    clear hz
    by_cases h5 : n = 500
    ·have hq : ((n : Int)==500) = true := by simp; omega
     have HF : Hid (IssueIs l m r b d [] 0 16) :=.inr (.inr (.inr (.inl ⟨HM.out, HPY.out, hno, by rw[HL.out]; exact h5, rfl, rfl, rfl⟩)))
     have HXX := HI4.out.out.set 0 (.slice none 0 0)
     have R0 : Hid (_ = _) := HXX.cell 0
     have HB : Hid (zB w (w4.setCell ⟨w.heap.size + 1, 0, none⟩ (.slice none 0 0))) := bel_set HI4.out.bo.bel _ _ _ (by omega)
     clear hno h5
     go_wp2_with fail
     exact bodyPost_ret (v :=.tuple #[.agg #[.slice none 0 0], .int .i64 0, .int .i64 16]) (by simp[results, Tryz.results26, R0.out, go_sem]) rfl ⟨none, 0, 0, [], 0, 16, rfl, RowP.nil _ _, λ_ => rfl, zc, (λy h => by cases h), HF.out, HB.out⟩
    ·have hq : ((n : Int)==500) = false := by simp; omega
     have HF : Hid (IssueIs l m r b d (l ++ [⟨m, r, b, d⟩]) d 0) :=.inr (.inr (.inr (.inr ⟨HM.out, HPY.out, hno, by rw[HL.out]; omega, rfl, rfl, rfl⟩)))
     have p0 := HP4.out.cell 0
     have p1 := HP4.out.cell 1
     have p2 := HP4.out.cell 2
     have p3 := HP4.out.cell 3
     have HG : Hid (PrAt (w4.alloc (.cells #[.int .i64 m, .int .i64 r, .int .i64 b, .int .i64 d] 87)) w4.heap.size 0 ⟨m, r, b, d⟩) := pr_cell w4 _ _ _ _
     have HOA : Hid (Pw (w4.alloc (.cells #[.int .i64 m, .int .i64 r, .int .i64 b, .int .i64 d] 87)) g2 (.slice av n cv) l) := HV4.out.alloc _
     have HG4 : Hid (g2 ≤ w4.heap.size) := Nat.le_trans HLT.out.2.2 (Nat.le_of_lt HO4.out.lt)
     have HSZ : Hid (g2 ≤ (w4.alloc (.cells #[.int .i64 m, .int .i64 r, .int .i64 b, .int .i64 d] 87)).heap.size) := palloc_le HG4.out _
     have HLN : Hid (l.length ≤ 1000000) := by show _ ≤ _; rw[HL.out]; omega
     have HI5 : Hid (Bi w (w4.alloc (.cells #[.int .i64 m, .int .i64 r, .int .i64 b, .int .i64 d] 87)) a n cap l ∧ Blk (w4.alloc (.cells #[.int .i64 m, .int .i64 r, .int .i64 b, .int .i64 d] 87)) go #[.slice av n cv] 28) := ⟨HI4.out.alloc _, HO4.out.alloc _⟩
     clear hno h5
     go_wp2_with (first
      |(at_builtin; refine wp_pr rfl _ _ rfl g2 w4.heap.size _ l ⟨m, r, b, d⟩ rfl rfl HOA.out HG.out HLN.out HSZ.out ?_)
      | go_in)
     intro v' w5 hL5 hg5
     have hb5 : zB w w5 := pown_bel HOA.out hg5 HI5.out.1.bo.bel (by have := HLT.out; omega) (by have := HSZ.out; have := HLT.out; omega)
     have hout := Blk.pgrown HI5.out.1.out hg5 (pown_far HOA.out (by have := HLT.out; omega))
     have hgo := Blk.pgrown HI5.out.2 hg5 HFAR.out
     obtain⟨av', cv', rfl, _, hnv', hcv'⟩ := hL5.row
     obtain⟨n', hn'⟩ : ∃n', (l ++ [(⟨m, r, b, d⟩ : Pr)]).length = n' := ⟨_, rfl⟩
     rw[hn'] at hcv' hL5 ⊢
     have g0 := hgo.cell 0
     have g1 := hgo.free 0
     have hgo2 := hgo.set 0 (.slice av' n' cv')
     have k0 := hgo2.cell 0
     have hne : w.heap.size + 1≠go := by have := HLT.out; omega
     have hout2 := Blk.other hout (G' := go) 0 (.slice av' n' cv') (by omega)
     have u0 := hout2.cell 0
     have u1 := hout2.free 0
     have hout3 := hout2.set 0 (.slice av' n' cv')
     have R0 : Hid (_ = _) := hout3.cell 0
     have hP6 := Pw.put2 (Pw.put2 hL5 hgo (by decide) 0 (.slice av' n' cv')) hout2 (by decide) 0 (.slice av' n' cv')
     have HRV : Hid (RowP ((w5.setCell ⟨go, 0, none⟩ (.slice av' n' cv')).setCell ⟨w.heap.size + 1, 0, none⟩ (.slice av' n' cv')) av' n' (l ++ [⟨m, r, b, d⟩]) ∧ zB w ((w5.setCell ⟨go, 0, none⟩ (.slice av' n' cv')).setCell ⟨w.heap.size + 1, 0, none⟩ (.slice av' n' cv'))) := by
      obtain⟨a6, c6, e1, e2, _, _⟩ := hP6.row
      rw[hn'] at e1 e2
      simp only[Value.slice.injEq] at e1
      obtain⟨rfl, _, rfl⟩ := e1
      exact⟨e2, bel_set (bel_set hb5 _ _ _ (by have := HLT.out; omega)) _ _ _ (by omega)⟩
     have HNW : Hid (∀y, av' = some y → w.heap.size ≤ y.block) := λy hy => by
      subst hy
      have := (World.ownsRow.lt hL5 y.block rfl).1
      have := HLT.out
      omega
     have HNN : Hid ((av' = none → cv' = 0) ∧ n' ≤ cv') := ⟨hnv', hcv'⟩
     clear hL5 hg5 hb5 hout hgo hgo2 hout2 hout3 hP6 hnv' hcv' hn' hne c0 o0 z0 y0 p0 p1 p2 p3
     go_wp2_with fail
     exact bodyPost_ret (v :=.tuple #[.agg #[.slice av' n' cv'], .int .i64 d, .int .i64 0]) (by simp[results, Tryz.results26, R0.out, go_sem]) rfl ⟨av', n', cv', _, d, 0, rfl, HRV.out.1, HNN.out.1, HNN.out.2, HNW.out, HF.out, HRV.out.2⟩
end ora
namespace token
open Go.RowKit
structure Rdy (w W:World) (c i a t:Int):Prop where
 below:zB w W
 b0:W.cell? ⟨w.heap.size,0,none⟩=some (zI c)
 b1:W.cell? ⟨w.heap.size,1,none⟩=some (zI i)
 b2:W.cell? ⟨w.heap.size,2,none⟩=some (zI a)
 b3:W.cell? ⟨w.heap.size,3,none⟩=some (zI t)
 i0:W.cell? ⟨w.heap.size+1,0,none⟩=some (zI 1)
 i1:W.cell? ⟨w.heap.size+1,1,none⟩=some (zI 1048575)
 t0:W.cell? ⟨w.heap.size+1+1,0,none⟩=some (zI 0)
 t1:W.cell? ⟨w.heap.size+1+1,1,none⟩=some (zI 65535)
theorem rdy_of(w:World)(c i a t:Int):Rdy w (((w.alloc (.cells #[zI c,zI i,zI a,zI t] 73)).alloc (.cells #[zI 1,zI 1048575] 238)).alloc (.cells #[zI 0,zI 65535] 238)) c i a t:=by
 have b:=((Blk.new w #[zI c,zI i,zI a,zI t] 73).alloc (.cells #[zI 1,zI 1048575] 238)).alloc (.cells #[zI 0,zI 65535] 238);have d:=(Blk.new1 w (.cells #[zI c,zI i,zI a,zI t] 73) #[zI 1,zI 1048575] 238).alloc (.cells #[zI 0,zI 65535] 238);have e:=Blk.new2 w (.cells #[zI c,zI i,zI a,zI t] 73) (.cells #[zI 1,zI 1048575] 238) #[zI 0,zI 65535] 238;exact⟨(((zb.alloc zc _).alloc (by simp) _).alloc (by simp;omega) _),b.cell 0,b.cell 1,b.cell 2,b.cell 3,d.cell 0,d.cell 1,e.cell 0,e.cell 1⟩
theorem flaw_class(c i a t:Int)(w:World)(h:c<0∨3<c):
  Calls Tryz.prog 111 #[.agg #[zI c,zI i,zI a,zI t]] w λe w'=>e=.returned (zI 9)∧zB w w':=by
 have b:zB w (w.alloc (.cells #[zI c,zI i,zI a,zI t] 73)):=zb.alloc zc _;by_cases d:c<0
 ·clear h;go_enter Tryz.func111,Tryz.ntmps111;go_wp2;go_ret;exact⟨rfl,b⟩
 ·have f:0≤c:=by omega
  have g:4≤c:=by omega
  clear h;go_enter Tryz.func111,Tryz.ntmps111;go_wp2;go_ret;exact⟨rfl,b⟩
theorem flaw_in(c:Nat)(lo hi i a t:Int)(w:World)(hc:c<4)(g0:w.cell? ⟨0,c*2,none⟩=some (zI lo))(g1:w.cell? ⟨0,c*2+1,none⟩=some (zI hi)):
  Calls Tryz.prog 111 #[.agg #[zI (c:Int),zI i,zI a,zI t]] w λe w'=>e=.returned (zI (if hasI 1 1048575 i&&(hasI lo hi a&&hasI 0 65535 t) then 0 else 2))∧zB w w':=by
 have d:Hid (Rdy w (((w.alloc (.cells #[zI (c:Int),zI i,zI a,zI t] 73)).alloc (.cells #[zI 1,zI 1048575] 238)).alloc (.cells #[zI 0,zI 65535] 238)) c i a t):=rdy_of w c i a t;have g:=d.o.below.cell (World.block_lt_of_cell? w _ g0);rw[g0] at g;have h:=d.o.below.cell (World.block_lt_of_cell? w _ g1);rw[g1] at h;have n:Hid (∀W,zC 156 #[.agg #[zI 1,zI 1048575],zI i] W λe w'=>e=.returned (.bool (hasI 1 1048575 i))∧zB W w'):=λW=>has_any _ _ _ W;have p:Hid (∀W,zC 156 #[.agg #[zI lo,zI hi],zI a] W λe w'=>e=.returned (.bool (hasI lo hi a))∧zB W w'):=λW=>has_any _ _ _ W;have D:Hid (∀W,zC 156 #[.agg #[zI 0,zI 65535],zI t] W λe w'=>e=.returned (.bool (hasI 0 65535 t))∧zB W w'):=λW=>has_any _ _ _ W;clear g0 g1;have c0:¬ (c:Int)<0:=by omega
 have c1:¬ 4≤(c:Int):=by omega
 have c2:(c:Int)<4:=by omega
 generalize hasI 1 1048575 i=F at *;generalize hasI lo hi a=E at *;generalize hasI 0 65535 t=G at *;cases F with
 |false=>
  go_enter Tryz.func111,Tryz.ntmps111;go_wp2_with fail;generalize (((w.alloc (.cells #[zI (c:Int),zI i,zI a,zI t] 73)).alloc (.cells #[zI 1,zI 1048575] 238)).alloc (.cells #[zI 0,zI 65535] 238))=W at *;have q:=cell_regrown d.o.b0;have r:=cell_regrown d.o.b1;have s:=cell_regrown d.o.b2;have u:=cell_regrown d.o.b3;have x:=cell_regrown d.o.i0;have y:=cell_regrown d.o.i1;have z:=cell_regrown d.o.t0;have A:=cell_regrown d.o.t1;have B:=cell_regrown g;have C:=cell_regrown h;have l:Hid (zB w W):=d.o.below;clear g h;refine wq_below (by kernel_rfl) (by kernel_rfl) ?_
  iterate 3 (refine wq_step (λK b=>?_);go_simp;refine b _ ?_;clear b K)
  refine wq_step (λK b=>?_);go_simp;apply Exists.intro;refine⟨λ_=>?_,b _ ?_⟩;exact Calls.regrown_of (n.o _);clear b K
  iterate 2 (refine wq_step (λK b=>?_);go_simp;refine b _ ?_;clear b K)
  iterate 8 (refine wq_skip (by kernel_rfl) ?_;simp only[Act.put,zq])
  iterate 2 (refine wq_step (λK b=>?_);go_simp;refine b _ ?_;clear b K)
  iterate 5 (refine wq_skip (by kernel_rfl) ?_;simp only[Act.put,zq])
  iterate 1 (refine wq_step (λK b=>?_);go_simp;refine b _ ?_;clear b K)
  refine wq_nil ?_;intro _ j;obtain⟨⟨m,k⟩,f⟩:=j;subst f;go_wp2_with fail;go_ret;exact⟨rfl,l.o.trans ((below_regrown W m k).mono l.o.size)⟩
 |true=>
  cases E with
  |false=>
   go_enter Tryz.func111,Tryz.ntmps111;go_wp2_with fail;generalize (((w.alloc (.cells #[zI (c:Int),zI i,zI a,zI t] 73)).alloc (.cells #[zI 1,zI 1048575] 238)).alloc (.cells #[zI 0,zI 65535] 238))=W at *;have q:=cell_regrown d.o.b0;have r:=cell_regrown d.o.b1;have s:=cell_regrown d.o.b2;have u:=cell_regrown d.o.b3;have x:=cell_regrown d.o.i0;have y:=cell_regrown d.o.i1;have z:=cell_regrown d.o.t0;have A:=cell_regrown d.o.t1;have B:=cell_regrown g;have C:=cell_regrown h;have l:Hid (zB w W):=d.o.below;clear g h;refine wq_below (by kernel_rfl) (by kernel_rfl) ?_
   iterate 3 (refine wq_step (λK b=>?_);go_simp;refine b _ ?_;clear b K)
   refine wq_step (λK b=>?_);go_simp;apply Exists.intro;refine⟨λ_=>?_,b _ ?_⟩;exact Calls.regrown_of (n.o _);clear b K
   iterate 8 (refine wq_step (λK b=>?_);go_simp;refine b _ ?_;clear b K)
   refine wq_step (λK b=>?_);go_simp;apply Exists.intro;refine⟨λ_=>?_,b _ ?_⟩;exact Calls.regrown_of (p.o _);clear b K
   iterate 3 (refine wq_step (λK b=>?_);go_simp;refine b _ ?_;clear b K)
   iterate 5 (refine wq_skip (by kernel_rfl) ?_;simp only[Act.put,zq])
   iterate 1 (refine wq_step (λK b=>?_);go_simp;refine b _ ?_;clear b K)
   refine wq_nil ?_;intro _ j;obtain⟨⟨m,k⟩,f⟩:=j;subst f;go_wp2_with fail;go_ret;exact⟨rfl,l.o.trans ((below_regrown W m k).mono l.o.size)⟩
  |true=>
   cases G with
   |false=>
    go_enter Tryz.func111,Tryz.ntmps111;go_wp2_with fail;generalize (((w.alloc (.cells #[zI (c:Int),zI i,zI a,zI t] 73)).alloc (.cells #[zI 1,zI 1048575] 238)).alloc (.cells #[zI 0,zI 65535] 238))=W at *;have q:=cell_regrown d.o.b0;have r:=cell_regrown d.o.b1;have s:=cell_regrown d.o.b2;have u:=cell_regrown d.o.b3;have x:=cell_regrown d.o.i0;have y:=cell_regrown d.o.i1;have z:=cell_regrown d.o.t0;have A:=cell_regrown d.o.t1;have B:=cell_regrown g;have C:=cell_regrown h;have l:Hid (zB w W):=d.o.below;clear g h;refine wq_below (by kernel_rfl) (by kernel_rfl) ?_
    iterate 3 (refine wq_step (λK b=>?_);go_simp;refine b _ ?_;clear b K)
    refine wq_step (λK b=>?_);go_simp;apply Exists.intro;refine⟨λ_=>?_,b _ ?_⟩;exact Calls.regrown_of (n.o _);clear b K
    iterate 8 (refine wq_step (λK b=>?_);go_simp;refine b _ ?_;clear b K)
    refine wq_step (λK b=>?_);go_simp;apply Exists.intro;refine⟨λ_=>?_,b _ ?_⟩;exact Calls.regrown_of (p.o _);clear b K
    iterate 6 (refine wq_step (λK b=>?_);go_simp;refine b _ ?_;clear b K)
    refine wq_step (λK b=>?_);go_simp;apply Exists.intro;refine⟨λ_=>?_,b _ ?_⟩;exact Calls.regrown_of (D.o _);clear b K
    iterate 2 (refine wq_step (λK b=>?_);go_simp;refine b _ ?_;clear b K)
    refine wq_nil ?_;intro _ j;obtain⟨⟨m,k⟩,f⟩:=j;subst f;go_wp2_with fail;go_ret;exact⟨rfl,l.o.trans ((below_regrown W m k).mono l.o.size)⟩
   |true=>
    go_enter Tryz.func111,Tryz.ntmps111;go_wp2_with fail;generalize (((w.alloc (.cells #[zI (c:Int),zI i,zI a,zI t] 73)).alloc (.cells #[zI 1,zI 1048575] 238)).alloc (.cells #[zI 0,zI 65535] 238))=W at *;have q:=cell_regrown d.o.b0;have r:=cell_regrown d.o.b1;have s:=cell_regrown d.o.b2;have u:=cell_regrown d.o.b3;have x:=cell_regrown d.o.i0;have y:=cell_regrown d.o.i1;have z:=cell_regrown d.o.t0;have A:=cell_regrown d.o.t1;have B:=cell_regrown g;have C:=cell_regrown h;have l:Hid (zB w W):=d.o.below;clear g h;refine wq_below (by kernel_rfl) (by kernel_rfl) ?_
    iterate 3 (refine wq_step (λK b=>?_);go_simp;refine b _ ?_;clear b K)
    refine wq_step (λK b=>?_);go_simp;apply Exists.intro;refine⟨λ_=>?_,b _ ?_⟩;exact Calls.regrown_of (n.o _);clear b K
    iterate 8 (refine wq_step (λK b=>?_);go_simp;refine b _ ?_;clear b K)
    refine wq_step (λK b=>?_);go_simp;apply Exists.intro;refine⟨λ_=>?_,b _ ?_⟩;exact Calls.regrown_of (p.o _);clear b K
    iterate 6 (refine wq_step (λK b=>?_);go_simp;refine b _ ?_;clear b K)
    refine wq_step (λK b=>?_);go_simp;apply Exists.intro;refine⟨λ_=>?_,b _ ?_⟩;exact Calls.regrown_of (D.o _);clear b K
    iterate 2 (refine wq_step (λK b=>?_);go_simp;refine b _ ?_;clear b K)
    refine wq_nil ?_;intro _ j;obtain⟨⟨m,k⟩,f⟩:=j;subst f;go_wp2_with fail;go_ret;exact⟨rfl,l.o.trans ((below_regrown W m k).mono l.o.size)⟩
theorem flaw_any(c i a t:Int)(w:World)(ht:TTab w):
  Calls Tryz.prog 111 #[.agg #[zI c,zI i,zI a,zI t]] w λe w'=>e=.returned (zI (flawT c i a t))∧zB w w':=by
 by_cases h:c<0∨3<c
 ·rw[flawT_class h];exact flaw_class c i a t w h
 ·have b:=ht.amounts.cell;rw[flawT_in h];rcases (by omega:c=0∨c=1∨c=2∨c=3) with rfl|rfl|rfl|rfl
  ·exact flaw_in 0 1 2097151 i a t w (by omega) b.1 b.2.1
  ·exact flaw_in 1 0 0 i a t w (by omega) b.2.2.1 b.2.2.2.1
  ·exact flaw_in 2 1 15 i a t w (by omega) b.2.2.2.2.1 b.2.2.2.2.2.1
  ·exact flaw_in 3 0 0 i a t w (by omega) b.2.2.2.2.2.2.1 b.2.2.2.2.2.2.2
open words
theorem wn_ok{a b c V:Nat}(h:WN a b c V):W3.ok ⟨a,b,c⟩∧W3.val ⟨a,b,c⟩=V:=by
 have e:=h.a1;have f:=h.b1;have g:=h.c1;have d:=h.val;refine⟨⟨⟨by show (0:Int)≤a;omega,by show (a:Int)<_;omega⟩,⟨by show (0:Int)≤b;omega,by show (b:Int)<_;omega⟩,by show (0:Int)≤c;omega,by show (c:Int)<_;omega⟩,?_⟩;unfold bigV at d;unfold W3.val;simp only;omega
theorem wn_of{X:W3}(h:X.ok){V:Nat}(hV:X.val=V):∃a b c:Nat,X=⟨a,b,c⟩∧WN a b c V:=by
 obtain⟨x,y,z⟩:=X;obtain⟨⟨d,e⟩,⟨f,g⟩,i,j⟩:=h;simp only at *;obtain⟨a,rfl⟩:=Int.eq_ofNat_of_zero_le d;obtain⟨b,rfl⟩:=Int.eq_ofNat_of_zero_le f;obtain⟨c,rfl⟩:=Int.eq_ofNat_of_zero_le i;refine⟨a,b,c,rfl,by omega,by omega,by omega,?_⟩;unfold W3.val at hV;unfold bigV;simp only at hV;omega
theorem times_wn(a b c V m:Nat)(w:World)(h:WN a b c V)(hm:m<4294967296)(hv:V*m<79228162514264337593543950336):
  Calls Tryz.prog 124 #[.agg #[.int .u32 (a:Int),.int .u32 (b:Int),.int .u32 (c:Int)],.int .u32 (m:Int)] w λe w'=>
   ∃(a' b' c':Nat)(o:Int),e=.returned (.tuple #[.agg #[.int .u32 (a':Int),.int .u32 (b':Int),.int .u32 (c':Int)],.int .u32 o])∧WN a' b' c' (V*m)∧zB w w':=by
 have d:=wn_ok h;have j:=times_any ⟨a,b,c⟩ m w d.1 (by omega) (by omega)
 obtain ⟨a',b',c',g,i⟩:=wn_of (X:=timesW ⟨a,b,c⟩ m) (carry3_ok _ _ _) (V:=V*m) (by
  rw[times_mod,d.2];unfold top
  rw [← Int.natCast_mul,Int.emod_eq_of_lt (by omega) (by omega)])
 refine j.mono ?_;rintro e w' ⟨rfl,f⟩;exact⟨a',b',c',_,by rw[g],i,f⟩
end token
namespace book
open Go.RowKit
open acc (Ac Tm Bi APost BPost TFault TRight OpenIs OweIs SellIs GrantIs RekeyIs wf6 ACame TCame fresh_updN fresh_drew came_lt)
def CuPost(w:World)(a:Option Addr)(bk:List Cm)(me:Int)(e:Ending)(w':World):Prop:=w'=w∧((∃k g,FirstAt bk me k∧a=some ⟨g,0,none⟩∧e=.returned (.pointer (some ⟨g,k*8,none⟩)))∨(NoneAt bk me∧e=.panicked (thrown 18)))
theorem bcust(gW B:Nat)(t:Tm)(pt:Option Addr)(lt ct:Nat)(a:Option Addr)(n cap:Nat)(bk:List Cm)(me:Int)(w:World)(hw:Blk w gW #[.slice a n cap,.slice pt lt ct,zI t.ff,zI t.fb,zI t.db,zI t.al,.map (some B)] 170)(hm:MpI w B (mes bk))(hn:bk.length=n)(ha:0<n→∃g,a=some ⟨g,0,none⟩)(hs:n≤1000):Calls Tryz.prog 153 #[.pointer (some ⟨gW,0,none⟩),zI me] w λe w'=>CuPost w a bk me e w':=by
 have f:Hid (∀W,zC 164 #[zI 18] W λe w'=>e=.panicked (thrown 18)∧w'=W):=λW=>insist_no 18 (by decide) W;have j:=hw.cell 0;have l:=hw.cell 6;have b:=lookI_run hm me;clear hw hm;cases hf:firstI (mes bk) me with
 |none=>
  rw[hf] at b;simp only[Option.getD_none,Option.isSome_none] at b;have d:=zh (first_none hf);clear hf;go_enter Tryz.func153,Tryz.ntmps153;go_wp2_with fail;refine(f.o _).mono ?_;rintro e i ⟨rfl,rfl⟩;exact⟨rfl,rfl,.inr ⟨d.o,rfl⟩⟩
 |some k=>
  rw[hf] at b;simp only[Option.getD_some,Option.isSome_some] at b;have c:=first_some hf;have h:k<n:=by have:=c.1;omega
  obtain⟨g,rfl⟩:=ha (by omega);have d:=zh c;clear hf c ha hn;go_enter Tryz.func153,Tryz.ntmps153;go_wp2_with fail;go_ret;exact⟨rfl,.inl ⟨k,g,d.o,rfl,by first|rfl|simp⟩⟩
end book
end Go.Proofs.YtoepgdhiepedeaaGreatDoor
