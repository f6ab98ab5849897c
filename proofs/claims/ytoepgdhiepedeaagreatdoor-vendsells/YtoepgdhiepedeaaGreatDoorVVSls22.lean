import Derived.Test.YtoepgdhiepedeaaGreatDoorVVSls12
import Derived.Test.YtoepgdhiepedeaaGreatDoorVVSls20
set_option linter.unusedVariables false
set_option linter.unusedSimpArgs false
set_option maxHeartbeats 4000000
set_option maxRecDepth 100000
namespace Go.Proofs.YtoepgdhiepedeaaGreatDoor
namespace book
open Go.RowKit
theorem ws_low{w:World}{base base':Nat}{v:Value}{l:List Int}(h:cell.Ws w base v l)(hb:base'≤base):cell.Ws w base' v l:=by
 refine⟨h.1,?_⟩;rcases h.2 with d|⟨g,a,b,e,c,rest⟩
 ·exact .inl d
 ·exact .inr ⟨g,a,b,e,Nat.le_trans hb c,rest⟩
def EncPost(w:World)(v:Ev)(e:Ending)(w':World):Prop:=∃V ws f,e=.returned (.tuple #[V,zI f])∧EncIs v ws f∧cell.Ws w' w.heap.size V ws∧zB w w'
theorem evL_step(v:Ev)(k:Nat)(hk:k<13):(evL v).take k++[(evL v).getD k 0]=(evL v).take (k+1):=by
 have a:k<(evL v).length:=by rw[evL_len];exact hk
 rw[List.take_succ_eq_append_getElem a];simp[List.getD,List.getElem?_eq_getElem a]
theorem rencoded(v:Ev)(w:World):Calls Tryz.prog 57 #[v.v] w λe w'=>EncPost w v e w':=by
 have Q:Hid (∀W,zC 83 #[.agg #[zI v.kd,zI v.me,zI v.mo,zI v.id,zI v.te,zI v.de,zI v.fe,zI v.pr,zI v.ch,zI v.un,zI v.tg,zI v.ow,zI v.bp]] W λe w'=>MayPost W v e w'):=λW=>rmay v W;have T:=zye w #[zI v.kd,zI v.me,zI v.mo,zI v.id,zI v.te,zI v.de,zI v.fe,zI v.pr,zI v.ch,zI v.un,zI v.tg,zI v.ow,zI v.bp] 44;have I:Hid (zB w (w.alloc (.cells #[zI v.kd,zI v.me,zI v.mo,zI v.id,zI v.te,zI v.de,zI v.fe,zI v.pr,zI v.ch,zI v.un,zI v.tg,zI v.ow,zI v.bp] 44))):=zb.alloc zc _;have ah:(w.alloc (.cells #[zI v.kd,zI v.me,zI v.mo,zI v.id,zI v.te,zI v.de,zI v.fe,zI v.pr,zI v.ch,zI v.un,zI v.tg,zI v.ow,zI v.bp] 44)).cell? ⟨w.heap.size,0,none⟩=some (zI v.kd):=(Blk.new w _ _).cell 0;have ai:(w.alloc (.cells #[zI v.kd,zI v.me,zI v.mo,zI v.id,zI v.te,zI v.de,zI v.fe,zI v.pr,zI v.ch,zI v.un,zI v.tg,zI v.ow,zI v.bp] 44)).cell? ⟨w.heap.size,1,none⟩=some (zI v.me):=(Blk.new w _ _).cell 1;have aj:(w.alloc (.cells #[zI v.kd,zI v.me,zI v.mo,zI v.id,zI v.te,zI v.de,zI v.fe,zI v.pr,zI v.ch,zI v.un,zI v.tg,zI v.ow,zI v.bp] 44)).cell? ⟨w.heap.size,2,none⟩=some (zI v.mo):=(Blk.new w _ _).cell 2;have ag:(w.alloc (.cells #[zI v.kd,zI v.me,zI v.mo,zI v.id,zI v.te,zI v.de,zI v.fe,zI v.pr,zI v.ch,zI v.un,zI v.tg,zI v.ow,zI v.bp] 44)).cell? ⟨w.heap.size,3,none⟩=some (zI v.id):=(Blk.new w _ _).cell 3;have am:(w.alloc (.cells #[zI v.kd,zI v.me,zI v.mo,zI v.id,zI v.te,zI v.de,zI v.fe,zI v.pr,zI v.ch,zI v.un,zI v.tg,zI v.ow,zI v.bp] 44)).cell? ⟨w.heap.size,4,none⟩=some (zI v.te):=(Blk.new w _ _).cell 4;have ae:(w.alloc (.cells #[zI v.kd,zI v.me,zI v.mo,zI v.id,zI v.te,zI v.de,zI v.fe,zI v.pr,zI v.ch,zI v.un,zI v.tg,zI v.ow,zI v.bp] 44)).cell? ⟨w.heap.size,5,none⟩=some (zI v.de):=(Blk.new w _ _).cell 5;have af:(w.alloc (.cells #[zI v.kd,zI v.me,zI v.mo,zI v.id,zI v.te,zI v.de,zI v.fe,zI v.pr,zI v.ch,zI v.un,zI v.tg,zI v.ow,zI v.bp] 44)).cell? ⟨w.heap.size,6,none⟩=some (zI v.fe):=(Blk.new w _ _).cell 6
 have al:(w.alloc (.cells #[zI v.kd,zI v.me,zI v.mo,zI v.id,zI v.te,zI v.de,zI v.fe,zI v.pr,zI v.ch,zI v.un,zI v.tg,zI v.ow,zI v.bp] 44)).cell? ⟨w.heap.size,7,none⟩=some (zI v.pr):=(Blk.new w _ _).cell 7;have ad:(w.alloc (.cells #[zI v.kd,zI v.me,zI v.mo,zI v.id,zI v.te,zI v.de,zI v.fe,zI v.pr,zI v.ch,zI v.un,zI v.tg,zI v.ow,zI v.bp] 44)).cell? ⟨w.heap.size,8,none⟩=some (zI v.ch):=(Blk.new w _ _).cell 8;have ao:(w.alloc (.cells #[zI v.kd,zI v.me,zI v.mo,zI v.id,zI v.te,zI v.de,zI v.fe,zI v.pr,zI v.ch,zI v.un,zI v.tg,zI v.ow,zI v.bp] 44)).cell? ⟨w.heap.size,9,none⟩=some (zI v.un):=(Blk.new w _ _).cell 9;have an:(w.alloc (.cells #[zI v.kd,zI v.me,zI v.mo,zI v.id,zI v.te,zI v.de,zI v.fe,zI v.pr,zI v.ch,zI v.un,zI v.tg,zI v.ow,zI v.bp] 44)).cell? ⟨w.heap.size,10,none⟩=some (zI v.tg):=(Blk.new w _ _).cell 10;have ak:(w.alloc (.cells #[zI v.kd,zI v.me,zI v.mo,zI v.id,zI v.te,zI v.de,zI v.fe,zI v.pr,zI v.ch,zI v.un,zI v.tg,zI v.ow,zI v.bp] 44)).cell? ⟨w.heap.size,11,none⟩=some (zI v.ow):=(Blk.new w _ _).cell 11;have ac:(w.alloc (.cells #[zI v.kd,zI v.me,zI v.mo,zI v.id,zI v.te,zI v.de,zI v.fe,zI v.pr,zI v.ch,zI v.un,zI v.tg,zI v.ow,zI v.bp] 44)).cell? ⟨w.heap.size,12,none⟩=some (zI v.bp):=(Blk.new w _ _).cell 12;unfold Ev.v;go_enter Tryz.func57,Tryz.ntmps57;go_wp2_with fail;refine(Q.o _).mono ?_;rintro e w1 ⟨B,rfl,G,t⟩;have a:=shN T t;have g:=shB I t;clear t ah ai aj ag am ae af al ad ao an ak ac;cases B with
 |false=>
  have M:Hid (EncIs v [] 5):=.inr ⟨λh=>absurd (G.2 h) (by decide),rfl,rfl⟩;clear G;go_wp2_with fail;go_ret2;exact⟨_,[],5,rfl,M.o,cell.Ws.zero _ _,g.o⟩
 |true=>
  have hm:EMay v:=G.1 rfl;have HM:Hid (EMay v):=hm;have R:Hid (∀x∈evL v,0≤x∧x<4294967296):=may_word hm;clear G hm;have m:=zy0 a;have n:=zy1 a;have p:=zy2 a;have a6:=zy3 a;have a8:=zy4 a;have a4:=zy5 a;have a5:=zy6 a;have a7:=zy7 a;have a3:=zy8 a;have a9:=zy9 a;have r:=zy10 a;have q:=zy11 a;have l:=zy12 a;obtain⟨W2,d,b,b,-⟩:=sh1 w1 #[zI v.id,zI v.te,zI v.de,zI v.fe,zI v.pr,zI v.ch,zI v.un] 33;have c:=shN a b.o;have J:=shB g b.o;go_upto_region 4 with fail
  rw[d.o];clear d b;generalize w1.heap.size=gb at *;clear a g m n p a6 a8 a4 a5 a7 a3 a9 r q l;have m:=zy0 c;have n:=zy1 c;have p:=zy2 c;have r:=zy10 c;have q:=zy11 c;have l:=zy12 c;have Z:=zy0 b;have a1:=zy1 b;have X:=zy2 b;have Y:=zy3 b;have a0:=zy4 b;have U:=zy5 b;have a2:=zy6 b;obtain⟨W3,d,A,b,-⟩:=sh1 W2 #[zI v.kd,zI v.me,zI v.mo,zI v.id,zI v.te,zI v.de,zI v.fe,zI v.pr,zI v.ch,zI v.un,zI v.tg,zI v.ow,zI v.bp] 3;have j:=shB J b.o;go_upto_region 7 with fail
  rw[d.o];clear d b;generalize W2.heap.size=gl at *;clear m n p r q l Z a1 X Y a0 U a2
  have N:Hid (∀k,k<13→(#[zI v.kd,zI v.me,zI v.mo,zI v.id,zI v.te,zI v.de,zI v.fe,zI v.pr,zI v.ch,zI v.un,zI v.tg,zI v.ow,zI v.bp]:Array Value)[k]?=some (zI ((evL v).getD k 0))):=λk hk=>by
   match k,hk with
   |0,_=>rfl
   |1,_=>rfl
   |2,_=>rfl
   |3,_=>rfl
   |4,_=>rfl
   |5,_=>rfl
   |6,_=>rfl
   |7,_=>rfl
   |8,_=>rfl
   |9,_=>rfl
   |10,_=>rfl
   |11,_=>rfl
   |12,_=>rfl
  go_loopw [6,7] (λu i wr=>∃(k:Nat)(V:Value),V=u∧k≤13∧i=zI (k:Int)∧cell.Ws wr W3.heap.size V ((evL v).take k)∧zB W3 wr) (λ_ i _=>13-(intOf i).toNat)
  case atStart=>exact⟨0,_,rfl,Nat.zero_le _,rfl,cell.Ws.zero _ _,zb⟩
  case round=>
   obtain⟨k,V,hV,hk,rfl,f,H⟩:=hrel;subst hV;have HO:=zh f;have F:=zh H;have ap:=zh A.o.lt;by_cases y:k<13
   ·have ab:decide ((k:Int)<13)=true:=by simp;omega
    have aa:=((A.o.next H).cell k).trans (N.o k y);have HD:=zh (evL_step v k y)
    have hz:=R.o ((evL v).getD k 0) (by
     have hl:k<(evL v).length:=by rw[evL_len];exact y
     rw [List.getD_eq_getElem?_getD,List.getElem?_eq_getElem hl];exact List.getElem_mem hl)
    obtain⟨ar,au⟩:=hz;have P:Hid (((evL v).take k).length≤1000000):=by show _≤_;rw[List.length_take,evL_len];omega
    clear f H;generalize (evL v).getD k 0=z at *;generalize (evL v).take k=fs at *;have HG:Hid ((wr.alloc (.cells #[.int .u32 z] 83)).cell? ⟨wr.heap.size,0,none⟩=some (.int .u32 z)):=(Blk.new wr _ _).cell 0;have C:Hid (cell.Ws (wr.alloc (.cells #[.int .u32 z] 83)) W3.heap.size V fs):=HO.o.alloc _;have D:Hid (W3.heap.size≤(wr.alloc (.cells #[.int .u32 z] 83)).heap.size):=cell.alloc_le F.o.size _;have aq:IntKind.u32.wrap z=z:=by rw[IntKind.wrap_u32];omega
    go_wp2_with (first
     |(at_builtin;refine cell.wp_word rfl _ _ rfl W3.heap.size wr.heap.size _ fs z rfl rfl C.o HG.o P.o D.o ?_)
     | fail)
    intro v' w4 s E;have O:Hid (cell.Ws w4 W3.heap.size v' ((evL v).take (k+1))):=by have:=HD.o;rw[this] at s;exact s
    have K:Hid (zB W3 w4):=cell.own_bel C.o E (F.o.alloc F.o.size _) zc D.o;clear s E;go_wp2_with fail;go_roundw
    case rel=>exact⟨k+1,_,rfl,by omega,by go_num,O.o,K.o⟩
    case measure=>simp[intOf];omega
   ·obtain rfl:k=13:=by omega
    have M:Hid (EncIs v (evL v) 0):=.inl ⟨HM.o,rfl,rfl⟩;have S:Hid (cell.Ws wr W3.heap.size V (evL v)):=by have:=HO.o;rw[List.take_of_length_le (by rw[evL_len];exact zc)] at this;exact this
    have L:=zh (j.o.trans (F.o.mono j.o.size));have ab:decide ((13:Int)<13)=false:=by decide
    clear f H;go_wp2_with fail;go_ret2;exact⟨V,evL v,0,rfl,M.o,ws_low S.o j.o.size,L.o⟩
end book
namespace ora
open Go.RowKit
theorem copy_any(a:Option Addr)(n cap:Nat)(l:List Pr)(w:World)(hr:RowP w a n l)(hn:n≤500):
  Calls Tryz.prog 55 #[.agg #[.slice a n cap]] w λe w'=>GaveO w l e w':=by
 have F:Hid (Bo w ((w.alloc (.cells #[.slice a n cap] 28)).alloc (.cells #[zS] 28)) a n cap l):=(Bo.new hr).alloc _;have K:Hid (Blk ((w.alloc (.cells #[.slice a n cap] 28)).alloc (.cells #[zS] 28)) (w.heap.size+1) #[zS] 28):=Blk.new1 w _ _ _;have N:Hid (l.length=n):=hr.1;have I:Hid (RowP w a n l):=hr;clear hr;go_enter Tryz.func55,Tryz.ntmps55;go_wp2_with fail;generalize (w.alloc (.cells #[.slice a n cap] 28)).alloc (.cells #[zS] 28)=W0 at *;go_loopw [3,4] (λv j wr=>∃(k:Nat)(V:Value),V=v∧k≤n∧j=zI (k:Int)∧Pw wr (w.heap.size+2) V (l.take k)∧Bo w wr a n cap l∧Blk wr (w.heap.size+1) #[zS] 28) (λ_ j _=>n-(intOf j).toNat)
 case atStart=>exact⟨0,_,rfl,Nat.zero_le _,rfl,Pw.zero _ _,F.o,K.o⟩
 case round=>
  obtain⟨k,V,L,hk,rfl,h,B,R⟩:=hrel;subst L;have d:Hid (Bo w wr a n cap l∧Blk wr (w.heap.size+1) #[zS] 28):=⟨B,R⟩
  have O:Hid (Pw wr (w.heap.size+2) V (l.take k)):=h;clear B R h;have c0:=d.o.1.box.cell 0;by_cases C:k<n
  ·obtain⟨P,D,rfl,lb,Q⟩:=d.o.1.row.at (by omega);obtain⟨Y,Z,f2,f3⟩:=Q k C;have S:Hid (l.take k++[⟨(l.getD k pr0).m,(l.getD k pr0).r,(l.getD k pr0).b,(l.getD k pr0).t⟩]=l.take (k+1)):=take_nextP l k (by rw[N.o];exact C);have H:Hid ((l.take k).length≤1000000):=by show _≤_;rw[List.length_take];omega
   clear Q lb;generalize (l.getD k pr0).m=u at *;generalize (l.getD k pr0).r=c at *;generalize (l.getD k pr0).b=s at *;generalize (l.getD k pr0).t=x at *;have T:Hid (PrAt (wr.alloc (.cells #[zI u,zI c,zI s,zI x] 87)) wr.heap.size 0 ⟨u,c,s,x⟩):=pr_cell wr _ _ _ _;have f:Hid (Pw (wr.alloc (.cells #[zI u,zI c,zI s,zI x] 87)) (w.heap.size+2) V (l.take k)):=O.o.alloc _;have A:Hid (w.heap.size+2≤(wr.alloc (.cells #[zI u,zI c,zI s,zI x] 87)).heap.size):=palloc_le d.o.2.lt _;have i:Hid (Bo w (wr.alloc (.cells #[zI u,zI c,zI s,zI x] 87)) (some ⟨P,D,none⟩) n cap l∧Blk (wr.alloc (.cells #[zI u,zI c,zI s,zI x] 87)) (w.heap.size+1) #[zS] 28):=⟨d.o.1.alloc _,d.o.2.alloc _⟩
   go_wp2_with (first
    |(at_builtin;refine wp_pr rfl _ _ rfl (w.heap.size+2) wr.heap.size _ (l.take k) ⟨u,c,s,x⟩ rfl rfl f.o T.o H.o A.o ?_)
    | go_in)
   intro v' E p g;have q:zB w E:=pown_bel f.o g i.o.1.bel (by omega) (by have:=A.o;omega);have G:Hid (Pw E (w.heap.size+2) v' (l.take (k+1))):=by have:=S.o;rw[this] at p;exact p
   have y:Hid (Bo w E (some ⟨P,D,none⟩) n cap l∧Blk E (w.heap.size+1) #[zS] 28):=⟨⟨Blk.pgrown i.o.1.box g (pown_far f.o (by omega)),I.o.below q,q⟩,Blk.pgrown i.o.2 g (pown_far f.o (by omega))⟩
   clear p g q Y Z f2 f3 c0;go_wp2_with fail;go_roundw
   case rel=>exact⟨k+1,_,rfl,by omega,by go_num,G.o,y.o.1,y.o.2⟩
   case measure=>simp[intOf];omega
  ·obtain rfl:n=k:=by omega
   have z:Hid (Pw wr (w.heap.size+2) V l):=by have:=O.o;rw[List.take_of_length_le (by rw[N.o];exact zc)] at this;exact this
   have z0:=d.o.2.cell 0;have y0:=d.o.2.free 0;have J:=d.o.2.set 0 V;have U:Hid (_=_):=J.cell 0;have M:Hid (Pw (wr.setCell ⟨w.heap.size+1,0,none⟩ V) w.heap.size V l∧zB w (wr.setCell ⟨w.heap.size+1,0,none⟩ V)):=⟨(z.o.put _ _ _ (by omega)).low (by omega),bel_set d.o.1.bel _ _ _ (by omega)⟩
   obtain⟨W,X,L,_,_,_⟩:=z.o.row;subst L;go_wp2_with fail;exact bodyPost_ret (v:=.agg #[.slice W l.length X]) (by simp[results,Tryz.results55,U.o,go_sem]) rfl ⟨_,rfl,M.o.1,M.o.2⟩
set_option maxRecDepth 100000
theorem step_pr {w : World} {ops : Array Oper} {o : Oper} {a : Act} {K : Act → World → Prop} {Q : Exit → Act → World → Prop} {E : Prop} (hgd : o.guard = none) (s x : Operand)
  (ho : o.op = .call { callee := .builtin .append, args := #[s, x], argTypes := #[26, 26] })
  (base G : Nat) (v : Value) (l : List Pr) (r : Pr) (hs : a.eval s = v) (hx : a.eval x = .slice (some ⟨G, 0, none⟩) 1 1) (hv : Pw w base v l) (hu : PrAt w G 0 r) (hn : l.length ≤ 1000000) (hbase : base ≤ w.heap.size)
  (h : ∀ v' w', Pw w' base v' (l ++ [r]) → w.grownBy w' v.ownBlock → K (a.put o.dst v') w') : if Region.wanted o (yielded ops a.tmps) = true then Oper.wp Tryz.prog o a w K Q else E := by
 have m : Region.wanted o (yielded ops a.tmps) = true := by simp [Region.wanted, hgd]
 rw [if_pos m]
 obtain ⟨n, i, c, d, e⟩ := info_parts info_pr
 obtain ⟨v', w', k, f, g, _⟩ := run_append_own (P := Tryz.prog) w base 26 o.type 87 n (.agg #[.int .i64 0, .int .i64 0, .int .i64 0, .int .i64 0]) 4 32 Tryz.underlying26 i c d e rfl (by decide) v l.length (cellsP l) hv ⟨G, 0, none⟩ 1 1 (cellsP [r]) rfl (by
  intro j u b
  match j, b with
  | 0, b => simp [cellsP] at b; subst b; simpa [Addr.add] using hu.1
  | 1, b => simp [cellsP] at b; subst b; simpa [Addr.add] using hu.2.1
  | 2, b => simp [cellsP] at b; subst b; simpa [Addr.add] using hu.2.2.1
  | 3, b => simp [cellsP] at b; subst b; simpa [Addr.add] using hu.2.2.2
  | j + 4, b => simp [cellsP] at b) (oneP [r]) (by unfold maxLen; omega) (by omega) hbase
 unfold Oper.wp execOp
 simp only [ho, resolve, invoke, builtin, Sem.run_bind, Sem.run_pure, Result.andThen_ok, List.map_toArray, List.map_cons, List.map_nil, hs, hx, k]
 refine h v' w' ?_ g
 unfold Pw
 rw [List.length_append, cellsP_app]
 exact f
def IssueQ (w : World) (l : List Pr) (m r b d : Int) (e : Ending) (w' : World) : Prop :=
 ∃ v ls x c, e = .returned (.tuple #[.agg #[v], .int .i64 x, .int .i64 c]) ∧ Pw w' w.heap.size v ls ∧ IssueIs l m r b d ls x c ∧ zB w w'
theorem Pw.lies {w : World} {base : Nat} {v : Value} {l : List Pr} (h : Pw w base v l) : ∃ a cap, v = .slice a l.length cap ∧ RowP w a l.length l ∧ (a = none → cap = 0) ∧ l.length ≤ cap ∧ (∀ y, a = some y → base ≤ y.block ∧ y.block < w.heap.size) := by
 obtain ⟨a, cap, b, c, d, e⟩ := h.row
 refine ⟨a, cap, b, c, d, e, fun y f => ?_⟩
 subst f
 have := World.ownsRow.lt h y.block (by rw [b]; rfl)
 exact ⟨this.1, this.2⟩
structure Bj (w wr : World) (a : Option Addr) (n cap : Nat) (l : List Pr) (G : Nat) (m r b d : Int) : Prop where
 bi : Bi w wr a n cap l
 pr : Blk wr G #[.int .i64 m, .int .i64 r, .int .i64 b, .int .i64 d] 87
theorem Bj.next {w wr w' : World} {a : Option Addr} {n cap : Nat} {l : List Pr} {G : Nat} {m r b d : Int} (h : Bj w wr a n cap l G m r b d) (hb : zB wr w') : Bj w w' a n cap l G m r b d := ⟨h.bi.next hb, h.pr.next hb⟩
theorem Bj.alloc {w wr : World} {a : Option Addr} {n cap : Nat} {l : List Pr} {G : Nat} {m r b d : Int} (h : Bj w wr a n cap l G m r b d) (o : Obj) : Bj w (wr.alloc o) a n cap l G m r b d := h.next (zb.alloc zc _)
theorem Bj.drew {w wr : World} {a : Option Addr} {n cap : Nat} {l : List Pr} {G : Nat} {m r b d : Int} (h : Bj w wr a n cap l G m r b d) (q : Nat) : Bj w (wr.drewN q) a n cap l G m r b d := h.next (bel_drew zb q)
theorem Bj.cells {w wr : World} {a : Option Addr} {n cap : Nat} {l : List Pr} {G : Nat} {m r b d : Int} (h : Bj w wr a n cap l G m r b d) : wr.cell? ⟨w.heap.size, 0, none⟩ = some (.slice a n cap) ∧ wr.cell? ⟨G, 0, none⟩ = some (.int .i64 m) ∧ wr.cell? ⟨G, 0 + 1, none⟩ = some (.int .i64 r) ∧ wr.cell? ⟨G, 0 + 2, none⟩ = some (.int .i64 b) ∧ wr.cell? ⟨G, 0 + 3, none⟩ = some (.int .i64 d) :=
 ⟨h.bi.bo.box.cell 0, h.pr.cell 0, h.pr.cell 1, h.pr.cell 2, h.pr.cell 3⟩
theorem Bj.ne {w wr : World} {a : Option Addr} {n cap : Nat} {l : List Pr} {G : Nat} {m r b d : Int} (h : Bj w wr a n cap l G m r b d) : w.heap.size + 1 ≠ G := by
 rintro rfl
 have e := h.pr; have c := h.bi.out
 unfold Blk at e c
 rw [e] at c; simp at c
theorem Bj.put {w wr : World} {a : Option Addr} {n cap : Nat} {l : List Pr} {G : Nat} {m r b d : Int} (h : Bj w wr a n cap l G m r b d) (u : Value) : (wr.setCell ⟨w.heap.size + 1, 0, none⟩ u).cell? ⟨w.heap.size, 0, none⟩ = some (.slice a n cap) ∧ (wr.setCell ⟨w.heap.size + 1, 0, none⟩ u).cell? ⟨G, 0, none⟩ = some (.int .i64 m) ∧ (wr.setCell ⟨w.heap.size + 1, 0, none⟩ u).cell? ⟨G, 0 + 1, none⟩ = some (.int .i64 r) ∧ (wr.setCell ⟨w.heap.size + 1, 0, none⟩ u).cell? ⟨G, 0 + 2, none⟩ = some (.int .i64 b) ∧ (wr.setCell ⟨w.heap.size + 1, 0, none⟩ u).cell? ⟨G, 0 + 3, none⟩ = some (.int .i64 d) := by
 have e := Blk.other h.bi.bo.box 0 u (G' := w.heap.size + 1) (by omega)
 have c := Blk.other h.pr 0 u h.ne
 exact ⟨e.cell 0, c.cell 0, c.cell 1, c.cell 2, c.cell 3⟩
structure En (w W : World) (v : Value) (ls : List Pr) : Prop where
 pw : Pw W w.heap.size v ls
 cell : W.cell? ⟨w.heap.size + 1, 0, none⟩ = some v
 bel : zB w W
theorem En.of {w w6 : World} {a : Option Addr} {n cap : Nat} {l : List Pr} {v : Value} {ls : List Pr} (hi : Bi w w6 a n cap l) (hp : Pw w6 w.heap.size v ls) : En w (w6.setCell ⟨w.heap.size + 1, 0, none⟩ v) v ls :=
 ⟨hp.put2 hi.out (by decide) 0 v, by have := (hi.out.set 0 v).cell 0; exact this, bel_set hi.bo.bel _ _ _ (by omega)⟩
set_option maxHeartbeats 2000000 in
theorem poi (a : Option Addr) (n cap : Nat) (l : List Pr) (m r b d : Int) (w : World) (hr : RowP w a n l) :
  Calls Tryz.prog 75 #[.agg #[.slice a n cap], .int .i64 m, .int .i64 r, .int .i64 b, .int .i64 d] w fun e w' => IssueQ w l m r b d e w' := by
 have HB0 : Hid (Bi w ((w.alloc (.cells #[.slice a n cap] 28)).alloc (.cells #[.slice none 0 0] 28)) a n cap l) := ⟨(Bo.new hr).alloc _, Blk.new1 w _ _ _⟩
 have HL := zh hr.1
 have HG : Hid (∀ W, RowP W a n l → Calls Tryz.prog 114 #[.agg #[.slice a n cap]] W fun e w' => Given W l e w') := fun W h => given_any a n cap l W h
 have HCL : Hid (∀ W, n ≤ 500 → RowP W a n l → Calls Tryz.prog 117 #[.slice a n cap] W fun e w' => GaveV W l e w') := fun W h0 h => pclone_any a n cap l W h (by omega)
 have HPM : Hid (∀ W, Calls Tryz.prog 115 #[.agg #[.int .i64 m, .int .i64 r, .int .i64 b, .int .i64 d]] W fun e w' => Told W (Pr.mk m r b d).may e w') := fun W => within_any m r b d W
 have HOF : Hid (∀ W, Calls Tryz.prog 116 #[.agg #[.int .i64 m, .int .i64 r, .int .i64 b, .int .i64 d]] W fun e w' => e = .returned (.agg #[.int .i64 m, .int .i64 r, .int .i64 b]) ∧ Below W.heap.size W w') := fun W => of_any m r b d W
 clear hr
 have c0 := HB0.out.bo.box.cell 0
 go_enter Tryz.func75, Tryz.ntmps75
 go_wp2_with fail
 refine (HG.out _ HB0.out.bo.row).mono ?_
 rintro e w1 ⟨hb1, ⟨hm, B, rfl, hmp⟩ | ⟨hm, rfl⟩⟩
 ·have HI1 := zh (HB0.out.next hb1)
  have hn : n ≤ 500 := by rw [← HL.out]; exact hm.few
  have HMY := zh hm
  have HJ2 : Hid (Bj w (w1.alloc (.cells #[.int .i64 m, .int .i64 r, .int .i64 b, .int .i64 d] 87)) a n cap l w1.heap.size m r b d) := ⟨HI1.out.alloc _, Blk.new w1 _ _⟩
  have HM2 : Hid (Mp (w1.alloc (.cells #[.int .i64 m, .int .i64 r, .int .i64 b, .int .i64 d] 87)) B l) := hmp.below ((Below.refl _ _).alloc (Nat.le_refl _) _)
  have p0 := HJ2.out.pr.cell 0
  have p1 := HJ2.out.pr.cell 1
  have p2 := HJ2.out.pr.cell 2
  have p3 := HJ2.out.pr.cell 3
  clear hb1 hm hmp c0
  go_wp2_with fail
  refine (HPM.out _).mono ?_
  rintro e w2 ⟨rr, rfl, hrr, hb2⟩
  have HJ3 := zh (HJ2.out.next hb2)
  have HM3 := zh (HM2.out.below hb2)
  clear hb2 p0 p1 p2 p3
  generalize w1.heap.size = gp at *
  have z0 := HJ3.out.bi.out.cell 0
  have y0 := HJ3.out.bi.out.free 0
  cases rr with
  | false =>
   have HN : Hid (¬ (Pr.mk m r b d).may) := fun h => by have := hrr.2 h; cases this
   have HE : Hid (En w (w2.setCell ⟨w.heap.size + 1, 0, none⟩ (.slice none 0 0)) (.slice none 0 0) []) := En.of HJ3.out.bi (Pw.zero _ _)
   have R0 : Hid (_ = _) := HE.out.cell
   clear hrr
   go_wp2_with fail
   exact zr (.tuple #[.agg #[.slice none 0 0], .int .i64 0, .int .i64 2]) (by simp [results, Tryz.results75, R0.out, go_sem]) ⟨_, [], 0, 2, rfl, HE.out.pw, .inr (.inl ⟨HMY.out, HN.out, rfl, rfl, rfl⟩), HE.out.bel⟩
  | true =>
   have HPY : Hid ((Pr.mk m r b d).may) := hrr.1 rfl
   clear hrr z0 y0
   have p0 := HJ3.out.pr.cell 0
   have p1 := HJ3.out.pr.cell 1
   have p2 := HJ3.out.pr.cell 2
   have p3 := HJ3.out.pr.cell 3
   go_wp2_with fail
   refine (HOF.out _).mono ?_
   rintro e w3 ⟨rfl, hb3⟩
   have HJ4 := zh (HJ3.out.next hb3)
   have hlk := look_run (HM3.out.below hb3) m r b
   clear hb3 p0 p1 p2 p3
   have c0 := HJ4.out.bi.bo.box.cell 0
   rcases find_or l m r b with ⟨i, hi⟩ | hno
   ·rw [look_at hi] at hlk
    simp only [Option.getD_some, Option.isSome_some] at hlk
    have HAT : Hid (∃ i, At l m r b i ∧ (l.getD i pr0).t = (l.getD i pr0).t) := ⟨i, hi, rfl⟩
    have HIS : Hid (IssueIs l m r b d l (l.getD i pr0).t 0) := .inr (.inr (.inl ⟨HMY.out, HPY.out, ⟨i, hi, rfl⟩, rfl, rfl⟩))
    clear hi
    generalize (l.getD i pr0).t = pt at *
    go_wp2_with fail
    refine (HCL.out _ hn HJ4.out.bi.bo.row).mono ?_
    rintro e w4 ⟨v4, rfl, hp4, hb4⟩
    have HI5 := zh (HJ4.out.bi.next hb4)
    have hp5 := hp4.low HJ4.out.bi.bo.bel.size
    obtain ⟨a4, k4, rfl, _⟩ := hp5.lies
    have HE := zh (En.of HI5.out hp5)
    have R0 : Hid (_ = _) := HE.out.cell
    have z0 := HI5.out.out.cell 0
    have y0 := HI5.out.out.free 0
    clear hb4 hp4 hp5 c0 hlk
    generalize l.length = ln at *
    go_wp2_with fail
    exact zr (.tuple #[.agg #[.slice a4 ln k4], .int .i64 pt, .int .i64 0]) (by simp [results, Tryz.results75, R0.out, go_sem]) ⟨_, l, pt, 0, rfl, HE.out.pw, HIS.out, HE.out.bel⟩
   ·rw [look_no hno] at hlk
    simp only [Option.getD_none, Option.isSome_none] at hlk
    have HNO : Hid (No l m r b) := hno
    clear hno
    by_cases h5 : n = 500
    ·have hq : ((n : Int) == 500) = true := by simp; omega
     have HL5 : Hid (l.length = 500) := by rw [← h5]; exact HL.out
     have HE : Hid (En w (w3.setCell ⟨w.heap.size + 1, 0, none⟩ (.slice none 0 0)) (.slice none 0 0) []) := En.of HJ4.out.bi (Pw.zero _ _)
     have R0 : Hid (_ = _) := HE.out.cell
     have z0 := HJ4.out.bi.out.cell 0
     have y0 := HJ4.out.bi.out.free 0
     clear h5
     go_wp2_with fail
     exact zr (.tuple #[.agg #[.slice none 0 0], .int .i64 0, .int .i64 16]) (by simp [results, Tryz.results75, R0.out, go_sem]) ⟨_, [], 0, 16, rfl, HE.out.pw, .inr (.inr (.inr (.inl ⟨HMY.out, HPY.out, HNO.out, HL5.out, rfl, rfl, rfl⟩))), HE.out.bel⟩
    ·have hq : ((n : Int) == 500) = false := by simp; omega
     have HL5 : Hid (l.length < 500) := by have := HL.out; show _ < _; omega
     have HLN : Hid (l.length ≤ 1000000) := by have := HL5.out; show _ ≤ _; omega
     have HIS : Hid (IssueIs l m r b d (l ++ [⟨m, r, b, d⟩]) d 0) := .inr (.inr (.inr (.inr ⟨HMY.out, HPY.out, HNO.out, HL5.out, rfl, rfl, rfl⟩)))
     obtain ⟨l2, hl2⟩ : ∃ l2, l2 = l ++ [Pr.mk m r b d] := ⟨_, rfl⟩
     have HL2 : Hid (l2 = l ++ [Pr.mk m r b d]) := hl2
     rw [← hl2] at HIS
     clear hl2
     have HJD : Hid (Bj w w3.drew a n cap l gp m r b d) := HJ4.out.drew 1
     have HRD : Hid (RowP w3.drew a n l) := HJD.out.bi.bo.row
     have HBD : Hid (Below w3.heap.size w3 w3.drew) := bel_drew (Below.refl _ _) 1
     have HJX : Hid (Bj w (w3.alloc (.cells #[.int .i64 m, .int .i64 r, .int .i64 b, .int .i64 d] 87)).drew a n cap l gp m r b d) := (HJ4.out.alloc _).drew 1
     have HRX : Hid (RowP (w3.alloc (.cells #[.int .i64 m, .int .i64 r, .int .i64 b, .int .i64 d] 87)).drew a n l) := HJX.out.bi.bo.row
     have HBX : Hid (Below w3.heap.size w3 (w3.alloc (.cells #[.int .i64 m, .int .i64 r, .int .i64 b, .int .i64 d] 87)).drew) := bel_drew ((Below.refl _ _).alloc (Nat.le_refl _) _) 1
     have HPX : Hid (PrAt (w3.alloc (.cells #[.int .i64 m, .int .i64 r, .int .i64 b, .int .i64 d] 87)).drew w3.heap.size 0 ⟨m, r, b, d⟩) := pr_cell w3 m r b d
     have HWW : Hid (w.heap.size ≤ w3.heap.size) := HJ4.out.bi.bo.bel.size
     have KD : Hid (w3.drew.cell? ⟨w.heap.size, 0, none⟩ = some (.slice a n cap) ∧ w3.drew.cell? ⟨gp, 0, none⟩ = some (.int .i64 m) ∧ w3.drew.cell? ⟨gp, 0 + 1, none⟩ = some (.int .i64 r) ∧ w3.drew.cell? ⟨gp, 0 + 2, none⟩ = some (.int .i64 b) ∧ w3.drew.cell? ⟨gp, 0 + 3, none⟩ = some (.int .i64 d)) := HJD.out.cells
     have KX : Hid ((w3.alloc (.cells #[.int .i64 m, .int .i64 r, .int .i64 b, .int .i64 d] 87)).drew.cell? ⟨w.heap.size, 0, none⟩ = some (.slice a n cap) ∧ (w3.alloc (.cells #[.int .i64 m, .int .i64 r, .int .i64 b, .int .i64 d] 87)).drew.cell? ⟨gp, 0, none⟩ = some (.int .i64 m) ∧ (w3.alloc (.cells #[.int .i64 m, .int .i64 r, .int .i64 b, .int .i64 d] 87)).drew.cell? ⟨gp, 0 + 1, none⟩ = some (.int .i64 r) ∧ (w3.alloc (.cells #[.int .i64 m, .int .i64 r, .int .i64 b, .int .i64 d] 87)).drew.cell? ⟨gp, 0 + 2, none⟩ = some (.int .i64 b) ∧ (w3.alloc (.cells #[.int .i64 m, .int .i64 r, .int .i64 b, .int .i64 d] 87)).drew.cell? ⟨gp, 0 + 3, none⟩ = some (.int .i64 d)) := HJX.out.cells
     clear h5
     go_wp2_with fail
     clear hlk hq c0
     go_region_held_law (fun v => v.cell? ⟨w.heap.size, 0, none⟩ = some (.slice a n cap) ∧ v.cell? ⟨gp, 0, none⟩ = some (.int .i64 m) ∧ v.cell? ⟨gp, 0 + 1, none⟩ = some (.int .i64 r) ∧ v.cell? ⟨gp, 0 + 2, none⟩ = some (.int .i64 b) ∧ v.cell? ⟨gp, 0 + 3, none⟩ = some (.int .i64 d))
      (first | with_reducible exact KD.out | with_reducible exact KX.out | with_reducible exact K5.out | with_reducible exact K6.out | with_reducible exact K7.out | with_reducible exact K8.out)
      (first
       | (go_at_call 117; refine (HCL.out _ hn (by with_reducible exact HRD.out)).mono ?_; rintro e w5 ⟨v5, rfl, hp5, hb5⟩
          have HB5 := shB HBD hb5
          have HB6 : Hid (Below w3.heap.size w3 (w5.alloc (.cells #[.int .i64 m, .int .i64 r, .int .i64 b, .int .i64 d] 87))) := HB5.out.alloc HB5.out.size _
          have K5 := zh (HJ4.out.next HB5.out).cells
          have K6 := zh (HJ4.out.next HB6.out).cells
          have HP6 : Hid (Pw (w5.alloc (.cells #[.int .i64 m, .int .i64 r, .int .i64 b, .int .i64 d] 87)) w3.heap.size v5 l) := Pw.alloc hp5 _
          have HPA := zh (pr_cell w5 m r b d)
          have HSZ := zh HB6.out.size
          clear hp5 hb5)
       | (go_at_call 117; refine (HCL.out _ hn (by with_reducible exact HRX.out)).mono ?_; rintro e w5 ⟨v5, rfl, hp5, hb5⟩
          have HB6 := shB HBX hb5
          have K6 := zh (HJ4.out.next HB6.out).cells
          have HP6 := zh (hp5.low HBX.out.size)
          have HPB := zh (HPX.out.below hb5)
          have HSZ := zh HB6.out.size
          clear hp5 hb5)
       | (first
         | refine step_pr rfl _ _ rfl w3.heap.size w5.heap.size _ l ⟨m, r, b, d⟩ rfl rfl HP6.out HPA.out HLN.out HSZ.out ?_
         | refine step_pr rfl _ _ rfl w3.heap.size w3.heap.size _ l ⟨m, r, b, d⟩ rfl rfl HP6.out HPB.out HLN.out HSZ.out ?_
          intro v7 w7 hp7 hg7
          have hB7 : Below w3.heap.size w3 w7 := pown_bel HP6.out hg7 HB6.out (Nat.le_refl _) HSZ.out
          have HJ7 := zh (HJ4.out.next hB7)
          have hp8 : Pw w7 w.heap.size v7 l2 := by rw [HL2.out]; exact hp7.low HWW.out
          obtain ⟨a7, k7, rfl, _⟩ := hp8.lies
          have HE := zh (En.of HJ7.out.bi hp8)
          have K7 := zh HJ7.out.cells
          have K8 : Hid ((w7.setCell ⟨w.heap.size + 1, 0, none⟩ (.slice a7 l2.length k7)).cell? ⟨w.heap.size, 0, none⟩ = some (.slice a n cap) ∧ (w7.setCell ⟨w.heap.size + 1, 0, none⟩ (.slice a7 l2.length k7)).cell? ⟨gp, 0, none⟩ = some (.int .i64 m) ∧ (w7.setCell ⟨w.heap.size + 1, 0, none⟩ (.slice a7 l2.length k7)).cell? ⟨gp, 0 + 1, none⟩ = some (.int .i64 r) ∧ (w7.setCell ⟨w.heap.size + 1, 0, none⟩ (.slice a7 l2.length k7)).cell? ⟨gp, 0 + 2, none⟩ = some (.int .i64 b) ∧ (w7.setCell ⟨w.heap.size + 1, 0, none⟩ (.slice a7 l2.length k7)).cell? ⟨gp, 0 + 3, none⟩ = some (.int .i64 d)) := HJ7.out.put _
          have z0 := HJ7.out.bi.out.cell 0
          have y0 := HJ7.out.bi.out.free 0
          have R0 : Hid (_ = _) := HE.out.cell
          clear hp7 hg7 hB7 hp8
          generalize l2.length = ln at *))
     all_goals go_wp2_with fail
     all_goals exact bodyPost_ret (v := .tuple #[.agg #[.slice a7 ln k7], .int .i64 d, .int .i64 0]) (by simp [results, Tryz.results75, R0.out, go_sem]) rfl ⟨_, l2, d, 0, rfl, HE.out.pw, HIS.out, HE.out.bel⟩
 ·have HI1 := zh (HB0.out.next hb1)
  have HN := zh hm
  have HE : Hid (En w (w1.setCell ⟨w.heap.size + 1, 0, none⟩ (.slice none 0 0)) (.slice none 0 0) []) := En.of HI1.out (Pw.zero _ _)
  have R0 : Hid (_ = _) := HE.out.cell
  have z0 := HI1.out.out.cell 0
  have y0 := HI1.out.out.free 0
  clear hb1 hm c0
  go_wp2_with fail
  exact zr (.tuple #[.agg #[.slice none 0 0], .int .i64 0, .int .i64 5]) (by simp [results, Tryz.results75, R0.out, go_sem]) ⟨_, [], 0, 5, rfl, HE.out.pw, .inl ⟨HN.out, rfl, rfl, rfl⟩, HE.out.bel⟩
end ora
namespace book
open Go.RowKit
theorem bleft2(kd me mo id te de fe pr ch un tg ow bp:Int)(w:World)(q2:(kd==2)=true):Calls Tryz.prog 163 #[.agg #[zI kd,zI me,zI mo,zI id,zI te,zI de,zI fe,zI pr,zI ch,zI un,zI tg,zI ow,zI bp]] w λe w'=>e=.returned (.agg #[zI 0,zI 0,zI 0,zI 0,zI 0,zI 0,zI 0,zI 0,zI 0,zI 0,zI 0,zI ow,zI bp])∧zB w w':=by
 go_enter Tryz.func163,Tryz.ntmps163;go_wp2;exact zr (.agg #[zI 0,zI 0,zI 0,zI 0,zI 0,zI 0,zI 0,zI 0,zI 0,zI 0,zI 0,zI ow,zI bp]) (by simp[results,Tryz.results163,go_sem]) ⟨rfl,bki.bel2 _ _ _⟩
theorem bleft3(kd me mo id te de fe pr ch un tg ow bp:Int)(w:World)(q2:(kd==2)=false)(q3:(kd==3)=true):Calls Tryz.prog 163 #[.agg #[zI kd,zI me,zI mo,zI id,zI te,zI de,zI fe,zI pr,zI ch,zI un,zI tg,zI ow,zI bp]] w λe w'=>e=.returned (.agg #[zI 0,zI 0,zI 0,zI 0,zI te,zI de,zI fe,zI pr,zI ch,zI 0,zI 0,zI ow,zI bp])∧zB w w':=by
 go_enter Tryz.func163,Tryz.ntmps163;go_wp2;exact zr (.agg #[zI 0,zI 0,zI 0,zI 0,zI te,zI de,zI fe,zI pr,zI ch,zI 0,zI 0,zI ow,zI bp]) (by simp[results,Tryz.results163,go_sem]) ⟨rfl,bki.bel2 _ _ _⟩
theorem bleft4(kd me mo id te de fe pr ch un tg ow bp:Int)(w:World)(q2:(kd==2)=false)(q3:(kd==3)=false)(q4:(kd==4)=true):Calls Tryz.prog 163 #[.agg #[zI kd,zI me,zI mo,zI id,zI te,zI de,zI fe,zI pr,zI ch,zI un,zI tg,zI ow,zI bp]] w λe w'=>e=.returned (.agg #[zI 0,zI 0,zI mo,zI 0,zI te,zI de,zI fe,zI pr,zI ch,zI un,zI 0,zI ow,zI bp])∧zB w w':=by
 go_enter Tryz.func163,Tryz.ntmps163;go_wp2;exact zr (.agg #[zI 0,zI 0,zI mo,zI 0,zI te,zI de,zI fe,zI pr,zI ch,zI un,zI 0,zI ow,zI bp]) (by simp[results,Tryz.results163,go_sem]) ⟨rfl,bki.bel2 _ _ _⟩
theorem bleft5(kd me mo id te de fe pr ch un tg ow bp:Int)(w:World)(q2:(kd==2)=false)(q3:(kd==3)=false)(q4:(kd==4)=false)(q5:(kd==5)=true):Calls Tryz.prog 163 #[.agg #[zI kd,zI me,zI mo,zI id,zI te,zI de,zI fe,zI pr,zI ch,zI un,zI tg,zI ow,zI bp]] w λe w'=>e=.returned (.agg #[zI 0,zI 0,zI mo,zI id,zI te,zI de,zI fe,zI pr,zI ch,zI un,zI tg,zI 0,zI 0])∧zB w w':=by
 go_enter Tryz.func163,Tryz.ntmps163;go_wp2;exact zr (.agg #[zI 0,zI 0,zI mo,zI id,zI te,zI de,zI fe,zI pr,zI ch,zI un,zI tg,zI 0,zI 0]) (by simp[results,Tryz.results163,go_sem]) ⟨rfl,bki.bel2 _ _ _⟩
theorem bleft0(kd me mo id te de fe pr ch un tg ow bp:Int)(w:World)(q2:(kd==2)=false)(q3:(kd==3)=false)(q4:(kd==4)=false)(q5:(kd==5)=false):Calls Tryz.prog 163 #[.agg #[zI kd,zI me,zI mo,zI id,zI te,zI de,zI fe,zI pr,zI ch,zI un,zI tg,zI ow,zI bp]] w λe w'=>e=.returned (.agg #[zI 0,zI 0,zI mo,zI id,zI te,zI de,zI fe,zI pr,zI ch,zI un,zI tg,zI ow,zI bp])∧zB w w':=by
 go_enter Tryz.func163,Tryz.ntmps163;go_wp2;exact zr (.agg #[zI 0,zI 0,zI mo,zI id,zI te,zI de,zI fe,zI pr,zI ch,zI un,zI tg,zI ow,zI bp]) (by simp[results,Tryz.results163,go_sem]) ⟨rfl,bki.bel2 _ _ _⟩
theorem bleft(v:Ev)(w:World):Calls Tryz.prog 163 #[v.v] w λe w'=>e=.returned (leftE v).v∧zB w w':=by
 obtain⟨a,k,l,i,o,g,h,n,f,q,p,m,d⟩:=v;unfold leftE Ev.v;simp only;by_cases b:a=2
 ·rw[if_pos b];exact bleft2 a k l i o g h n f q p m d w (by simpa using b)
 rw[if_neg b];by_cases c:a=3
 ·rw[if_pos c];exact bleft3 a k l i o g h n f q p m d w (by simpa using b) (by simpa using c)
 rw[if_neg c];by_cases j:a=4
 ·rw[if_pos j];exact bleft4 a k l i o g h n f q p m d w (by simpa using b) (by simpa using c) (by simpa using j)
 rw[if_neg j];by_cases r:a=5
 ·rw[if_pos r];exact bleft5 a k l i o g h n f q p m d w (by simpa using b) (by simpa using c) (by simpa using j) (by simpa using r)
 rw[if_neg r];exact bleft0 a k l i o g h n f q p m d w (by simpa using b) (by simpa using c) (by simpa using j) (by simpa using r)
end book
end Go.Proofs.YtoepgdhiepedeaaGreatDoor
