import Derived.Test.YtoepgdhiepedeaaGreatDoorVVRys36
import Derived.Test.YtoepgdhiepedeaaGreatDoorVVRys40
set_option linter.unusedVariables false
set_option linter.unusedSimpArgs false
set_option maxHeartbeats 4000000
set_option maxRecDepth 100000
namespace Go.Proofs.YtoepgdhiepedeaaGreatDoor
namespace vnd
open disk (RepIs AppIs RepPost AppPost Lr Recs Sli sl0)
open book (Ev ev0 EMay evL evOf EncIs DecIs Cm cm0 So so0 BookIs BookPost Sees ECame RowE FirstAt NoneAt Tells EncPost DecPost)
open acc (Ac Tm Bi SellIs GrantIs RekeyIs OweIs)
open cell (Wr RowU RowW Lw Ws)
open Go.RowKit
theorem keep_few{c:List Int}{v:Ev}{ls:List Wr}{f:Int}(h:KeepIs c v ls f):ls.length≤66:=by
 obtain⟨l,e,_,⟨_,rfl,_⟩|⟨_,a,g,_,⟨_,rfl,_⟩|⟨_,q⟩⟩⟩:=h
 ·simp
 ·simp
 ·exact disk.app_few q
open ora (Pr IssueIs)
open rcp (Rc rc0)
open token (Tok fmtL)
theorem cell_lw_next{w w':World}{base:Nat}{v:Value}{l:List Wr}(h:Lw w base v l)(hb:zB w w'):Lw w' base v l:=by
 refine⟨h.1,?_⟩;rcases h.2 with e|⟨g,a,b,f,d,c,rest⟩
 ·exact .inl e
 ·exact .inr ⟨g,a,b,f,d,Blk.next c hb,rest⟩
theorem rkept(a:Option Addr)(n cap:Nat)(c:List Int)(w:World)(h:RowU w a n c)(hw:∀x∈c,0≤x∧x<4294967296):Calls Tryz.prog 42 #[.slice a n cap] w λe w'=>KeptPost w c e w':=by
 have af:=zh (disk.replayed a n cap c w h hw);have HW:=zh hw;clear h hw;go_enter Tryz.func42,Tryz.ntmps42;go_wp2_with fail;refine af.o.mono ?_;rintro e l ⟨V,i,o,x,f,rfl,J,t,L,X⟩;obtain⟨pa,pc,rfl⟩:=J.len;have d:=zh X;have r:=zh L;have ac:=zh J;have ae:=zh t;have b:=zh t.1;have ak:i.length≤2048:=by rw[t.1];exact rep_len L
 clear J t L X;by_cases h0:f=0
 ·subst h0;generalize hN:i.length=N at *;have HN:=zh hN;clear hN;go_wp2_with fail;go_loopw [7,8] (λu z wr=>∃(k:Nat)(U:Value),k≤N∧z=zI (k:Int)∧U=u∧book.Le wr l.heap.size U ((o.take k).map evOf)∧(∀j,j<k→DecOk (o.getD j []))∧zB l wr) (λ_ z _=>N-(intOf z).toNat)
  case atStart=>exact⟨0,_,Nat.zero_le _,rfl,rfl,book.Le.zero _ _,(λj F=>absurd F (Nat.not_lt_zero _)),zb⟩
  case round=>
   obtain⟨k,U,hk,rfl,hU,I,K,W⟩:=hrel;subst hU;have R:=zh I;have q:=zh K;have m:=zh W;by_cases a4:k<N
   ·have ai:decide ((k:Int)<(N:Int))=true:=by simp;omega
    have a3:k<i.length:=by rw[HN.o];exact a4
    have G:k<o.length:=by rw[← b.o];exact a4
    obtain⟨g,gc,a2,_,aj,_,a1⟩:=ac.o.row (by rw[HN.o];omega);have al:pa=some ⟨g,0,none⟩:=by injection a2
    subst al;obtain⟨⟨rb,ro,am,an,_⟩,B⟩:=ae.o.2 k a3;have ck:wr.cell? ⟨g,k,none⟩=some (i.getD k sl0).v:=(W.cell (p:=⟨g,k,none⟩) aj).trans (a1 k a3);unfold disk.Sli.v at ck;have ab:Hid (zC 82 #[.slice (i.getD k sl0).a (i.getD k sl0).n (i.getD k sl0).c] wr λe w'=>DecPost wr (o.getD k []) e w'):=book.rdecoded _ _ _ _ wr (B.below W) (λy hy=>HW.o y (rep_in r.o _ (getD_inR G) y hy));clear I K W a1 B am an a2;generalize (i.getD k sl0).a=sa at *;generalize (i.getD k sl0).n=sn at *;generalize (i.getD k sl0).c=sc at *;have ah:=zh (take_mapE o k G);have ao:((o.take k).map evOf).length≤1000000:=by rw[List.length_map,List.length_take];omega
    generalize (o.take k).map evOf=Z at *;go_wp2_with fail;refine ab.o.mono ?_;rintro e M ⟨v,f2,rfl,hd,s⟩;unfold book.Ev.v;have HX:=zye M #[zI v.kd,zI v.me,zI v.mo,zI v.id,zI v.te,zI v.de,zI v.fe,zI v.pr,zI v.ch,zI v.un,zI v.tg,zI v.ow,zI v.bp] 44;have O:Hid (zB l (M.alloc (.cells #[zI v.kd,zI v.me,zI v.mo,zI v.id,zI v.te,zI v.de,zI v.fe,zI v.pr,zI v.ch,zI v.un,zI v.tg,zI v.ow,zI v.bp] 44))):=(m.o.trans (s.mono m.o.size)).alloc (Nat.le_trans m.o.size s.size) _;have ad:Hid (book.Le (M.alloc (.cells #[zI v.kd,zI v.me,zI v.mo,zI v.id,zI v.te,zI v.de,zI v.fe,zI v.pr,zI v.ch,zI v.un,zI v.tg,zI v.ow,zI v.bp] 44)) l.heap.size U Z):=(R.o.next s).alloc _;have HD:=zh hd;have ap:=(Blk.new M #[zI v.kd,zI v.me,zI v.mo,zI v.id,zI v.te,zI v.de,zI v.fe,zI v.pr,zI v.ch,zI v.un,zI v.tg,zI v.ow,zI v.bp] 44).lt;clear hd s ck;go_upto_region 9 with fail
    generalize (M.alloc (.cells #[zI v.kd,zI v.me,zI v.mo,zI v.id,zI v.te,zI v.de,zI v.fe,zI v.pr,zI v.ch,zI v.un,zI v.tg,zI v.ow,zI v.bp] 44))=W3 at *;generalize M.heap.size=gx at *;by_cases T:f2=0
    ·subst T;obtain⟨Y,a5⟩:=dec_ok HD.o;have HV:=zh a5.symm
     have S:Hid (∀j,j<k+1→DecOk (o.getD j [])):=λj F=>by
      by_cases e:j=k
      ·subst e;exact Y
      ·exact q.o j (by omega)
     have a9:Hid (Blk (W3.alloc (.cells #[zI v.kd,zI v.me,zI v.mo,zI v.id,zI v.te,zI v.de,zI v.fe,zI v.pr,zI v.ch,zI v.un,zI v.tg,zI v.ow,zI v.bp] 44)) W3.heap.size v.cl.toArray 44):=Blk.new W3 _ _;have Q:Hid (book.Le (W3.alloc (.cells #[zI v.kd,zI v.me,zI v.mo,zI v.id,zI v.te,zI v.de,zI v.fe,zI v.pr,zI v.ch,zI v.un,zI v.tg,zI v.ow,zI v.bp] 44)) l.heap.size U Z):=ad.o.alloc _;have C:=zyf O (.cells #[zI v.kd,zI v.me,zI v.mo,zI v.id,zI v.te,zI v.de,zI v.fe,zI v.pr,zI v.ch,zI v.un,zI v.tg,zI v.ow,zI v.bp] 44);clear Y a5;go_wp2_with (first|refine zw ?_|(at_builtin;refine book.wp_ev rfl _ _ rfl l.heap.size W3.heap.size U Z v rfl rfl Q.o a9.o ao C.o.size ?_))
     intro v3 w3 h3 a0;have a8:Hid (zB l w3):=tar.own_bel Q.o a0 C.o zc C.o.size;have H3:=zh h3;clear h3 a0;go_wp2_with fail;go_roundw
     case rel=>exact⟨k+1,v3,by omega,by go_num,by first|rfl|trivial,by rw[← ah.o,HV.o];exact H3.o,S.o,a8.o⟩
     case measure=>simp[intOf];omega
    ·have d2:(f2 != 0)=true:=by simpa using T
     have P:Hid (KeptIs c [] f2):=⟨o,x,0,r.o,.inr (.inr ⟨rfl,T,rfl,k,G,q.o,by have:=dec_no HD.o T;rw[← this];exact HD.o⟩)⟩
     have D:=zh (d.o.trans (O.o.mono d.o.size));clear T;go_wp2_with fail;go_ret2;exact⟨none,0,0,[],f2,rfl,P.o,ecame_nil _,Nat.zero_le _,D.o⟩
   ·obtain rfl:k=N:=by omega
    have ai:decide ((k:Int)<(k:Int))=false:=by simp
    have ag:Hid (o.take k=o):=List.take_of_length_le (by rw[← b.o];exact zc);have P:Hid (KeptIs c (o.map evOf) 0):=⟨o,x,0,r.o,.inr (.inl ⟨rfl,λj F=>q.o j (by rw[b.o];exact F),rfl,rfl⟩)⟩
    have a7:∀v∈o.map evOf,book.wf13 v:=λv hv=>by
     obtain⟨z,hz,rfl⟩:=List.mem_map.1 hv;obtain⟨j,F,rfl⟩:=List.mem_iff_getElem.1 hz;have e:o.getD j []=o[j]:=by simp[List.getD,List.getElem?_eq_getElem F]
     have:=q.o j (by rw[b.o];exact F);rw[e] at this;exact book.wf_may this.2
    have H:=R.o;rw[ag.o] at H;obtain⟨pz,cz,a6,E⟩:=H.came (by rw[List.length_map,← b.o];omega) a7;have A:(o.map evOf).length=k:=by rw[List.length_map];exact b.o.symm
    rw[A] at a6 E;subst a6;have aa:=zh E;have D:=zh (d.o.trans (m.o.mono d.o.size));clear I K W H E a7 A;go_wp2_with fail;go_ret2;exact⟨pz,k,cz,_,0,rfl,P.o,aa.o,ak,D.o⟩
 ·have d0:(f != 0)=true:=by simpa using h0
  have P:Hid (KeptIs c [] f):=⟨o,x,f,r.o,.inl ⟨h0,rfl,rfl⟩⟩
  clear h0;go_wp2_with fail;go_ret2;exact⟨none,0,0,[],f,rfl,P.o,ecame_nil _,Nat.zero_le _,d.o⟩
theorem found_first{xs:List book.Cu}{bk:List Cm}{me x:Int}(hl:xs.length=bk.length)(hn:∀i,i<xs.length→book.Nums (xs.getD i book.cu0) (bk.getD i cm0).a)(h:book.FoundIs xs me x):(x=-1∧NoneAt bk me)∨(∃k:Nat,x=(k:Int)∧FirstAt bk me k∧k<xs.length):=by
 rcases h with⟨k,b,d,e,f⟩|⟨b,d⟩
 ·refine .inr ⟨k,f,⟨by rw[← hl];exact b,by rw[← (hn k b).1];exact d,λj c=>by rw[← (hn j (by omega)).1];exact e j c⟩,b⟩
 ·exact .inl ⟨d,λj c=>by rw[← (hn j (by rw[hl];exact c)).1];exact b j (by rw[hl];exact c)⟩
end vnd
namespace ora
open Go.RowKit
set_option maxRecDepth 100000
theorem step_pr {w : World} {ops : Array Oper} {o : Oper} {a : Act} {K : Act → World → Prop} {Q : Exit → Act → World → Prop} {E : Prop} (hgd : o.guard = none) (s x : Operand)
  (ho : o.op = .call { callee := .builtin .append, args := #[s, x], argTypes := #[26, 26] })
  (base G : Nat) (v : Value) (l : List Pr) (r : Pr) (hs : a.eval s = v) (hx : a.eval x = .slice (some ⟨G, 0, none⟩) 1 1) (hv : Pw w base v l) (hu : PrAt w G 0 r) (hn : l.length ≤ 1000000) (hbase : base ≤ w.heap.size)
  (h : ∀ v' w', Pw w' base v' (l ++ [r]) → w.grownBy w' v.ownBlock → K (a.put o.dst v') w') : if Region.wanted o (yielded ops a.tmps) = true then Oper.wp Tryz.prog o a w K Q else E := by
 have m : Region.wanted o (yielded ops a.tmps) = true := by simp [Region.wanted, hgd]
 rw [if_pos m]
 obtain ⟨n, i, c, d, e⟩ := info_parts info_pr
 obtain ⟨v', w', k, f, g, _⟩ := run_append_own (P := Tryz.prog) w base 26 o.type 87 n (.agg #[.int .i64 0, .int .i64 0, .int .i64 0, .int .i64 0]) 4 32 Tryz.underlying26 i c d e rfl (by decide) v l.length (cellsP l) hv ⟨G, 0, none⟩ 1 1 (cellsP [r]) rfl (by
  intro j u b
  match j, b with
  | 0, b => simp [cellsP] at b; subst b; simpa [Addr.add] using hu.1
  | 1, b => simp [cellsP] at b; subst b; simpa [Addr.add] using hu.2.1
  | 2, b => simp [cellsP] at b; subst b; simpa [Addr.add] using hu.2.2.1
  | 3, b => simp [cellsP] at b; subst b; simpa [Addr.add] using hu.2.2.2
  | j + 4, b => simp [cellsP] at b) (oneP [r]) (by unfold maxLen; omega) (by omega) hbase
 unfold Oper.wp execOp
 simp only [ho, resolve, invoke, builtin, Sem.run_bind, Sem.run_pure, Result.andThen_ok, List.map_toArray, List.map_cons, List.map_nil, hs, hx, k]
 refine h v' w' ?_ g
 unfold Pw
 rw [List.length_append, cellsP_app]
 exact f
def IssueQ (w : World) (l : List Pr) (m r b d : Int) (e : Ending) (w' : World) : Prop :=
 ∃ v ls x c, e = .returned (.tuple #[.agg #[v], .int .i64 x, .int .i64 c]) ∧ Pw w' w.heap.size v ls ∧ IssueIs l m r b d ls x c ∧ zB w w'
theorem Pw.lies {w : World} {base : Nat} {v : Value} {l : List Pr} (h : Pw w base v l) : ∃ a cap, v = .slice a l.length cap ∧ RowP w a l.length l ∧ (a = none → cap = 0) ∧ l.length ≤ cap ∧ (∀ y, a = some y → base ≤ y.block ∧ y.block < w.heap.size) := by
 obtain ⟨a, cap, b, c, d, e⟩ := h.row
 refine ⟨a, cap, b, c, d, e, fun y f => ?_⟩
 subst f
 have := World.ownsRow.lt h y.block (by rw [b]; rfl)
 exact ⟨this.1, this.2⟩
structure Bj (w wr : World) (a : Option Addr) (n cap : Nat) (l : List Pr) (G : Nat) (m r b d : Int) : Prop where
 bi : Bi w wr a n cap l
 pr : Blk wr G #[.int .i64 m, .int .i64 r, .int .i64 b, .int .i64 d] 87
theorem Bj.next {w wr w' : World} {a : Option Addr} {n cap : Nat} {l : List Pr} {G : Nat} {m r b d : Int} (h : Bj w wr a n cap l G m r b d) (hb : zB wr w') : Bj w w' a n cap l G m r b d := ⟨h.bi.next hb, h.pr.next hb⟩
theorem Bj.alloc {w wr : World} {a : Option Addr} {n cap : Nat} {l : List Pr} {G : Nat} {m r b d : Int} (h : Bj w wr a n cap l G m r b d) (o : Obj) : Bj w (wr.alloc o) a n cap l G m r b d := h.next (zb.alloc zc _)
theorem Bj.drew {w wr : World} {a : Option Addr} {n cap : Nat} {l : List Pr} {G : Nat} {m r b d : Int} (h : Bj w wr a n cap l G m r b d) (q : Nat) : Bj w (wr.drewN q) a n cap l G m r b d := h.next (bel_drew zb q)
theorem Bj.cells {w wr : World} {a : Option Addr} {n cap : Nat} {l : List Pr} {G : Nat} {m r b d : Int} (h : Bj w wr a n cap l G m r b d) : wr.cell? ⟨w.heap.size, 0, none⟩ = some (.slice a n cap) ∧ wr.cell? ⟨G, 0, none⟩ = some (.int .i64 m) ∧ wr.cell? ⟨G, 0 + 1, none⟩ = some (.int .i64 r) ∧ wr.cell? ⟨G, 0 + 2, none⟩ = some (.int .i64 b) ∧ wr.cell? ⟨G, 0 + 3, none⟩ = some (.int .i64 d) :=
 ⟨h.bi.bo.box.cell 0, h.pr.cell 0, h.pr.cell 1, h.pr.cell 2, h.pr.cell 3⟩
theorem Bj.ne {w wr : World} {a : Option Addr} {n cap : Nat} {l : List Pr} {G : Nat} {m r b d : Int} (h : Bj w wr a n cap l G m r b d) : w.heap.size + 1 ≠ G := by
 rintro rfl
 have e := h.pr; have c := h.bi.out
 unfold Blk at e c
 rw [e] at c; simp at c
theorem Bj.put {w wr : World} {a : Option Addr} {n cap : Nat} {l : List Pr} {G : Nat} {m r b d : Int} (h : Bj w wr a n cap l G m r b d) (u : Value) : (wr.setCell ⟨w.heap.size + 1, 0, none⟩ u).cell? ⟨w.heap.size, 0, none⟩ = some (.slice a n cap) ∧ (wr.setCell ⟨w.heap.size + 1, 0, none⟩ u).cell? ⟨G, 0, none⟩ = some (.int .i64 m) ∧ (wr.setCell ⟨w.heap.size + 1, 0, none⟩ u).cell? ⟨G, 0 + 1, none⟩ = some (.int .i64 r) ∧ (wr.setCell ⟨w.heap.size + 1, 0, none⟩ u).cell? ⟨G, 0 + 2, none⟩ = some (.int .i64 b) ∧ (wr.setCell ⟨w.heap.size + 1, 0, none⟩ u).cell? ⟨G, 0 + 3, none⟩ = some (.int .i64 d) := by
 have e := Blk.other h.bi.bo.box 0 u (G' := w.heap.size + 1) (by omega)
 have c := Blk.other h.pr 0 u h.ne
 exact ⟨e.cell 0, c.cell 0, c.cell 1, c.cell 2, c.cell 3⟩
structure En (w W : World) (v : Value) (ls : List Pr) : Prop where
 pw : Pw W w.heap.size v ls
 cell : W.cell? ⟨w.heap.size + 1, 0, none⟩ = some v
 bel : zB w W
theorem En.of {w w6 : World} {a : Option Addr} {n cap : Nat} {l : List Pr} {v : Value} {ls : List Pr} (hi : Bi w w6 a n cap l) (hp : Pw w6 w.heap.size v ls) : En w (w6.setCell ⟨w.heap.size + 1, 0, none⟩ v) v ls :=
 ⟨hp.put2 hi.out (by decide) 0 v, by have := (hi.out.set 0 v).cell 0; exact this, bel_set hi.bo.bel _ _ _ (by omega)⟩
set_option maxHeartbeats 2000000 in
theorem poi (a : Option Addr) (n cap : Nat) (l : List Pr) (m r b d : Int) (w : World) (hr : RowP w a n l) :
  Calls Tryz.prog 75 #[.agg #[.slice a n cap], .int .i64 m, .int .i64 r, .int .i64 b, .int .i64 d] w fun e w' => IssueQ w l m r b d e w' := by
 have HB0 : Hid (Bi w ((w.alloc (.cells #[.slice a n cap] 28)).alloc (.cells #[.slice none 0 0] 28)) a n cap l) := ⟨(Bo.new hr).alloc _, Blk.new1 w _ _ _⟩
 have HL := zh hr.1
 have HG : Hid (∀ W, RowP W a n l → Calls Tryz.prog 114 #[.agg #[.slice a n cap]] W fun e w' => Given W l e w') := fun W h => given_any a n cap l W h
 have HCL : Hid (∀ W, n ≤ 500 → RowP W a n l → Calls Tryz.prog 117 #[.slice a n cap] W fun e w' => GaveV W l e w') := fun W h0 h => pclone_any a n cap l W h (by omega)
 have HPM : Hid (∀ W, Calls Tryz.prog 115 #[.agg #[.int .i64 m, .int .i64 r, .int .i64 b, .int .i64 d]] W fun e w' => Told W (Pr.mk m r b d).may e w') := fun W => within_any m r b d W
 have HOF : Hid (∀ W, Calls Tryz.prog 116 #[.agg #[.int .i64 m, .int .i64 r, .int .i64 b, .int .i64 d]] W fun e w' => e = .returned (.agg #[.int .i64 m, .int .i64 r, .int .i64 b]) ∧ Below W.heap.size W w') := fun W => of_any m r b d W
 clear hr
 have c0 := HB0.out.bo.box.cell 0
 go_enter Tryz.func75, Tryz.ntmps75
 go_wp2_with fail
 refine (HG.out _ HB0.out.bo.row).mono ?_
 rintro e w1 ⟨hb1, ⟨hm, B, rfl, hmp⟩ | ⟨hm, rfl⟩⟩
 ·have HI1 := zh (HB0.out.next hb1)
  have hn : n ≤ 500 := by rw [← HL.out]; exact hm.few
  have HMY := zh hm
  have HJ2 : Hid (Bj w (w1.alloc (.cells #[.int .i64 m, .int .i64 r, .int .i64 b, .int .i64 d] 87)) a n cap l w1.heap.size m r b d) := ⟨HI1.out.alloc _, Blk.new w1 _ _⟩
  have HM2 : Hid (Mp (w1.alloc (.cells #[.int .i64 m, .int .i64 r, .int .i64 b, .int .i64 d] 87)) B l) := hmp.below ((Below.refl _ _).alloc (Nat.le_refl _) _)
  have p0 := HJ2.out.pr.cell 0
  have p1 := HJ2.out.pr.cell 1
  have p2 := HJ2.out.pr.cell 2
  have p3 := HJ2.out.pr.cell 3
  clear hb1 hm hmp c0
  go_wp2_with fail
  refine (HPM.out _).mono ?_
  rintro e w2 ⟨rr, rfl, hrr, hb2⟩
  have HJ3 := zh (HJ2.out.next hb2)
  have HM3 := zh (HM2.out.below hb2)
  clear hb2 p0 p1 p2 p3
  generalize w1.heap.size = gp at *
  have z0 := HJ3.out.bi.out.cell 0
  have y0 := HJ3.out.bi.out.free 0
  cases rr with
  | false =>
   have HN : Hid (¬ (Pr.mk m r b d).may) := fun h => by have := hrr.2 h; cases this
   have HE : Hid (En w (w2.setCell ⟨w.heap.size + 1, 0, none⟩ (.slice none 0 0)) (.slice none 0 0) []) := En.of HJ3.out.bi (Pw.zero _ _)
   have R0 : Hid (_ = _) := HE.out.cell
   clear hrr
   go_wp2_with fail
   exact zr (.tuple #[.agg #[.slice none 0 0], .int .i64 0, .int .i64 2]) (by simp [results, Tryz.results75, R0.out, go_sem]) ⟨_, [], 0, 2, rfl, HE.out.pw, .inr (.inl ⟨HMY.out, HN.out, rfl, rfl, rfl⟩), HE.out.bel⟩
  | true =>
   have HPY : Hid ((Pr.mk m r b d).may) := hrr.1 rfl
   clear hrr z0 y0
   have p0 := HJ3.out.pr.cell 0
   have p1 := HJ3.out.pr.cell 1
   have p2 := HJ3.out.pr.cell 2
   have p3 := HJ3.out.pr.cell 3
   go_wp2_with fail
   refine (HOF.out _).mono ?_
   rintro e w3 ⟨rfl, hb3⟩
   have HJ4 := zh (HJ3.out.next hb3)
   have hlk := look_run (HM3.out.below hb3) m r b
   clear hb3 p0 p1 p2 p3
   have c0 := HJ4.out.bi.bo.box.cell 0
   rcases find_or l m r b with ⟨i, hi⟩ | hno
   ·rw [look_at hi] at hlk
    simp only [Option.getD_some, Option.isSome_some] at hlk
    have HAT : Hid (∃ i, At l m r b i ∧ (l.getD i pr0).t = (l.getD i pr0).t) := ⟨i, hi, rfl⟩
    have HIS : Hid (IssueIs l m r b d l (l.getD i pr0).t 0) := .inr (.inr (.inl ⟨HMY.out, HPY.out, ⟨i, hi, rfl⟩, rfl, rfl⟩))
    clear hi
    generalize (l.getD i pr0).t = pt at *
    go_wp2_with fail
    refine (HCL.out _ hn HJ4.out.bi.bo.row).mono ?_
    rintro e w4 ⟨v4, rfl, hp4, hb4⟩
    have HI5 := zh (HJ4.out.bi.next hb4)
    have hp5 := hp4.low HJ4.out.bi.bo.bel.size
    obtain ⟨a4, k4, rfl, _⟩ := hp5.lies
    have HE := zh (En.of HI5.out hp5)
    have R0 : Hid (_ = _) := HE.out.cell
    have z0 := HI5.out.out.cell 0
    have y0 := HI5.out.out.free 0
    clear hb4 hp4 hp5 c0 hlk
    generalize l.length = ln at *
    go_wp2_with fail
    exact zr (.tuple #[.agg #[.slice a4 ln k4], .int .i64 pt, .int .i64 0]) (by simp [results, Tryz.results75, R0.out, go_sem]) ⟨_, l, pt, 0, rfl, HE.out.pw, HIS.out, HE.out.bel⟩
   ·rw [look_no hno] at hlk
    simp only [Option.getD_none, Option.isSome_none] at hlk
    have HNO : Hid (No l m r b) := hno
    clear hno
    by_cases h5 : n = 500
    ·have hq : ((n : Int) == 500) = true := by simp; omega
     have HL5 : Hid (l.length = 500) := by rw [← h5]; exact HL.out
     have HE : Hid (En w (w3.setCell ⟨w.heap.size + 1, 0, none⟩ (.slice none 0 0)) (.slice none 0 0) []) := En.of HJ4.out.bi (Pw.zero _ _)
     have R0 : Hid (_ = _) := HE.out.cell
     have z0 := HJ4.out.bi.out.cell 0
     have y0 := HJ4.out.bi.out.free 0
     clear h5
     go_wp2_with fail
     exact zr (.tuple #[.agg #[.slice none 0 0], .int .i64 0, .int .i64 16]) (by simp [results, Tryz.results75, R0.out, go_sem]) ⟨_, [], 0, 16, rfl, HE.out.pw, .inr (.inr (.inr (.inl ⟨HMY.out, HPY.out, HNO.out, HL5.out, rfl, rfl, rfl⟩))), HE.out.bel⟩
    ·have hq : ((n : Int) == 500) = false := by simp; omega
     have HL5 : Hid (l.length < 500) := by have := HL.out; show _ < _; omega
     have HLN : Hid (l.length ≤ 1000000) := by have := HL5.out; show _ ≤ _; omega
     have HIS : Hid (IssueIs l m r b d (l ++ [⟨m, r, b, d⟩]) d 0) := .inr (.inr (.inr (.inr ⟨HMY.out, HPY.out, HNO.out, HL5.out, rfl, rfl, rfl⟩)))
     obtain ⟨l2, hl2⟩ : ∃ l2, l2 = l ++ [Pr.mk m r b d] := ⟨_, rfl⟩
     have HL2 : Hid (l2 = l ++ [Pr.mk m r b d]) := hl2
     rw [← hl2] at HIS
     clear hl2
     have HJD : Hid (Bj w w3.drew a n cap l gp m r b d) := HJ4.out.drew 1
     have HRD : Hid (RowP w3.drew a n l) := HJD.out.bi.bo.row
     have HBD : Hid (Below w3.heap.size w3 w3.drew) := bel_drew (Below.refl _ _) 1
     have HJX : Hid (Bj w (w3.alloc (.cells #[.int .i64 m, .int .i64 r, .int .i64 b, .int .i64 d] 87)).drew a n cap l gp m r b d) := (HJ4.out.alloc _).drew 1
     have HRX : Hid (RowP (w3.alloc (.cells #[.int .i64 m, .int .i64 r, .int .i64 b, .int .i64 d] 87)).drew a n l) := HJX.out.bi.bo.row
     have HBX : Hid (Below w3.heap.size w3 (w3.alloc (.cells #[.int .i64 m, .int .i64 r, .int .i64 b, .int .i64 d] 87)).drew) := bel_drew ((Below.refl _ _).alloc (Nat.le_refl _) _) 1
     have HPX : Hid (PrAt (w3.alloc (.cells #[.int .i64 m, .int .i64 r, .int .i64 b, .int .i64 d] 87)).drew w3.heap.size 0 ⟨m, r, b, d⟩) := pr_cell w3 m r b d
     have HWW : Hid (w.heap.size ≤ w3.heap.size) := HJ4.out.bi.bo.bel.size
     have KD : Hid (w3.drew.cell? ⟨w.heap.size, 0, none⟩ = some (.slice a n cap) ∧ w3.drew.cell? ⟨gp, 0, none⟩ = some (.int .i64 m) ∧ w3.drew.cell? ⟨gp, 0 + 1, none⟩ = some (.int .i64 r) ∧ w3.drew.cell? ⟨gp, 0 + 2, none⟩ = some (.int .i64 b) ∧ w3.drew.cell? ⟨gp, 0 + 3, none⟩ = some (.int .i64 d)) := HJD.out.cells
     have KX : Hid ((w3.alloc (.cells #[.int .i64 m, .int .i64 r, .int .i64 b, .int .i64 d] 87)).drew.cell? ⟨w.heap.size, 0, none⟩ = some (.slice a n cap) ∧ (w3.alloc (.cells #[.int .i64 m, .int .i64 r, .int .i64 b, .int .i64 d] 87)).drew.cell? ⟨gp, 0, none⟩ = some (.int .i64 m) ∧ (w3.alloc (.cells #[.int .i64 m, .int .i64 r, .int .i64 b, .int .i64 d] 87)).drew.cell? ⟨gp, 0 + 1, none⟩ = some (.int .i64 r) ∧ (w3.alloc (.cells #[.int .i64 m, .int .i64 r, .int .i64 b, .int .i64 d] 87)).drew.cell? ⟨gp, 0 + 2, none⟩ = some (.int .i64 b) ∧ (w3.alloc (.cells #[.int .i64 m, .int .i64 r, .int .i64 b, .int .i64 d] 87)).drew.cell? ⟨gp, 0 + 3, none⟩ = some (.int .i64 d)) := HJX.out.cells
     clear h5
     go_wp2_with fail
     clear hlk hq c0
     go_region_held_law (fun v => v.cell? ⟨w.heap.size, 0, none⟩ = some (.slice a n cap) ∧ v.cell? ⟨gp, 0, none⟩ = some (.int .i64 m) ∧ v.cell? ⟨gp, 0 + 1, none⟩ = some (.int .i64 r) ∧ v.cell? ⟨gp, 0 + 2, none⟩ = some (.int .i64 b) ∧ v.cell? ⟨gp, 0 + 3, none⟩ = some (.int .i64 d))
      (first | with_reducible exact KD.out | with_reducible exact KX.out | with_reducible exact K5.out | with_reducible exact K6.out | with_reducible exact K7.out | with_reducible exact K8.out)
      (first
       | (go_at_call 117; refine (HCL.out _ hn (by with_reducible exact HRD.out)).mono ?_; rintro e w5 ⟨v5, rfl, hp5, hb5⟩
          have HB5 := shB HBD hb5
          have HB6 : Hid (Below w3.heap.size w3 (w5.alloc (.cells #[.int .i64 m, .int .i64 r, .int .i64 b, .int .i64 d] 87))) := HB5.out.alloc HB5.out.size _
          have K5 := zh (HJ4.out.next HB5.out).cells
          have K6 := zh (HJ4.out.next HB6.out).cells
          have HP6 : Hid (Pw (w5.alloc (.cells #[.int .i64 m, .int .i64 r, .int .i64 b, .int .i64 d] 87)) w3.heap.size v5 l) := Pw.alloc hp5 _
          have HPA := zh (pr_cell w5 m r b d)
          have HSZ := zh HB6.out.size
          clear hp5 hb5)
       | (go_at_call 117; refine (HCL.out _ hn (by with_reducible exact HRX.out)).mono ?_; rintro e w5 ⟨v5, rfl, hp5, hb5⟩
          have HB6 := shB HBX hb5
          have K6 := zh (HJ4.out.next HB6.out).cells
          have HP6 := zh (hp5.low HBX.out.size)
          have HPB := zh (HPX.out.below hb5)
          have HSZ := zh HB6.out.size
          clear hp5 hb5)
       | (first
         | refine step_pr rfl _ _ rfl w3.heap.size w5.heap.size _ l ⟨m, r, b, d⟩ rfl rfl HP6.out HPA.out HLN.out HSZ.out ?_
         | refine step_pr rfl _ _ rfl w3.heap.size w3.heap.size _ l ⟨m, r, b, d⟩ rfl rfl HP6.out HPB.out HLN.out HSZ.out ?_
          intro v7 w7 hp7 hg7
          have hB7 : Below w3.heap.size w3 w7 := pown_bel HP6.out hg7 HB6.out (Nat.le_refl _) HSZ.out
          have HJ7 := zh (HJ4.out.next hB7)
          have hp8 : Pw w7 w.heap.size v7 l2 := by rw [HL2.out]; exact hp7.low HWW.out
          obtain ⟨a7, k7, rfl, _⟩ := hp8.lies
          have HE := zh (En.of HJ7.out.bi hp8)
          have K7 := zh HJ7.out.cells
          have K8 : Hid ((w7.setCell ⟨w.heap.size + 1, 0, none⟩ (.slice a7 l2.length k7)).cell? ⟨w.heap.size, 0, none⟩ = some (.slice a n cap) ∧ (w7.setCell ⟨w.heap.size + 1, 0, none⟩ (.slice a7 l2.length k7)).cell? ⟨gp, 0, none⟩ = some (.int .i64 m) ∧ (w7.setCell ⟨w.heap.size + 1, 0, none⟩ (.slice a7 l2.length k7)).cell? ⟨gp, 0 + 1, none⟩ = some (.int .i64 r) ∧ (w7.setCell ⟨w.heap.size + 1, 0, none⟩ (.slice a7 l2.length k7)).cell? ⟨gp, 0 + 2, none⟩ = some (.int .i64 b) ∧ (w7.setCell ⟨w.heap.size + 1, 0, none⟩ (.slice a7 l2.length k7)).cell? ⟨gp, 0 + 3, none⟩ = some (.int .i64 d)) := HJ7.out.put _
          have z0 := HJ7.out.bi.out.cell 0
          have y0 := HJ7.out.bi.out.free 0
          have R0 : Hid (_ = _) := HE.out.cell
          clear hp7 hg7 hB7 hp8
          generalize l2.length = ln at *))
     all_goals go_wp2_with fail
     all_goals exact bodyPost_ret (v := .tuple #[.agg #[.slice a7 ln k7], .int .i64 d, .int .i64 0]) (by simp [results, Tryz.results75, R0.out, go_sem]) rfl ⟨_, l2, d, 0, rfl, HE.out.pw, HIS.out, HE.out.bel⟩
 ·have HI1 := zh (HB0.out.next hb1)
  have HN := zh hm
  have HE : Hid (En w (w1.setCell ⟨w.heap.size + 1, 0, none⟩ (.slice none 0 0)) (.slice none 0 0) []) := En.of HI1.out (Pw.zero _ _)
  have R0 : Hid (_ = _) := HE.out.cell
  have z0 := HI1.out.out.cell 0
  have y0 := HI1.out.out.free 0
  clear hb1 hm c0
  go_wp2_with fail
  exact zr (.tuple #[.agg #[.slice none 0 0], .int .i64 0, .int .i64 5]) (by simp [results, Tryz.results75, R0.out, go_sem]) ⟨_, [], 0, 5, rfl, HE.out.pw, .inl ⟨HN.out, rfl, rfl, rfl⟩, HE.out.bel⟩
end ora
namespace vnd
open disk (RepIs AppIs May repD lenAt appW)
open book (Ev ev0 EMay evL evOf EncIs DecIs Cm cm0 So so0 BookIs FirstAt NoneAt Tells billOf soldOf StepIs HapIs)
open acc (Ac Tm Bi SellIs GrantIs RekeyIs OweIs)
open ora (Pr IssueIs)
open cell (Wr)
theorem book_ok{t:Tm}{l:List Ev}{bk:List Cm}{a:Int}(h:BookIs t l bk a 0):acc.TRight t∧l.length≤120∧a=0∧∃st:Nat→List Cm,st 0=[]∧(∀i,i<l.length→StepIs t (st i) (l.getD i ev0) (st (i+1)) 0)∧bk=st l.length:=by
 rcases h with⟨_,p,_⟩|⟨_,_,_,_,p⟩|⟨p,q,k,st,c,d,⟨rfl,b,e,_⟩|⟨_,_,b,_⟩⟩
 ·exact absurd rfl p
 ·cases p
 ·exact⟨p,q,e,st,c,d,b⟩
 ·exact absurd rfl b
variable{bk:List Cm}{t:Tm}
theorem step_wf{bk bk':List Cm}{v:Ev}(h:book.StepIs t bk v bk' 0)(hw:book.AWf bk):book.AWf bk':=by
 rcases h with⟨_,e⟩|⟨_,_,_,e⟩|⟨m,_,_,_,rfl⟩|⟨_,_,_,e⟩|⟨m,_,k,c,_,a,b⟩
 ·cases e
 ·cases e
 ·exact hw.snoc ⟨(book.wf_may m).2.1,rfl,rfl,rfl,rfl,rfl⟩
 ·cases e
 ·rw[b rfl];exact hw.set (book.hap_wf a m).1
theorem book_wf{l:List Ev}{a:Int}(h:BookIs t l bk a 0):book.AWf bk:=by
 obtain⟨_,_,_,f,d,e,rfl⟩:=book_ok h
 have:∀i,i≤l.length→book.AWf (f i):=by
  intro i
  induction i with
  |zero=>intro _ c b;rw[d] at b;cases b
  |succ i ih=>intro g;exact step_wf (e i (by omega)) (ih (by omega))
 exact this _ zc
theorem load_wf{c:List Int}(h:LoadIs t c bk 0):book.AWf bk:=by
 obtain⟨l,e,_,⟨p,_,q⟩|⟨_,a,q⟩⟩:=h
 ·exact absurd q.symm p
 ·exact book_wf q
theorem book_no{l:List Ev}{a f:Int}(h:BookIs t l bk a f)(hf:f≠0):bk=[]:=by
 rcases h with⟨_,_,p,_⟩|⟨_,_,p,_⟩|⟨_,_,k,b,_,_,⟨_,_,_,p⟩|⟨_,_,_,p,_⟩⟩
 ·exact p
 ·exact p
 ·exact absurd p hf
 ·exact p
open book (Sees ECame)
open acc (TCame ACame)
open cell (RowU)
open Go.RowKit
def NoTwo(w:World)(g:Nat):Prop:=∀o x y,w.cell? ⟨g,o,none⟩=some (zI x)→w.cell? ⟨g,o+1,none⟩=some (zI y)→False
variable{v':Array Value}{p:Option Addr}{w W:World}{T':TypeId}{g:Nat}{n:Nat}
theorem shop_odd{w:World}{T:TypeId}{a1 b1:Option Addr}{a2 a3 b2 b3:Nat}{z:Value}(hB:Blk w g #[.slice a1 a2 a3,.slice b1 b2 b3,z] T):NoTwo w g:=by
 intro o x y a b
 match o,a,b with
 |0,a,_=>rw[hB.cell 0] at a;cases a
 |1,a,_=>rw[hB.cell 1] at a;cases a
 |o+2,_,b=>rw[hB.cell (o+2+1)] at b;simp at b
theorem rowC_far{xs:List book.Cu}(h:book.RowC w p n xs)(hg:NoTwo w g)(hU:Upd w W g v' T'):book.RowC W p n xs:=by
 refine⟨h.1,?_⟩;rcases h.2 with c|⟨b,a,rfl,q,d⟩
 ·exact .inl c
 ·rcases Nat.eq_zero_or_pos n with c|c
  ·exact .inl c
  ·have f:b≠g:=λe=>by
    subst e;have k:=d 0 0 c (by decide);have l:=d 0 1 c (by decide);exact hg (a+0*8+0) (xs.getD 0 book.cu0).me (xs.getD 0 book.cu0).rv (by rw[k];rfl) (by rw[show a+0*8+0+1=a+0*8+1 by omega,l];rfl)
   exact .inr ⟨b,a,rfl,by rw[hU.size];exact q,λi j m o=>by rw[hU.cell _ f rfl];exact d i j m o⟩
theorem rowS_far{l:List So}(h:book.RowS w p n l)(hg:NoTwo w g)(hU:Upd w W g v' T'):book.RowS W p n l:=by
 refine⟨h.1,?_⟩;rcases h.2 with c|⟨b,a,rfl,r,d⟩
 ·exact .inl c
 ·rcases Nat.eq_zero_or_pos n with c|c
  ·exact .inl c
  ·have f:b≠g:=λe=>by
    subst e;have k:=d 0 0 c (by decide);have m:=d 0 1 c (by decide);exact hg (a+0*5+0) (l.getD 0 so0).id (l.getD 0 so0).cl (by rw[k];rfl) (by rw[show a+0*5+0+1=a+0*5+1 by omega,m];rfl)
   exact .inr ⟨b,a,rfl,by rw[hU.size];exact r,λi j o q=>by rw[hU.cell _ f rfl];exact d i j o q⟩
theorem came_far{n cap:Nat}{l:List tar.Du}(h:tar.Came w p n cap l)(hg:NoTwo w g)(hU:Upd w W g v' T'):tar.Came W p n cap l:=
 acc.came_upd h hU λa x d e=>by
  obtain⟨b,j,i,k,c⟩:=h.row.at a;rw[i] at d;cases d;have f:=e;subst f;exact hg _ _ _ (c 0 a).1 (c 0 a).2
theorem sees_far{xs:List book.Cu}{bk:List Cm}(h:Sees w p n xs bk)(hg:NoTwo w g)(hU:Upd w W g v' T'):Sees W p n xs bk:=
 ⟨rowC_far h.row hg hU,h.len,h.num,λi a=>came_far (h.ds i a) hg hU,λi a=>rowS_far (h.so i a) hg hU⟩
end vnd
namespace book
open Go.RowKit cell
theorem ws_upd{w W:World}{base g:Nat}{cs:Array Value}{t:TypeId}{v:Value}{l:List Int}(h:Ws w base v l)(hU:Upd w W g cs t)(hg:g<base):Ws W base v l:=by
 refine⟨h.1,?_⟩;rcases h.2 with f|⟨c,a,b,i,d,e,rest⟩
 ·exact .inl f
 ·exact .inr ⟨c,a,b,i,d,by rw[hU.oth c (by omega)];exact e,rest⟩
theorem kenc:KEnc:=by
 intro w v S;clear S;unfold Ev.v;have a0:∀(fn:Fn)(first g:Array Value)(w:World),(Instr.makeFunc fn first g).run Tryz.prog w=.ok (.func fn first g) w:=λ_ _ _ _=>rfl;have B:Hid (∀W,zC 119 #[.agg #[zI v.kd,zI v.me,zI v.mo,zI v.id,zI v.te,zI v.de,zI v.fe,zI v.pr,zI v.ch,zI v.un,zI v.tg,zI v.ow,zI v.bp]] W λe t=>MustPost W v e t):=λW=>bmust v W;have F:Hid (EMay v→∀W,zC 120 #[.agg #[zI v.kd,zI v.me,zI v.mo,zI v.id,zI v.te,zI v.de,zI v.fe,zI v.pr,zI v.ch,zI v.un,zI v.tg,zI v.ow,zI v.bp]] W λe t=>∃V,e=.returned V∧Ws t W.heap.size V (evL v)∧zB W t):=λd W=>bwords v (may_word d) W;obtain⟨W1,H,p,z,u,-⟩:=sh2 w #[zI v.kd,zI v.me,zI v.mo,zI v.id,zI v.te,zI v.de,zI v.fe,zI v.pr,zI v.ch,zI v.un,zI v.tg,zI v.ow,zI v.bp] 44 #[zI 0] 36;go_enter_defers Tryz.func76,Tryz.ntmps76;go_upto_region 2 with fail
 rw[H.o];obtain⟨c0,c1,c2,J,K,L,M,N,O,P,j,k,l⟩:=scl13 p;go_wp2_with fail;refine(B.o _).mono ?_;rintro e W2 ⟨d,b⟩;obtain⟨I,i⟩:=zn2 b p z;have m:=shB u b;clear b c0 c1 c2 J K L M N O P j k l;rcases d with⟨d,rfl⟩|⟨d,rfl⟩
 ·have HY:=zh d;have G:=F.o d;have n:=zh G;clear d;obtain⟨c0,c1,c2,J,K,L,M,N,O,P,j,k,l⟩:=scl13 I;go_wp2_with fail;refine(n.o _).mono ?_;rintro e W3 ⟨V,rfl,X,b⟩;have Y:=shN i b;have x:=shB m b;have C:=zh X;have q:=zh i.o.lt;clear b X c0 c1 c2 J K L M N O P j k l;go_wp2_with refine zl ?_;intro W4 c;have A:=zyb c;have y:=zk c x;have D:=zh (ws_upd C.o c q.o);clear c;go_wp2_with fail;refine leaves_cons (f:=118) (args:=#[.pointer (some ⟨w.heap.size+1,0,none⟩)]) (by simp) (by simp[go_sem]) ?_;refine(encode_idle (w.heap.size+1) 0 _ A.o).mono ?_;rintro e U s ⟨rfl,Q,W,b,c⟩;have T:=zx0 c;have h:zB w s:=c.bel _ _ (by omega) (bel_step y.o b);have E:=ws_upd (D.o.next b) c q.o;obtain⟨a,g,R,r,h1,h2⟩:=E.row;show Leaves _ _ _ _ [] (settle U) s;rw[Q];refine⟨.tuple #[V,zI 0],by simp[results,Tryz.results76,T,go_sem],?_⟩;subst R;exact⟨a,_,g,evL v,0,rfl,.inl ⟨HY.o,rfl,rfl⟩,r,h1,h2,by rw[evL_len];exact zc,h⟩
 ·have Z:=zh d;clear d;refine leaves_cons (f:=118) (args:=#[.pointer (some ⟨w.heap.size+1,0,none⟩)]) (by simp) (by simp[go_sem]) ?_;refine(encode_caught (w.heap.size+1) 0 5 _ i.o).mono ?_;rintro e U s ⟨rfl,Q,W,b,c⟩;have T:=zx0 c;have h:zB w s:=c.bel _ _ (by omega) (bel_step m.o b);show Leaves _ _ _ _ [] (settle U) s;rw[Q];refine⟨.tuple #[zS,zI 5],by simp[results,Tryz.results76,T,go_sem],?_⟩;exact⟨none,0,0,[],5,rfl,.inr ⟨Z.o,rfl,rfl⟩,RowU.nil _ _,λ_=>rfl,zc,Nat.zero_le _,h⟩
def FindPost(w:World)(l:List Cu)(me:Int)(e:Ending)(w':World):Prop:=∃x f,e=.returned (.tuple #[zI x,zI f])∧FindIs l me x f∧zB w w'
end book
namespace vnd
open disk (RepIs AppIs May repD lenAt appW)
open book (Ev ev0 EMay evL evOf EncIs DecIs Cm cm0 So so0 BookIs FirstAt NoneAt Tells billOf soldOf StepIs HapIs)
open acc (Ac Tm Bi SellIs GrantIs RekeyIs OweIs)
open ora (Pr IssueIs)
open cell (Wr)
open rcp (Rc rc0)
theorem rekey_ev{a b:Ac}{l:Bi}{me tg:Int}(h:RekeyIs a b l 0)(ha:a.me=me)(ht:0≤tg∧tg≤65535):EMay (tokE 4 me 0 l tg):=by
 rcases h with⟨_,_,_,h⟩|⟨_,_,_,_,h⟩|⟨_,_,_,_,_,h⟩|⟨c,_,d,rfl,rfl,_⟩
 ·cases h
 ·cases h
 ·cases h
 ·exact⟨by rw[← ha];exact c.2.1,.inr (.inr ⟨⟨by show (2:Int)≤4;omega,by show (4:Int)≤4;omega⟩,⟨c.2.2.2.1.1,d⟩,ht,⟨rfl,rfl⟩,.inl ⟨rfl,rfl,rfl,rfl,rfl,rfl,rfl,rfl⟩⟩)⟩
theorem kfm:KFm:=λk W a=>token.formatted_ok k W a
end vnd
namespace cell
open Go.RowKit
theorem word_of{z:Int}(h:(Lit.int .u32 z).wf=true):0≤z∧z<4294967296:=by
 simp only[Lit.wf,Bool.and_eq_true,decide_eq_true_eq] at h;rw[show IntKind.u32.min=0 from by decide,show IntKind.u32.max=4294967295 from by decide] at h;omega
end cell
end Go.Proofs.YtoepgdhiepedeaaGreatDoor
