import Derived.Test.YtdpfnedfakgolaaGreatDoorVVRnt8
import Derived.Test.YtdpfnedfakgolaaGreatDoorVVRnt9
set_option linter.unusedVariables false
set_option linter.unusedSimpArgs false
set_option maxHeartbeats 4000000
set_option maxRecDepth 100000
namespace Go.Proofs.YtdpfnedfakgolaaGreatDoor
section
open Go.RowKit
section
variable {P:Program} {ops:Array Oper} {Q:Exit→Act→World→Prop} {md:Region.Mode} {S:World→Prop}
structure EntersIf (P:Program) (ops:Array Oper) (S:World→Prop) (o:Oper) (f:FuncId) (args:Array Value) (a:Act):Prop where
 want:Region.wanted o (yielded ops a.tmps)=true
 run:∀ w,S w→(execOp a.eval o).run P w = .ok (.enter f args) w
def Gives (P:Program) (S:World→Prop) (f:FuncId) (args:Array Value) (v:Value):Prop:=∀ w,S w→Calls P f args w fun e w'=>e = .returned v∧w'=w
theorem EntersIf.now {o:Oper} {f:FuncId} {args:Array Value} {a:Act} {v:Value} {i:Nat} (h:EntersIf P ops S o f args a) (hg:Gives P S f args v) (hi:ops[i]?=some o) {K:Act→World→Prop} {w:World} (hS:S w) (hk:K (a.put o.dst v) w):wpOp P ops Q i K a w:=by
 unfold wpOp;simp only [hi,h.want,if_true];left;unfold Oper.wp;rw [h.run w hS,Oper.upon_enter];refine (hg w hS).mono fun e w' he=>?_;obtain ⟨rfl,rfl⟩:=he;exact hk
theorem EntersIf.apart {o p:Oper} {f:FuncId} {args:Array Value} {v:Value} {j:Nat} (hj:ops[j]?=some p) (hap:o.apart ops p=true) (hso:∀ cs b,o.op ≠ .select cs b) (hsp:∀ cs b,p.op ≠ .select cs b)
  (hQ:∀ c a w,Q (.panic c) (a.put o.dst v) w→Q (.panic c) a w) {K:Act→World→Prop} {a:Act} {w:World} (he:EntersIf P ops S o f args a) (h:wpOp P ops Q j K (a.put o.dst v) w) :
  wpOp P ops Q j (fun a' w'=>EntersIf P ops S o f args a'∧K (a'.put o.dst v) w') a w:=by
 obtain ⟨n1,n2,n3⟩:=Oper.apart_spec hap;have stay:∀ b:Act,EntersIf P ops S o f args b→∀ u,EntersIf P ops S o f args (b.put p.dst u):=fun b hb u=>⟨by rw [wanted_put o b p.dst u n3];exact hb.want,fun w hw=>by rw [execOp_put o hso b p.dst u n3];exact hb.run w hw⟩;have both:∀ (b:Act) (u:Value) (w':World),EntersIf P ops S o f args b→K ((b.put o.dst v).put p.dst u) w'→EntersIf P ops S o f args (b.put p.dst u)∧K ((b.put p.dst u).put o.dst v) w':=fun b u w' hb hk=>⟨stay b hb u,by rw [← Act.put_comm b v u n2];exact hk⟩;unfold wpOp at h ⊢;simp only [hj] at h ⊢;rw [wanted_put p a o.dst v n1] at h;by_cases hw:Region.wanted p (yielded ops a.tmps)=true
 ·rw [if_pos hw] at h ⊢;rcases h with h | ⟨h,hl⟩
  ·left;unfold Oper.wp at h ⊢;rw [execOp_put p hsp a o.dst v n1] at h;cases hr:(execOp a.eval p).run P w with
   | halt x w'=>
    rw [hr] at h;cases x <;> simp only [Oper.upon] at h ⊢
    exact hQ _ _ _ h
   | ok n w'=>
    rw [hr] at h;cases n with
    | value u=>exact both a u w' he h
    | skip=>exact both a undef w' he h
    | defer d=>
     simp only [Oper.upon] at h ⊢;rw [Act.put_defers] at h;exact both _ _ _ ⟨he.want,he.run⟩ h
    | enter g xs=>
     simp only [Oper.upon] at h ⊢;refine Calls.mono h fun e w'' hx=>?_;cases e with
     | returned u=>exact both a u w'' he hx
     | panicked c=>exact hQ _ _ _ hx
     | outgrown=>exact hx
    | row r xs=>
     simp only [Oper.upon] at h ⊢;exact Rows.mono h fun u w'' hx=>both a u w'' he hx
    | _=>exact False.elim h
  ·right;unfold Oper.asks at h ⊢;rw [execOp_put p hsp a o.dst v n1] at h;exact ⟨h,hl⟩
 ·rw [if_neg hw] at h ⊢;exact both a undef w he h
theorem call_first {i:Nat} {o:Oper} {f:FuncId} {args:Array Value} {v:Value} (hi:ops[i]?=some o) (hsel:∀ (j:Nat) (o:Oper) cs b,ops[j]?=some o→o.op ≠ .select cs b)
  (hQ:∀ c a w,Q (.panic c) (a.put o.dst v) w→Q (.panic c) a w) (hg:Gives P S f args v) (fuel:Nat):∀ (listed:Array Bool) (a:Act) (w:World),
   (∀ j p,ops[j]?=some p→j≠i→listed.getD j true=false→(∀ e∈p.after,Region.binds md e=true→e.on≠i)→o.apart ops p=true) →
   i∈Region.ready md ops listed→EntersIf P ops S o f args a→S w →
   wpAnyH P md ops Q S fuel (listed.setIfInBounds i true) (a.put o.dst v) w→wpAnyH P md ops Q S (fuel+1) listed a w:=by
 induction fuel with
 | zero=>
  intro listed a w _ hr he hS H;refine ⟨fun h=>absurd hr (by rw [h];exact List.not_mem_nil),fun j hj=>?_⟩;by_cases e:j=i
  ·rw [e];exact he.now hg hi hS ⟨hS,H⟩
  ·have:=ready_mono hj e;rw [H.1] at this;exact absurd this List.not_mem_nil
 | succ fuel ih=>
  intro listed a w hfree hr he hS H;refine ⟨fun h=>absurd hr (by rw [h];exact List.not_mem_nil),fun j hj=>?_⟩;by_cases e:j=i
  ·rw [e];exact he.now hg hi hS ⟨hS,H⟩
  ·obtain ⟨hun,p,hp,hall⟩:=mem_ready.1 hj
   have hno:∀ x∈p.after,Region.binds md x=true→x.on≠i:=fun x hx hb hxi=>by
    have h1:=hall x hx hb;have h0:=(mem_ready.1 hr).1;rw [hxi] at h1;by_cases hlt:i<listed.size
    ·simp [hlt] at h0 h1;rw [h0] at h1;cases h1
    ·simp [hlt] at h1
   have h2:=EntersIf.apart hp (hfree j p hp e hun hno) (fun cs b=>hsel i o cs b hi) (fun cs b=>hsel j p cs b hp) hQ he (H.2 j (ready_mono hj e));refine wpOp_mono (fun a' w' h3=>⟨h3.2.1,ih (listed.setIfInBounds j true) a' w' (fun k q hq hki hku hkn=>hfree k q hq hki ?_ hkn) (ready_mono hr (Ne.symm e)) h3.1 h3.2.1 ?_⟩) h2
   ·by_cases hjk:j=k
    ·rw [← hjk];exact hun
    ·rw [getD_set_ne true hjk] at hku;exact hku
   ·rw [Array.setIfInBounds_comm _ _ e];exact h3.2.2
theorem call_at {fuel:Nat} {listed:Array Bool} {a:Act} {w:World} (i d:Nat) (v:Value) (o:Oper) (hi:ops[i]?=some o) (hd:o.dst=some d)
  (hs:Region.noSelect ops=true) (hf:Region.free md ops listed i=true) (hr:(Region.ready md ops listed).contains i=true)
  (hQ:∀ c a w,Q (.panic c) (a.put o.dst v) w→Q (.panic c) a w) (f:FuncId) (args:Array Value) (he:EntersIf P ops S o f args a) (hg:Gives P S f args v) (hS:S w)
  (h:wpAnyH P md ops Q S fuel (listed.setIfInBounds i true) (a.put (some d) v) w):wpAnyH P md ops Q S (fuel+1) listed a w:=
 call_first hi (Region.noSelect_spec hs) hQ hg fuel listed a w (Region.free_spec hi hf) (by simpa using hr) he hS (by rw [hd];exact h)
end
end
namespace ora
open Go.RowKit
def Given (w:World) (l:List Pr) (e:Ending) (w':World):Prop:=
 Below w.heap.size w w'∧((May l∧∃ B,e = .returned (.tuple #[.map (some B),.bool true])∧Mp w' B l)∨(¬ May l∧e = .returned (.tuple #[.map none,.bool false])))
def Seen (l:List Pr) (k:Nat):Prop:=∀ i,i<k→(l.getD i pr0).may∧At l (l.getD i pr0).m (l.getD i pr0).r (l.getD i pr0).b i
structure Bg (w wr:World) (B:Nat) (a:Option Addr) (n cap:Nat) (l:List Pr) (k:Nat):Prop where
 bo:Bo w wr a n cap l
 mp:Mp wr B (l.take k)
 hB:w.heap.size≤B
theorem Bg.next {w wr w':World} {B:Nat} {a:Option Addr} {n cap:Nat} {l:List Pr} {k:Nat} (h:Bg w wr B a n cap l k) (hb:Below wr.heap.size wr w'):Bg w w' B a n cap l k:=⟨h.bo.next hb,h.mp.below hb,h.hB⟩
theorem Bg.alloc {w wr:World} {B:Nat} {a:Option Addr} {n cap:Nat} {l:List Pr} {k:Nat} (h:Bg w wr B a n cap l k) (o:Obj):Bg w (wr.alloc o) B a n cap l k:=h.next ((Below.refl _ _).alloc (Nat.le_refl _) _)
theorem Bg.drew {w wr:World} {B:Nat} {a:Option Addr} {n cap:Nat} {l:List Pr} {k:Nat} (h:Bg w wr B a n cap l k) (q:Nat):Bg w (wr.drewN q) B a n cap l k:=h.next (bel_drew (Below.refl _ _) q)
theorem rowP_oth {w W:World} {a:Option Addr} {n:Nat} {l:List Pr} {B:Nat} {l':List Pr} (h:RowP w a n l) (hM:Mp w B l') (ho:∀ G,G≠B→W.heap[G]?=w.heap[G]?):RowP W a n l:=by
 refine ⟨h.1,?_⟩;rcases h.2 with h0 | ⟨b,off,rfl,hc⟩
 ·exact .inl h0
 ·refine .inr ⟨b,off,rfl,fun i hi=>?_⟩;obtain ⟨h1,h2,h3,h4⟩:=hc i hi
  have hb:b≠B:=by
   rintro rfl;unfold Mp at hM;simp [World.cell?,hM] at h1
  have e:∀ o,W.cell? ⟨b,o,none⟩=w.cell? ⟨b,o,none⟩:=fun o=>by simp only [World.cell?,ho b hb]
  exact ⟨(e _).trans h1,(e _).trans h2,(e _).trans h3,(e _).trans h4⟩
theorem blk_oth {w W:World} {G B:Nat} {cs:Array Value} {t:TypeId} {l':List Pr} (h:Blk w G cs t) (hM:Mp w B l') (ho:∀ G,G≠B→W.heap[G]?=w.heap[G]?):Blk W G cs t:=by
 have hb:G≠B:=by
  rintro rfl;unfold Mp at hM;unfold Blk at h;rw [h] at hM;cases hM
 unfold Blk at *;rw [ho G hb];exact h
theorem Bg.put {w wr W:World} {B:Nat} {a:Option Addr} {n cap:Nat} {l:List Pr} {k:Nat} (h:Bg w wr B a n cap l k) (hk:k<l.length) (hM:Mp W B (l.take k++[⟨(l.getD k pr0).m,(l.getD k pr0).r,(l.getD k pr0).b,(l.getD k pr0).t⟩]))
  (ho:∀ G,G≠B→W.heap[G]?=wr.heap[G]?) (hb:∀ B0 w0,B0≤B→Below B0 w0 wr→Below B0 w0 W):Bg w W B a n cap l (k+1):=
 ⟨⟨blk_oth h.bo.box h.mp ho,rowP_oth h.bo.row h.mp ho,hb _ _ h.hB h.bo.bel⟩,by rw [take_nextP l k hk] at hM;exact hM,h.hB⟩
theorem seen_no {l:List Pr} {k:Nat} (hk:k<l.length) (hm:May l):look (l.take k) (l.getD k pr0).m (l.getD k pr0).r (l.getD k pr0).b=none:=(look_take (by omega)).2 (hm.each k hk).2.first
theorem seen_yes {l:List Pr} {k:Nat} (hk:k<l.length) (hs:Seen l k) (hl:look (l.take k) (l.getD k pr0).m (l.getD k pr0).r (l.getD k pr0).b=none) (hp:(Pr.mk (l.getD k pr0).m (l.getD k pr0).r (l.getD k pr0).b (l.getD k pr0).t).may):Seen l (k+1):=fun i hi=>by
 by_cases e:i=k
 ·subst e;exact ⟨hp,hk,⟨rfl,rfl,rfl⟩,(look_take (by omega)).1 hl⟩
 ·exact hs i (by omega)
theorem given_any (a:Option Addr) (n cap:Nat) (l:List Pr) (w:World) (hr:RowP w a n l) :
  Calls Tryz.prog 30 #[.agg #[.slice a n cap]] w fun e w'=>Given w l e w':=by
 have HB0:Hid (Bo w (w.alloc (.cells #[.slice a n cap] 34)) a n cap l):=Bo.new hr;have HL:Hid (l.length=n):=hr.1;clear hr;have c0:=HB0.o.box.cell 0;by_cases hn:n≤500
 ·have hgt':decide ((500:Int)<(n:Int))=false:=by simp;omega
  obtain ⟨B,hBe⟩:∃ B,B=w.heap.size+1:=⟨_,rfl⟩
  have hmk:∀ z:Int,(Instr.makeMap 101 (some (zI z))).run Tryz.prog (w.alloc (.cells #[.slice a n cap] 34)) = .ok (.map (some B)) ((w.alloc (.cells #[.slice a n cap] 34)).alloc (.map #[] 0)):=fun z=>by rw [run_mkMap,hBe];simp
  have HG0:Hid (Bg w ((w.alloc (.cells #[.slice a n cap] 34)).alloc (.map #[] 0)) B a n cap l 0):=⟨HB0.o.alloc _,by
   have:=Mp.new (w.alloc (.cells #[.slice a n cap] 34));rw [show (w.alloc (.cells #[.slice a n cap] 34)).heap.size=B by rw [hBe];simp] at this
   rw [List.take_zero];exact this,by omega⟩
  have d0:=HG0.o.bo.box.cell 0;clear hBe HB0;have HPM:Hid (∀ W m r b t,Calls Tryz.prog 64 #[.agg #[zI m,zI r,zI b,zI t]] W fun e w'=>Told W (Pr.mk m r b t).may e w'):=fun W m r b t=>within_any m r b t W;have HOF:Hid (∀ W m r b t,Calls Tryz.prog 63 #[.agg #[zI m,zI r,zI b,zI t]] W fun e w'=>e = .returned (.agg #[zI m,zI r,zI b])∧Below W.heap.size W w'):=fun W m r b t=>of_any m r b t W;go_enter Tryz.func30,Tryz.ntmps30;go_wp2_with fail;clear c0 d0 hmk hgt';generalize (w.alloc (.cells #[.slice a n cap] 34)).alloc (.map #[] 0)=W0 at *;go_loopw [20] (fun j wr=>∃ k:Nat,k≤n∧j=zI (k:Int)∧Hid (Seen l k)∧Bg w wr B a n cap l k) (fun j _=>n - (intOf j).toNat)
  case atStart=>exact ⟨0,Nat.zero_le _,rfl,fun i hi=>absurd hi (Nat.not_lt_zero _),HG0.o⟩
  case round=>
   obtain ⟨k,hk,rfl,HA,hbo⟩:=hrel;have HI:Hid (Bg w wr B a n cap l k):=hbo;clear hbo HG0;by_cases hlt:k<n
   ·obtain ⟨bl,off,rfl,_,hc⟩:=HI.o.bo.row.at (by omega);obtain ⟨f0,f1,f2,f3⟩:=hc k hlt;have hkl:k<l.length:=by rw [HL.o];exact hlt
    have HNO:Hid (look (l.take k) (l.getD k pr0).m (l.getD k pr0).r (l.getD k pr0).b≠none→¬ May l):=fun h hm=>h (seen_no hkl hm);have HN1:Hid (May l→(Pr.mk (l.getD k pr0).m (l.getD k pr0).r (l.getD k pr0).b (l.getD k pr0).t).may):=fun hm=>(hm.each k hkl).1;have HNX:Hid (look (l.take k) (l.getD k pr0).m (l.getD k pr0).r (l.getD k pr0).b=none→(Pr.mk (l.getD k pr0).m (l.getD k pr0).r (l.getD k pr0).b (l.getD k pr0).t).may→Seen l (k+1)):=fun h1 h2=>seen_yes hkl HA.o h1 h2;have HPUT:Hid (∀ v W,Bg w v B (some ⟨bl,off,none⟩) n cap l k→Mp W B (l.take k++[⟨(l.getD k pr0).m,(l.getD k pr0).r,(l.getD k pr0).b,(l.getD k pr0).t⟩])→(∀ G,G≠B→W.heap[G]?=v.heap[G]?)→(∀ B0 w0,B0≤B→Below B0 w0 v→Below B0 w0 W)→Bg w W B (some ⟨bl,off,none⟩) n cap l (k+1)):=fun v W h1 h2 h3 h4=>h1.put hkl h2 h3 h4;clear hc HA hkl;generalize (l.getD k pr0).m=pm at *;generalize (l.getD k pr0).r=prr at *;generalize (l.getD k pr0).b=pb at *;generalize (l.getD k pr0).t=pt at *;have hN:=Blk.new wr #[zI pm,zI prr,zI pb,zI pt] 158;have n0:=hN.cell 0;have n1:=hN.cell 1;have n2:=hN.cell 2;have n3:=hN.cell 3;have HNB:Hid (Blk (wr.alloc (.cells #[zI pm,zI prr,zI pb,zI pt] 158)) wr.heap.size #[zI pm,zI prr,zI pb,zI pt] 158):=hN;have HI2:Hid (Bg w (wr.alloc (.cells #[zI pm,zI prr,zI pb,zI pt] 158)) B (some ⟨bl,off,none⟩) n cap l k):=HI.o.alloc _;clear hN HI;go_wp2_with fail;refine (HOF.o _ _ _ _ _).mono ?_;rintro e w2 ⟨rfl,hb2⟩;have HI3:Hid (Bg w w2 B (some ⟨bl,off,none⟩) n cap l k):=HI2.o.next hb2;have HM:=shN HNB hb2;have m0:=HM.o.cell 0;have m1:=HM.o.cell 1;have m2:=HM.o.cell 2;have m3:=HM.o.cell 3;have hlk:=look_run HI3.o.mp pm prr pb;clear HNB hb2 n0 n1 n2 n3 HI2 f0 f1 f2 f3;generalize wr.heap.size=gn at *;cases hlo:look (l.take k) pm prr pb with
    | some x=>
     rw [hlo] at hlk;simp only [Option.getD_some,Option.isSome_some] at hlk;have HF:Hid (¬ May l):=HNO.o (by rw [hlo];exact fun h=>by cases h);clear hlo;go_wp2_with fail;go_ret2;exact ⟨HI3.o.bo.bel,.inr ⟨HF.o,rfl⟩⟩
    | none=>
     rw [hlo] at hlk;simp only [Option.getD_none,Option.isSome_none] at hlk;have HLO:Hid (look (l.take k) pm prr pb=none):=hlo;clear hlo;go_wp2_with fail;refine (HPM.o _ _ _ _ _).mono ?_;rintro e w3 ⟨rr,rfl,hrr,hb3⟩;have HI4:Hid (Bg w w3 B (some ⟨bl,off,none⟩) n cap l k):=HI3.o.next hb3;have HM3:=shN HM hb3;clear hlk m0 m1 m2 m3 HM HI3 hb3;cases rr with
     | false=>
      have HF:Hid (¬ May l):=fun hm=>by have:=hrr.2 (HN1.o hm);cases this
      clear hrr;go_wp2_with fail;go_ret2;exact ⟨HI4.o.bo.bel,.inr ⟨HF.o,rfl⟩⟩
     | true=>
      have HPY:Hid ((Pr.mk pm prr pb pt).may):=hrr.1 rfl;clear hrr;have K3:Hid (w3.drew.cell? ⟨gn,0,none⟩=some (zI pm)∧w3.drew.cell? ⟨gn,0+1,none⟩=some (zI prr)∧w3.drew.cell? ⟨gn,0+2,none⟩=some (zI pb)∧w3.drew.cell? ⟨gn,0+3,none⟩=some (zI pt)):=⟨HM3.o.cell 0,HM3.o.cell 1,HM3.o.cell 2,HM3.o.cell 3⟩
      have HI5:Hid (Bg w w3.drew B (some ⟨bl,off,none⟩) n cap l k):=HI4.o.drew 1;have HM5:Hid (Blk w3.drew gn #[zI pm,zI prr,zI pb,zI pt] 158):=HM3.o;go_wp2_with fail
      go_region_held_law (fun v=>v.cell? ⟨gn,0,none⟩=some (zI pm)∧v.cell? ⟨gn,0+1,none⟩=some (zI prr)∧v.cell? ⟨gn,0+2,none⟩=some (zI pb)∧v.cell? ⟨gn,0+3,none⟩=some (zI pt))
       (first | with_reducible exact K3.o | with_reducible exact K4.o | with_reducible exact K5.o)
       (first
        | (go_at_call 63;refine (HOF.o _ _ _ _ _).mono ?_;rintro e w4 ⟨rfl,hb4⟩
           have HI6:Hid (Bg w w4 B (some ⟨bl,off,none⟩) n cap l k):=HI5.o.next hb4;have HM6:=shN HM5 hb4;have K4:Hid (w4.cell? ⟨gn,0,none⟩=some (zI pm)∧w4.cell? ⟨gn,0+1,none⟩=some (zI prr)∧w4.cell? ⟨gn,0+2,none⟩=some (zI pb)∧w4.cell? ⟨gn,0+3,none⟩=some (zI pt)):=⟨HM6.o.cell 0,HM6.o.cell 1,HM6.o.cell 2,HM6.o.cell 3⟩
           obtain ⟨W5,hu5,hm5,ho5,hb5,hs5⟩:=upd_run HI6.o.mp pm prr pb pt HLO.o;have HI7:Hid (Bg w W5 B (some ⟨bl,off,none⟩) n cap l (k+1)):=HPUT.o _ _ HI6.o hm5 ho5 hb5;have hM7:=blk_oth HM6.o HI6.o.mp ho5;have K5:Hid (W5.cell? ⟨gn,0,none⟩=some (zI pm)∧W5.cell? ⟨gn,0+1,none⟩=some (zI prr)∧W5.cell? ⟨gn,0+2,none⟩=some (zI pb)∧W5.cell? ⟨gn,0+3,none⟩=some (zI pt)):=⟨hM7.cell 0,hM7.cell 1,hM7.cell 2,hM7.cell 3⟩
           clear hm5 ho5 hb5 hs5 hM7 hb4))
      all_goals go_wp2_with fail
      all_goals go_roundw
      case rel=>exact ⟨k+1,by omega,by go_num,HNX.o HLO.o HPY.o,HI7.o⟩
      case measure=>simp [intOf];omega
   ·obtain rfl:k=n:=by omega
    have hlt':decide ((k:Int)<(k:Int))=false:=by simp
    have HF:Hid (May l):=⟨by rw [HL.o];exact hn,fun i hi=>HA.o i (by rw [← HL.o];exact hi)⟩
    have HM:Hid (Mp wr B l):=by have:=HI.o.mp;rw [List.take_of_length_le (by rw [HL.o];exact Nat.le_refl _)] at this;exact this
    clear hlt HA;go_wp2_with fail;go_ret2;exact ⟨HI.o.bo.bel,.inl ⟨HF.o,B,rfl,HM.o⟩⟩
 ·have hgt':decide ((500:Int)<(n:Int))=true:=by simp;omega
  have HF:Hid (¬ May l):=fun h=>by have:=h.few;rw [HL.o] at this;omega
  clear hn HL;go_enter Tryz.func30,Tryz.ntmps30;go_wp2_with fail;go_ret2;exact ⟨HB0.o.bel,.inr ⟨HF.o,rfl⟩⟩
end ora
namespace acc
open tar (Du du0 Came RowD Ld PairT)
open Go.RowKit
structure Chg (w W:World) (g:Nat):Prop where
 os:W.os=w.os
 tape:W.tape=w.tape
 output:W.output=w.output
 size:w.heap.size≤W.heap.size
 oth:∀ k,k<w.heap.size→k≠g→W.heap[k]?=w.heap[k]?
theorem Chg.refl (w:World) (g:Nat):Chg w w g:=⟨rfl,rfl,rfl,Nat.le_refl _,fun _ _ _=>rfl⟩
theorem Chg.trans {w W V:World} {g:Nat} (h:Chg w W g) (h':Chg W V g):Chg w V g:=
 ⟨h'.os.trans h.os,h'.tape.trans h.tape,h'.output.trans h.output,Nat.le_trans h.size h'.size,fun k hk hne=>(h'.oth k (Nat.lt_of_lt_of_le hk h.size) hne).trans (h.oth k hk hne)⟩
theorem Chg.of {w W:World} {g:Nat} (hb:Below w.heap.size w W):Chg w W g:=⟨hb.os,hb.tape,hb.output,hb.size,fun k hk _=>hb.block k hk⟩
theorem Chg.upd {w W:World} {g:Nat} {cs:Array Value} {t:TypeId} (hu:Upd w W g cs t):Chg w W g:=by
 have h:=hu.bel 0 w (Nat.zero_le _) (Below.refl _ _);exact ⟨h.os,h.tape,h.output,h.size,fun k _ hne=>hu.oth k hne⟩
theorem Chg.keep {w W:World} {g G:Nat} {cs:Array Value} {t:TypeId} (h:Chg w W g) (hb:Blk w G cs t) (hne:G≠g):Blk W G cs t:=by
 have hl:=hb.lt;unfold Blk at *;rw [h.oth G hl hne];exact hb
theorem Chg.bel {w W:World} {g:Nat} (h:Chg w W g) (hl:g≤w.heap.size):Below g w W:=
 ⟨h.os,h.tape,h.output,h.size,fun k hk=>h.oth k (by omega) (by omega)⟩
def Far (p:Option Addr) (len g:Nat):Prop:=0<len→∀ y,p=some y→y.block≠g
theorem row_chg {w W:World} {g:Nat} {p:Option Addr} {len:Nat} {l:List Du} (h:RowD w p len l) (hc:Chg w W g) (hf:Far p len g):RowD W p len l:=by
 refine ⟨h.1,?_⟩;rcases Nat.eq_zero_or_pos len with h0 | h0
 ·exact .inl h0
 ·obtain ⟨b,off,rfl,hb,hcs⟩:=h.at h0;have hne:b≠g:=hf h0 _ rfl;refine .inr ⟨b,off,rfl,fun i hi=>?_⟩;have e:∀ o,W.cell? ⟨b,o,none⟩=w.cell? ⟨b,o,none⟩:=fun o=>by simp only [World.cell?,hc.oth b hb hne]
  rw [e,e];exact hcs i hi
theorem came_chg {w W:World} {g:Nat} {p:Option Addr} {len cap:Nat} {l:List Du} (h:Came w p len cap l) (hc:Chg w W g) (hf:Far p len g):Came W p len cap l:=⟨row_chg h.row hc hf,h.nil,h.room,h.bytes,h.wf⟩
theorem fresh_far {w:World} {g:Nat} {p:Option Addr} {len cap:Nat} {l:List Du} (h:deb.Fresh w (g+1) p len cap l):Far p len g:=fun hn y hy=>by have:=h.new hn y hy;omega
theorem fresh_chg {w W:World} {g:Nat} {p:Option Addr} {len cap:Nat} {l:List Du} (h:deb.Fresh w (g+1) p len cap l) (hc:Chg w W g):deb.Fresh W (g+1) p len cap l:=⟨came_chg h.came hc (fresh_far h),h.new⟩
def wcs (x:Ac) (b:Bi) (p:Option Addr) (len cap:Nat):Array Value:=#[zI x.me,zI x.rv,zI x.nx,zI x.mo,zI x.bo,zI x.fr,.slice p len cap,zI b.id,zI b.te,zI b.de,zI b.fe,zI b.pr,zI b.ch,zI b.un]
def WPost (w:World) (g:Nat) (R:Ac→Bi→Int→Prop) (e:Ending) (w':World):Prop:=∃ y b q n c f,e = .returned (zI f)∧R y b f∧Blk w' g (wcs y b q n c) 233∧deb.Fresh w' (g+1) q n c y.ds∧Below g w w'
def DPost (w:World) (g:Nat) (R:Ac→Bi→Int→Prop) (e:Ending) (w':World):Prop:=∃ y b q n c f,e = .returned (zI f)∧R y b f∧Blk w' g (wcs y b q n c) 233∧deb.Fresh w' (g+1) q n c y.ds∧Chg w w' g
theorem DPost.w {w w':World} {g:Nat} {R:Ac→Bi→Int→Prop} {e:Ending} (h:DPost w g R e w') (hl:g≤w.heap.size):WPost w g R e w':=by
 obtain ⟨y,b,q,n,c,f,h1,h2,h3,h4,h5⟩:=h;exact ⟨y,b,q,n,c,f,h1,h2,h3,h4,h5.bel hl⟩
def Or0 (Is:Ac→Bi→Int→Prop) (y:Ac) (b:Bi) (f:Int):Prop:=(f≠0∧Is ac0 bi0 f)∨(f=0∧Is y b 0)
theorem blk_new4 (w:World) (o p q r:Obj) (cs:Array Value) (t:TypeId):Blk (((((w.alloc o).alloc p).alloc q).alloc r).alloc (.cells cs t)) (w.heap.size+1+1+1+1) cs t:=by
 have h:=Blk.new ((((w.alloc o).alloc p).alloc q).alloc r) cs t
 rwa [show ((((w.alloc o).alloc p).alloc q).alloc r).heap.size=w.heap.size+1+1+1+1 by simp] at h
theorem blk_new5 (w:World) (o p q r s:Obj) (cs:Array Value) (t:TypeId):Blk ((((((w.alloc o).alloc p).alloc q).alloc r).alloc s).alloc (.cells cs t)) (w.heap.size+1+1+1+1+1) cs t:=by
 have h:=Blk.new (((((w.alloc o).alloc p).alloc q).alloc r).alloc s) cs t
 rwa [show (((((w.alloc o).alloc p).alloc q).alloc r).alloc s).heap.size=w.heap.size+1+1+1+1+1 by simp] at h
theorem wp_letOp1 {P:Program} {o:Oper} {a:Act} {w:World} {K:Act→World→Prop} {Q:Exit→Act→World→Prop} (ty:TypeId) (x y:Operand) (ho:o.op = .store ty x y)
  (g off:Nat) (hx:a.eval x = .pointer (some ⟨g,off,none⟩)) (v:Value) (hy:a.eval y=v) (hv:v.cells=#[v]) (hi:(P.info? ty).map (·.size)=some 1) (h1:v.oneCell'=true)
  (cs:Array Value) (t:TypeId) (hB:Blk w g cs t) (hin:off<cs.size) (hd:o.dst=none)
  (h:∀ W,Upd w W g (cs.setIfInBounds off v) t→K a W):o.wp P a w K Q:=by
 have hs:=run_storeVar_let (P:=P) (w:=w) (g:=g) (off:=off) (ty:=ty) (t:=t) (v:=v) (cells:=#[v]) (cs:=cs) hv (by simpa using hi) (by simpa using h1) hB (by simp;omega);have hu:=upd_cells g t [v] off w cs hB;unfold Oper.wp execOp;simp only [ho,hx,hy,Instr.storeAt,Instr.sureAddr,Sem.run_bind,Sem.run_pure,Result.andThen_ok,hs];have:=h _ hu;have e:a.put o.dst undef=a:=by rw [hd];rfl
 rw [← e] at this;exact this
end acc
end Go.Proofs.YtdpfnedfakgolaaGreatDoor
